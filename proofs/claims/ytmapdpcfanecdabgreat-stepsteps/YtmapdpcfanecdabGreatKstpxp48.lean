/- The document's step: a test. -/
import Derived.Test.YtmapdpcfanecdabGreatKstpxp47
import Derived.Test.YtmapdpcfanecdabGreatKstpxp01
import Derived.Deep.DeepCutAuto
import Derived.Deep.RegionHeld
import Derived.WalkKit
import Derived.WalkSpells
import Derived.WalkLawsBesides
import Derived.Handy
set_option linter.unusedSimpArgs false
set_option linter.unusedVariables false
namespace Go.Proofs.YtmapdpcfanecdabGreat
section
set_option maxHeartbeats 8000000
set_option maxRecDepth 10000
open Go.RowKit
attribute [local go_sem ↓] Go.wp_at_zero Go.wp_at_succ

theorem ch_put (n sb : Nat) (eb : Option Nat) (i : Ins) (V F : Int) (s : Option Addr) (c : List Ins) (cap : Nat) (at_ : Int) (x : Pic) (vs : Option Addr) (vc : Nat) (fs : Option Addr) (fc : Nat) (ev : Value) (wr fl : Bool) (tb pb : Nat) (ss : Option Addr) (gc : Nat) (w0 w : World) (hS : Cells w sb (stpC i V F s c cap at_ x vs vc fs fc ev wr fl)) (hP : Cells w pb [.pointer (some ⟨sb, 0, none⟩)]) (hT : Cells w tb [.slice ss (gAt x i.a).s.length gc]) (hc0 : CodeAt w0 s c) (hx0 : PicAt w0 x vs fs) (hi0 : IntsAt w0 ss (gAt x i.a).s) (hB0 : Below w0.heap.size w0 w) (K : SCtx V F c x vc fc i at_) (hA : nA i.k = true) (hBB : nB i.k = true) (hN : ∃ p : Nat, i.n = p ∧ (p : Int) < F) (hn : n ≤ w.heap.size) (he : ∀ b, eb = some b → b < w.heap.size) :
  ChangeC 81 (fun p => #[p, .pointer (some ⟨tb, 0, none⟩), .pointer (some ⟨pb, 0, none⟩)]) n sb eb w x (putPic x i.n (gAt x i.b) (gAt x i.a).s) := by
 intro wx xb v gs gcc L hb hp
 obtain ⟨zxb, A, G, OF, EX⟩ := hp
 have hck := gAt_ck K.kx i.a
 have hbk := gAt_ck K.kx i.b
 have h60 : c.length ≤ 60 := K.lens.2.1
 have HOK : Hid (∀ j, PicOk V F c (putPic x i.n (gAt x i.b) ((gAt x i.a).s.take j))) := fun j => putPic_ok K.kx i.n hbk _ fun q hq => (ckGs_iff.1 hck).2.1 q (List.mem_of_mem_take hq)
 have HST : Hid (∀ q ∈ (gAt x i.a).s, ∃ m : Nat, q = m ∧ m < c.length) := fun q hq => by
  have h := isSite_range ((ckGs_iff.1 hck).2.1 q hq)
  obtain ⟨m, em⟩ := Int.eq_ofNat_of_zero_le h.1
  exact ⟨m, em, by omega⟩
 have hl60 : (gAt x i.a).s.length ≤ 60 := rising_len (ckGs_iff.1 hck).2.2 (ckGs_sites h60 hck).1
 obtain ⟨kb, ekb, hkb⟩ := K.varB hBB
 have egb : gAt x i.b = x.vars[kb] := by rw [ekb, gAt_get hkb]
 rw [egb] at HOK hbk ⊢
 obtain ⟨b1, o1, e1, ss1, g1, G1, I1, k1, m1⟩ := hx0.1 kb hkb
 subst e1
 obtain ⟨p, ep, hpF⟩ := hN
 have kb0 : (0 : Int) ≤ (kb : Int) := by omega
 have kb1 : (kb : Int) < (x.vars.length : Int) := by omega
 have p0 : (0 : Int) ≤ (p : Int) := by omega
 have HJ : Hid (∀ wz, Below w.heap.size w wz → ∀ (g : Gs) (sg : Option Addr) (cg : Nat), IntsAt wz sg g.s → g.s.length ≤ cg → cg ≤ maxLen → ckGs c g = 0 → Calls Tryz.prog 82 #[pv V F s c cap, gv g sg cg, gv x.vars[kb] ss1 g1] wz fun e w' => (∃ js jc, e = .returned (.tuple #[.agg #[.bool (joinGs false g x.vars[kb]).n, .bool (joinGs false g x.vars[kb]).sp.n, .int .i64 (joinGs false g x.vars[kb]).sp.lo, .int .i64 (joinGs false g x.vars[kb]).sp.hi, .bool (joinGs false g x.vars[kb]).t, .bool (joinGs false g x.vars[kb]).f, .slice js (joinGs false g x.vars[kb]).s.length jc], .int .i64 0]) ∧ IntsAt w' js (joinGs false g x.vars[kb]).s ∧ (joinGs false g x.vars[kb]).s.length ≤ jc ∧ jc ≤ maxLen ∧ ∀ a, js = some a → wz.heap.size ≤ a.block) ∧ Below wz.heap.size wz w') := fun wz hz g sg cg q1 q2 q3 q4 => by
  have hbb := hB0.trans (hz.mono hB0.size)
  have h := made_join (s := s) (cap := cap) K.h0 g sg cg x.vars[kb] ss1 g1 wz (hc0.below hbb (Nat.le_refl _)) q1 q2 q3 (I1.below hbb (Nat.le_refl _)) k1 m1 q4 hbk
  rw [tog_joinGs h60 q4 hbk] at h
  exact h
 have HSP : Hid (∀ wz, Below w.heap.size w wz → wz.cell? ⟨pb, 0, none⟩ = some (.pointer (some ⟨sb, 0, none⟩)) ∧ (wz.cell? ⟨sb, 6, none⟩ = some (.int .i64 V) ∧ wz.cell? ⟨sb, 7, none⟩ = some (.int .i64 F) ∧ wz.cell? ⟨sb, 8, none⟩ = some (.slice s c.length cap)) ∧ (wz.cell? ⟨sb, 3, none⟩ = some (.int .i64 (kb : Int)) ∧ wz.cell? ⟨sb, 11, none⟩ = some (.slice (some ⟨b1, o1, none⟩) x.vars.length vc)) ∧ (wz.cell? ⟨b1, o1 + kb * 7, none⟩ = some (.bool x.vars[kb].n) ∧ wz.cell? ⟨b1, o1 + kb * 7 + 1, none⟩ = some (.bool x.vars[kb].sp.n) ∧ wz.cell? ⟨b1, o1 + kb * 7 + 2, none⟩ = some (.int .i64 x.vars[kb].sp.lo) ∧ wz.cell? ⟨b1, o1 + kb * 7 + 3, none⟩ = some (.int .i64 x.vars[kb].sp.hi) ∧ wz.cell? ⟨b1, o1 + kb * 7 + 4, none⟩ = some (.bool x.vars[kb].t) ∧ wz.cell? ⟨b1, o1 + kb * 7 + 5, none⟩ = some (.bool x.vars[kb].f) ∧ wz.cell? ⟨b1, o1 + kb * 7 + 6, none⟩ = some (.slice ss1 x.vars[kb].s.length g1)) ∧ wz.cell? ⟨sb, 4, none⟩ = some (.int .i64 (p : Int)) ∧ wz.cell? ⟨tb, 0, none⟩ = some (.slice ss (gAt x i.a).s.length gc)) := fun wz hz => by
  have hbb := hB0.trans (hz.mono hB0.size)
  have h := hS.call hz
  exact ⟨(hP.call hz).1 0 _ rfl, ⟨h.1 6 _ rfl, h.1 7 _ rfl, h.1 8 _ rfl⟩, ⟨by rw [← ekb]; exact h.1 3 _ rfl, h.1 11 _ rfl⟩, (G1.below hbb (Nat.le_refl _)).1, by rw [← ep]; exact h.1 4 _ rfl, (hT.call hz).1 0 _ rfl⟩
 have HII : Hid (∀ wz, Below w.heap.size w wz → IntsAt wz ss (gAt x i.a).s) := fun wz hz => hi0.below (hB0.trans (hz.mono hB0.size)) (Nat.le_refl _)
 have HZ0 : Hid (sb < w.heap.size ∧ n ≤ w.heap.size ∧ ∀ b, eb = some b → b < w.heap.size) := ⟨hS.2.1, hn, he⟩
 have HEP : Hid (i.n = p) := ep
 have HPF : Hid ((p : Int) < F) := hpF
 have HBK : Hid (ckGs c x.vars[kb] = 0) := hbk
 have HXX : Hid (picOf false v L = putPic x i.n x.vars[kb] ((gAt x i.a).s.take 0)) := by show _ = _; rw [EX]; simp [putPic]
 clear hS hP hT hc0 hx0 hi0 hB0 K hA hBB hn he ekb egb ep hpF hbk hck EX G1 I1 k1 m1
 generalize eL : (gAt x i.a).s = l at *
 clear eL
 have hcz := (HSP.out wx hb).2.2.2.2.2
 go_enter Tryz.func81, Tryz.ntmps81
 go_wp2
 clear hcz
 go_loopw [9] (fun i_ wr => ∃ (j : Nat) (L' : List Ro), j ≤ l.length ∧ i_ = .int .i64 j ∧ Cells wr xb [.bool false, .slice v.rs v.l.length v.rc, .slice gs L'.length gcc] ∧ PicG (ClT n sb eb xb) w.heap.size wr v gs gcc L' ∧ Off v (Value.slice gs L'.length gcc).ownBlock L' xb ∧ Hid (picOf false v L' = putPic x i.n x.vars[kb] (l.take j)) ∧ Below w.heap.size wx wr ∧ Below w.heap.size w wr) (fun i_ _ => l.length - (intOf i_).toNat)
 case atStart => exact ⟨0, L, Nat.zero_le _, rfl, A, G, OF, HXX, Below.refl _ _, hb⟩
 case round =>
  clear A G OF HXX hb
  obtain ⟨j, L', hj, rfl, AR, GR, OR, EP, BR, CR⟩ := hrel
  by_cases hlt : j < l.length
  ·have j0 : (0 : Int) ≤ (j : Int) := by omega
   have j1 : (j : Int) < (l.length : Int) := by omega
   obtain ⟨m, em, hmc⟩ := HST.out _ (List.getElem_mem hlt)
   have hok := HOK.out j
   rw [← EP.out] at hok
   have hrw := picOf_row hok
   have hmL : m < L'.length := by rw [hrw.1]; exact hmc
   have hpL : p < L'[m].l.length := by have := hrw.2 m hmL; have := HPF.out; omega
   have m0 : (0 : Int) ≤ (m : Int) := by omega
   have m1 : (m : Int) < (L'.length : Int) := by omega
   have p1 : (p : Int) < (L'[m].l.length : Int) := by omega
   obtain ⟨tb1, to1, ess, zt, hct⟩ := (HII.out wr CR).get j hlt
   have hcj := hct j hlt
   rw [em] at hcj
   obtain ⟨fb, efb, hfb, zfb, hcm⟩ := GR.fform (by omega)
   have RW := GR.rows _ (List.getElem_mem hmL)
   obtain ⟨rb, erb, erB, hrb, zrb⟩ := RW.form (by omega)
   have nxr : xb ≠ rb := fun e => OR.2.2 _ (List.getElem_mem hmL) (by rw [erB, e])
   obtain ⟨y, EY0⟩ : ∃ y, L'[m].l[p] = y := ⟨_, rfl⟩
   have EY : Hid (L'[m].l[p] = y) := EY0
   have YC := GR.sf _ (List.getElem_mem hmL) _ (List.getElem_mem hpL)
   rw [EY0] at YC
   have YK : ckGs c y.g = 0 := by
    have h := fAt_ck hok (m : Int) (p : Int)
    rw [picOf_fAt hmL hpL, EY0] at h
    exact h
   have HFA : Hid (fAt (picOf false v L') (m : Int) (p : Int) = y.g) := by show _ = _; rw [picOf_fAt hmL hpL, EY0]
   have hdw : Below wr.heap.size wr wr.drew := (Below.refl _ _).drew
   have hcm' := hcm m hmL
   unfold roV at hcm'
   rw [erb] at hcm'
   subst efb
   have A3 := AR.call hdw
   have HK3 : Hid (wr.drew.cell? ⟨xb, 2, none⟩ = some (.slice (some ⟨fb, 0, none⟩) L'.length gcc) ∧ wr.drew.cell? ⟨pb, 0, none⟩ = some (.pointer (some ⟨sb, 0, none⟩)) ∧ wr.drew.cell? ⟨sb, 4, none⟩ = some (.int .i64 (p : Int)) ∧ wr.drew.cell? ⟨fb, m, none⟩ = some (.slice (some ⟨rb, 0, none⟩) L'[m].l.length L'[m].rc)) := ⟨A3.1 2 _ rfl, (HSP.out _ CR.drew).1, (HSP.out _ CR.drew).2.2.2.2.1, by rw [hdw.cell (by simp only; exact zfb)]; exact hcm'⟩
   have HEM : Hid (l[j] = (m : Int)) := em
   clear em hcm hcm' hct A3 EY0 hok hrw
   subst ess
   have hhj := hideH hcj
   have A4 := AR.call hdw
   have G4 := GR.call hdw
   have B4 := BR.drew
   have C4 := CR.drew
   clear AR GR BR CR RW YC hdw hfb zfb zrb erB
   go_upto_region 3 with fail
   refine wp_region_z (S := (fun wx => wx.cell? ⟨xb, 2, none⟩ = some (.slice (some ⟨fb, 0, none⟩) L'.length gcc) ∧ wx.cell? ⟨pb, 0, none⟩ = some (.pointer (some ⟨sb, 0, none⟩)) ∧ wx.cell? ⟨sb, 4, none⟩ = some (.int .i64 (p : Int)) ∧ wx.cell? ⟨fb, m, none⟩ = some (.slice (some ⟨rb, 0, none⟩) L'[m].l.length L'[m].rc))) [] (by kernel_rfl) HK3.out (fun hHeld => ?_)
   generalize wr.drew = w4 at *
   refine tZ 0 ?_ ?_;refine sm ?_
   refine tZ 1 ?_ ?_;refine sm ?_
   refine tZ 2 ?_ ?_;refine sm ?_
   refine tZ 3 ?_ ?_;refine sm ?_
   refine tZ 4 ?_ ?_;refine sm ?_
   refine tZ 5 ?_ ?_;refine sm ?_
   refine tZ 6 ?_ ?_;refine sm ?_
   refine tZ 7 ?_ ?_;refine sm ?_
   refine tZ 8 ?_ ?_;refine sm ?_
   refine tZ 9 ?_ ?_;refine sm ?_
   refine tZ 10 ?_ ?_;refine sm ?_
   refine tZ 11 ?_ ?_;refine sm ?_
   refine tZ 12 ?_ ?_;refine sm ?_
   refine tZ 13 ?_ ?_;refine sm ?_
   refine wpAnyZ_done (by kernel_rfl) ?_ _
   clear HK3 hcj hhj
   have hd4 : Below w4.heap.size w4 w4.drew := (Below.refl _ _).drew
   have A5 := A4.call hd4
   have G5 := G4.call hd4
   have B5 := B4.drew
   have C5 := C4.drew
   clear A4 G4 B4 C4 hd4
   have YC := G5.sf _ (List.getElem_mem hmL) _ (List.getElem_mem hpL)
   rw [EY.out] at YC
   have YI := YC.1.at
   have Y1 := YC.2.1
   have Y2 := YC.2.2
   have CW := C5
   have HZ : Hid (sb < w4.drew.heap.size ∧ n ≤ w4.drew.heap.size ∧ ∀ b, eb = some b → b < w4.drew.heap.size) := ⟨Nat.lt_of_lt_of_le HZ0.out.1 C5.size, Nat.le_trans HZ0.out.2.1 C5.size, fun b hb => Nat.lt_of_lt_of_le (HZ0.out.2.2 b hb) C5.size⟩
   have HK4 : Hid (∀ wz, Below w4.drew.heap.size w4.drew wz → wz.cell? ⟨pb, 0, none⟩ = some (.pointer (some ⟨sb, 0, none⟩)) ∧ (wz.cell? ⟨sb, 6, none⟩ = some (.int .i64 V) ∧ wz.cell? ⟨sb, 7, none⟩ = some (.int .i64 F) ∧ wz.cell? ⟨sb, 8, none⟩ = some (.slice s c.length cap)) ∧ (wz.cell? ⟨sb, 3, none⟩ = some (.int .i64 (kb : Int)) ∧ wz.cell? ⟨sb, 11, none⟩ = some (.slice (some ⟨b1, o1, none⟩) x.vars.length vc)) ∧ (wz.cell? ⟨b1, o1 + kb * 7, none⟩ = some (.bool x.vars[kb].n) ∧ wz.cell? ⟨b1, o1 + kb * 7 + 1, none⟩ = some (.bool x.vars[kb].sp.n) ∧ wz.cell? ⟨b1, o1 + kb * 7 + 2, none⟩ = some (.int .i64 x.vars[kb].sp.lo) ∧ wz.cell? ⟨b1, o1 + kb * 7 + 3, none⟩ = some (.int .i64 x.vars[kb].sp.hi) ∧ wz.cell? ⟨b1, o1 + kb * 7 + 4, none⟩ = some (.bool x.vars[kb].t) ∧ wz.cell? ⟨b1, o1 + kb * 7 + 5, none⟩ = some (.bool x.vars[kb].f) ∧ wz.cell? ⟨b1, o1 + kb * 7 + 6, none⟩ = some (.slice ss1 x.vars[kb].s.length g1))) := fun wz hz => by
    have h := HSP.out wz (C5.trans (hz.mono C5.size))
    exact ⟨h.1, h.2.1, h.2.2.1, h.2.2.2.1⟩
   have GU5 := (G5.rows _ (List.getElem_mem hmL)).gu erb (k := p) hpL
   rw [EY.out] at GU5
   have hcs := C5.size
   clear YC
   go_upto_region 4 with fail
   refine wp_region_z (S := (fun wx => wx.cell? ⟨pb, 0, none⟩ = some (.pointer (some ⟨sb, 0, none⟩)) ∧ (wx.cell? ⟨sb, 6, none⟩ = some (.int .i64 V) ∧ wx.cell? ⟨sb, 7, none⟩ = some (.int .i64 F) ∧ wx.cell? ⟨sb, 8, none⟩ = some (.slice s c.length cap)) ∧ (wx.cell? ⟨sb, 3, none⟩ = some (.int .i64 (kb : Int)) ∧ wx.cell? ⟨sb, 11, none⟩ = some (.slice (some ⟨b1, o1, none⟩) x.vars.length vc)) ∧ (wx.cell? ⟨b1, o1 + kb * 7, none⟩ = some (.bool x.vars[kb].n) ∧ wx.cell? ⟨b1, o1 + kb * 7 + 1, none⟩ = some (.bool x.vars[kb].sp.n) ∧ wx.cell? ⟨b1, o1 + kb * 7 + 2, none⟩ = some (.int .i64 x.vars[kb].sp.lo) ∧ wx.cell? ⟨b1, o1 + kb * 7 + 3, none⟩ = some (.int .i64 x.vars[kb].sp.hi) ∧ wx.cell? ⟨b1, o1 + kb * 7 + 4, none⟩ = some (.bool x.vars[kb].t) ∧ wx.cell? ⟨b1, o1 + kb * 7 + 5, none⟩ = some (.bool x.vars[kb].f) ∧ wx.cell? ⟨b1, o1 + kb * 7 + 6, none⟩ = some (.slice ss1 x.vars[kb].s.length g1)))) [] (by kernel_rfl) (HK4.out _ (Below.refl _ _)) (fun hHeld => ?_)
   generalize w4.drew = w5 at *
   refine tZ 0 ?_ ?_;refine sm ?_
   refine tZ 1 ?_ ?_;refine sm ?_
   refine tZ 2 ?_ ?_;refine sm ?_
   refine tZ 3 ?_ ?_;refine sm ?_
   refine tZ 4 ?_ ?_;refine sm ?_
   refine tZ 5 ?_ ?_;refine sm ?_
   refine tZ 6 ?_ ?_;refine sm ?_
   refine tZ 8 ?_ ?_;refine sm ?_
   refine tZ 9 ?_ ?_;refine sm ?_
   refine tZ 10 ?_ ?_;refine sm ?_
   refine tZ 11 ?_ ?_;refine sm ?_
   refine tZ 12 ?_ ?_;refine sm ?_
   refine tZ 13 ?_ ?_;refine sm ?_
   refine tZ 14 ?_ ?_;refine sm ?_
   refine tZ 15 ?_ ?_;refine sm ?_
   refine tZ 16 ?_ ?_;refine sm ?_
   refine tZ 17 ?_ ?_;refine sm ?_
   refine tZ 18 ?_ ?_;refine sm ?_
   refine tZ 19 ?_ ?_;refine sm ?_
   refine wpAnyZ_one (i := 7) rfl (by kernel_rfl) (fun K hK => ?_)
   obtain ⟨⟨q0, q1, q2, q3, q4, q5, q6⟩, qz⟩ := id GU5
   go_simp
   refine hK.out _ _ (HK4.out w5 (Below.refl _ _)) (fun hHeld => ?_)
   clear hK K q0 q1 q2 q3 q4 q5 q6 qz
   refine sm ?_
   refine wpAnyZ_one (i := 20) rfl (by kernel_rfl) (fun K hK => ?_)
   go_simp
   refine (HJ.out w5 CW y.g y.ss y.cap YI Y1 Y2 YK).mono ?_
   rintro e w6 ⟨⟨js, jc, rfl, JI, J1, J2, JF⟩, hb6⟩
   refine hK.out _ _ (HK4.out w6 hb6) (fun hHeld => ?_)
   clear hK K
   refine sm ?_
   have G6 := G5.call hb6
   have JG := gcIn_new (y := ⟨joinGs false y.g x.vars[kb], js, jc⟩) JI JF J1 J2 G5 A5.2.1 HZ.out.1 HZ.out.2.1 HZ.out.2.2
   have GS := G6.setF hmL erb hpL JG
   have RW6 := G6.rows _ (List.getElem_mem hmL)
   have GU := RW6.gu erb (k := p) hpL
   rw [EY.out] at GU
   have TH := hideH (RW6.thaw erb)
   have A6 := A5.call hb6
   have A7 : Cells (set7 w6 rb p ⟨joinGs false y.g x.vars[kb], js, jc⟩) xb [.bool false, .slice v.rs v.l.length v.rc, .slice (some ⟨fb, 0, none⟩) L'.length gcc] := A6.same (heap_set7 nxr) (by rw [size_set7]; exact Nat.le_refl _)
   have B7 : Below w.heap.size wx (set7 w6 rb p ⟨joinGs false y.g x.vars[kb], js, jc⟩) := below_set7 (B5.trans (hb6.mono hcs)) hrb
   have C7 : Below w.heap.size w (set7 w6 rb p ⟨joinGs false y.g x.vars[kb], js, jc⟩) := below_set7 (CW.trans (hb6.mono hcs)) hrb
   have HH : Hid (Cells (((((((w6.setCell ⟨rb, p * 7, none⟩ (.bool (joinGs false y.g x.vars[kb]).n)).setCell ⟨rb, p * 7 + 1, none⟩ (.bool (joinGs false y.g x.vars[kb]).sp.n)).setCell ⟨rb, p * 7 + 2, none⟩ (.int .i64 (joinGs false y.g x.vars[kb]).sp.lo)).setCell ⟨rb, p * 7 + 3, none⟩ (.int .i64 (joinGs false y.g x.vars[kb]).sp.hi)).setCell ⟨rb, p * 7 + 4, none⟩ (.bool (joinGs false y.g x.vars[kb]).t)).setCell ⟨rb, p * 7 + 5, none⟩ (.bool (joinGs false y.g x.vars[kb]).f)).setCell ⟨rb, p * 7 + 6, none⟩ (.slice js (joinGs false y.g x.vars[kb]).s.length jc)) xb [.bool false, .slice v.rs v.l.length v.rc, .slice (some ⟨fb, 0, none⟩) L'.length gcc] ∧ PicG (ClT n sb eb xb) w.heap.size (((((((w6.setCell ⟨rb, p * 7, none⟩ (.bool (joinGs false y.g x.vars[kb]).n)).setCell ⟨rb, p * 7 + 1, none⟩ (.bool (joinGs false y.g x.vars[kb]).sp.n)).setCell ⟨rb, p * 7 + 2, none⟩ (.int .i64 (joinGs false y.g x.vars[kb]).sp.lo)).setCell ⟨rb, p * 7 + 3, none⟩ (.int .i64 (joinGs false y.g x.vars[kb]).sp.hi)).setCell ⟨rb, p * 7 + 4, none⟩ (.bool (joinGs false y.g x.vars[kb]).t)).setCell ⟨rb, p * 7 + 5, none⟩ (.bool (joinGs false y.g x.vars[kb]).f)).setCell ⟨rb, p * 7 + 6, none⟩ (.slice js (joinGs false y.g x.vars[kb]).s.length jc)) v (some ⟨fb, 0, none⟩) gcc (L'.set m ⟨L'[m].rs, L'[m].rc, L'[m].l.set p ⟨joinGs false y.g x.vars[kb], js, jc⟩⟩) ∧ Below w.heap.size wx (((((((w6.setCell ⟨rb, p * 7, none⟩ (.bool (joinGs false y.g x.vars[kb]).n)).setCell ⟨rb, p * 7 + 1, none⟩ (.bool (joinGs false y.g x.vars[kb]).sp.n)).setCell ⟨rb, p * 7 + 2, none⟩ (.int .i64 (joinGs false y.g x.vars[kb]).sp.lo)).setCell ⟨rb, p * 7 + 3, none⟩ (.int .i64 (joinGs false y.g x.vars[kb]).sp.hi)).setCell ⟨rb, p * 7 + 4, none⟩ (.bool (joinGs false y.g x.vars[kb]).t)).setCell ⟨rb, p * 7 + 5, none⟩ (.bool (joinGs false y.g x.vars[kb]).f)).setCell ⟨rb, p * 7 + 6, none⟩ (.slice js (joinGs false y.g x.vars[kb]).s.length jc)) ∧ Below w.heap.size w (((((((w6.setCell ⟨rb, p * 7, none⟩ (.bool (joinGs false y.g x.vars[kb]).n)).setCell ⟨rb, p * 7 + 1, none⟩ (.bool (joinGs false y.g x.vars[kb]).sp.n)).setCell ⟨rb, p * 7 + 2, none⟩ (.int .i64 (joinGs false y.g x.vars[kb]).sp.lo)).setCell ⟨rb, p * 7 + 3, none⟩ (.int .i64 (joinGs false y.g x.vars[kb]).sp.hi)).setCell ⟨rb, p * 7 + 4, none⟩ (.bool (joinGs false y.g x.vars[kb]).t)).setCell ⟨rb, p * 7 + 5, none⟩ (.bool (joinGs false y.g x.vars[kb]).f)).setCell ⟨rb, p * 7 + 6, none⟩ (.slice js (joinGs false y.g x.vars[kb]).s.length jc))) := ⟨A7, GS, B7, C7⟩
   clear GU5 A7 B7 C7 GS A6 G6 JG RW6 JI JF J1 J2
   refine tZ 21 ?_ ?_;refine sm ?_
   refine tZ 22 ?_ ?_;refine sm ?_
   refine tZ 23 ?_ ?_;refine sm ?_
   refine tZ 24 ?_ ?_;refine sm ?_
   refine wpAnyZ_one (i := 25) rfl (by kernel_rfl) (fun K hK => ?_)
   obtain ⟨⟨q0, q1, q2, q3, q4, q5, q6⟩, qz⟩ := id GU
   have f0 := TH.out (p * 7)
   have f1 := TH.out (p * 7 + 1)
   have f2 := TH.out (p * 7 + 2)
   have f3 := TH.out (p * 7 + 3)
   have f4 := TH.out (p * 7 + 4)
   have f5 := TH.out (p * 7 + 5)
   have f6 := TH.out (p * 7 + 6)
   go_simp
   refine hK.out _ _ (by have h := HSP.out _ HH.out.2.2.2; exact ⟨h.1, h.2.1, h.2.2.1, h.2.2.2.1⟩) (fun hHeld => ?_)
   clear hK K q0 q1 q2 q3 q4 q5 q6 qz f0 f1 f2 f3 f4 f5 f6
   refine sm ?_
   generalize eW : (((((((w6.setCell ⟨rb, p * 7, none⟩ (.bool (joinGs false y.g x.vars[kb]).n)).setCell ⟨rb, p * 7 + 1, none⟩ (.bool (joinGs false y.g x.vars[kb]).sp.n)).setCell ⟨rb, p * 7 + 2, none⟩ (.int .i64 (joinGs false y.g x.vars[kb]).sp.lo)).setCell ⟨rb, p * 7 + 3, none⟩ (.int .i64 (joinGs false y.g x.vars[kb]).sp.hi)).setCell ⟨rb, p * 7 + 4, none⟩ (.bool (joinGs false y.g x.vars[kb]).t)).setCell ⟨rb, p * 7 + 5, none⟩ (.bool (joinGs false y.g x.vars[kb]).f)).setCell ⟨rb, p * 7 + 6, none⟩ (.slice js (joinGs false y.g x.vars[kb]).s.length jc)) = w7 at *
   clear eW GU TH
   refine wpAnyZ_done (by kernel_rfl) ?_ _
   clear HK4
   go_wp2
   go_roundw
   case rel => exact ⟨j + 1, (L'.set m ⟨L'[m].rs, L'[m].rc, L'[m].l.set p ⟨joinGs false y.g x.vars[kb], js, jc⟩⟩), by omega, by go_num, by simp only [List.length_set]; exact HH.out.1, HH.out.2.1, (off_setF hmL (by simp)).2 OR, by show _ = _; rw [picOf_setF hmL, putPic_step hlt, ← EP.out, HEM.out, HEP.out, HFA.out], HH.out.2.2.1, HH.out.2.2.2⟩
   case measure => simp [intOf]; omega
  ·have j1 : ¬ (j : Int) < (l.length : Int) := by omega
   have ej : l.take j = l := List.take_of_length_le (by omega)
   have HF : Hid (∃ v' gs' gc' L', ClPre n sb eb w.heap.size wr xb v' gs' gc' L' (putPic x i.n x.vars[kb] l)) := ⟨v, gs, gcc, L', zxb, AR, GR, OR, by rw [EP.out, ej]⟩
   clear AR GR OR CR EP ej
   go_wp2
   first | go_end0 | refine bodyPost_ret (results_none rfl _ _ _) rfl ?_
   exact ⟨rfl, HF.out, BR⟩
end
section
set_option maxHeartbeats 8000000
set_option maxRecDepth 10000
open Go.RowKit
attribute [local go_sem ↓] Go.wp_at_zero Go.wp_at_succ

/-- What To may become is answered, its sites in new memory. -/
def CmAns (B sb : Nat) (w' : World) (e : Ending) (g : Gs) (cs : List Value) : Prop := (∃ ss gc, e = .returned (.agg #[.bool g.n, .bool g.sp.n, .int .i64 g.sp.lo, .int .i64 g.sp.hi, .bool g.t, .bool g.f, .slice ss g.s.length gc]) ∧ IntsIn (fun b => B ≤ b) w' ss g.s ∧ g.s.length ≤ gc ∧ gc ≤ maxLen) ∧ Cells w' sb cs
theorem getGs_step {x : Pic} {n : Int} {l : List Int} {j : Nat} (h : j < l.length) : getGs x n (l.take (j + 1)) = joinGs false (getGs x n (l.take j)) (fAt x l[j] n) := by
 unfold getGs
 rw [List.take_succ_eq_append_getElem h, List.foldl_append]
 rfl
theorem fAt_get {x : Pic} {m p : Nat} (hm : m < x.flds.length) (hp : p < x.flds[m].length) : fAt x (m : Int) (p : Int) = x.flds[m][p] := by
 unfold fAt
 simp [List.getD, hm, hp]
theorem get_any (sb : Nat) (i : Ins) (V F : Int) (s : Option Addr) (c : List Ins) (cap : Nat) (at_ : Int) (x : Pic) (vs : Option Addr) (vc : Nat) (fs : Option Addr) (fc : Nat) (ev : Value) (wr fl : Bool) (w0 w : World) (hS : Cells w sb (stpC i V F s c cap at_ x vs vc fs fc ev wr fl)) (hc0 : CodeAt w0 s c) (hx0 : PicAt w0 x vs fs) (hz0 : w0.heap.size ≤ sb) (hB0 : Below w0.heap.size w0 w) (K : SCtx V F c x vc fc i at_) (hA : nA i.k = true) (hN : ∃ p : Nat, i.n = p ∧ (p : Int) < F) :
  Calls Tryz.prog 91 #[.pointer (some ⟨sb, 0, none⟩)] w fun e w' => CmAns w.heap.size sb w' e (getGs x i.n (gAt x i.a).s) (stpC i V F s c cap at_ x vs vc fs fc ev (noThing (gAt x i.a)) fl) ∧ ModS sb w w' := by
 have hb1 : Below w.heap.size w ((w.alloc (.cells #[.bool false, .bool false, .int .i64 0, .int .i64 0, .bool false, .bool false, .slice none 0 0] 61)).alloc (.cells #[.bool false, .bool true, .int .i64 0, .int .i64 0, .bool false, .bool false, .slice none 0 0] 61)) := by go_grown
 have R1 : Cells ((w.alloc (.cells #[.bool false, .bool false, .int .i64 0, .int .i64 0, .bool false, .bool false, .slice none 0 0] 61)).alloc (.cells #[.bool false, .bool true, .int .i64 0, .int .i64 0, .bool false, .bool false, .slice none 0 0] 61)) w.heap.size [.bool false, .bool false, .int .i64 0, .int .i64 0, .bool false, .bool false, .slice none 0 0] := (Cells.new w 61 [.bool false, .bool false, .int .i64 0, .int .i64 0, .bool false, .bool false, .slice none 0 0]).call (by go_grown)
 have A1 : Cells ((w.alloc (.cells #[.bool false, .bool false, .int .i64 0, .int .i64 0, .bool false, .bool false, .slice none 0 0] 61)).alloc (.cells #[.bool false, .bool true, .int .i64 0, .int .i64 0, .bool false, .bool false, .slice none 0 0] 61)) (w.heap.size + 1) [.bool false, .bool true, .int .i64 0, .int .i64 0, .bool false, .bool false, .slice none 0 0] := by
  have h := Cells.new (w.alloc (.cells #[.bool false, .bool false, .int .i64 0, .int .i64 0, .bool false, .bool false, .slice none 0 0] 61)) 61 [.bool false, .bool true, .int .i64 0, .int .i64 0, .bool false, .bool false, .slice none 0 0]
  rw [World.size_alloc] at h
  exact h
 have HT := hideH (things_any sb i V F s c cap at_ x vs vc fs fc ev wr fl w0 ((w.alloc (.cells #[.bool false, .bool false, .int .i64 0, .int .i64 0, .bool false, .bool false, .slice none 0 0] 61)).alloc (.cells #[.bool false, .bool true, .int .i64 0, .int .i64 0, .bool false, .bool false, .slice none 0 0] 61)) (hS.call hb1) hc0 hx0 hz0 (hB0.trans (hb1.mono hB0.size)) K hA)
 have hck := gAt_ck K.kx i.a
 have h60 : c.length ≤ 60 := K.lens.2.1
 have HST : Hid (∀ q ∈ (gAt x i.a).s, ∃ m : Nat, q = m ∧ m < c.length) := fun q hq => by
  have h := isSite_range ((ckGs_iff.1 hck).2.1 q hq)
  obtain ⟨m, em⟩ := Int.eq_ofNat_of_zero_le h.1
  exact ⟨m, em, by omega⟩
 have hl60 : (gAt x i.a).s.length ≤ 60 := rising_len (ckGs_iff.1 hck).2.2 (ckGs_sites h60 hck).1
 obtain ⟨p, ep, hpF⟩ := hN
 have HFL : Hid (∀ m, m < c.length → ∃ (h1 : m < x.flds.length), p < x.flds[m].length) := fun m hm => by
  have h1 := K.kx.flds
  refine ⟨by omega, ?_⟩
  have := K.kx.row m (by omega)
  omega
 have HCK : Hid (∀ (m : Nat) (h1 : m < x.flds.length) (h2 : p < x.flds[m].length), ckGs c x.flds[m][p] = 0) := fun m h1 h2 => K.kx.gf m h1 _ (List.getElem_mem h2)
 have HGK : Hid (∀ l, ckGs c (getGs x i.n l) = 0) := fun l => getGs_ck K.kx i.n l
 have HXX := hideH hx0
 have HJ : Hid (∀ (m : Nat) (h1 : m < x.flds.length) (h2 : p < x.flds[m].length) (st : Option Addr) (ct : Nat), IntsAt w0 st x.flds[m][p].s → x.flds[m][p].s.length ≤ ct → ct ≤ maxLen → ∀ wz, Below w0.heap.size w0 wz → ∀ (g : Gs) (sg : Option Addr) (cg : Nat), IntsAt wz sg g.s → g.s.length ≤ cg → cg ≤ maxLen → ckGs c g = 0 → Calls Tryz.prog 82 #[pv V F s c cap, gv g sg cg, gv x.flds[m][p] st ct] wz fun e w' => (∃ js jc, e = .returned (.tuple #[.agg #[.bool (joinGs false g x.flds[m][p]).n, .bool (joinGs false g x.flds[m][p]).sp.n, .int .i64 (joinGs false g x.flds[m][p]).sp.lo, .int .i64 (joinGs false g x.flds[m][p]).sp.hi, .bool (joinGs false g x.flds[m][p]).t, .bool (joinGs false g x.flds[m][p]).f, .slice js (joinGs false g x.flds[m][p]).s.length jc], .int .i64 0]) ∧ IntsAt w' js (joinGs false g x.flds[m][p]).s ∧ (joinGs false g x.flds[m][p]).s.length ≤ jc ∧ jc ≤ maxLen ∧ ∀ a, js = some a → wz.heap.size ≤ a.block) ∧ Below wz.heap.size wz w') := fun m h1 h2 st ct t1 t2 t3 wz hz g sg cg q1 q2 q3 q4 => by
  have hbk := K.kx.gf m h1 _ (List.getElem_mem h2)
  have h := made_join (s := s) (cap := cap) K.h0 g sg cg x.flds[m][p] st ct wz (hc0.below hz (Nat.le_refl _)) q1 q2 q3 (t1.below hz (Nat.le_refl _)) t2 t3 q4 hbk
  rw [tog_joinGs h60 q4 hbk] at h
  exact h
 have HEP : Hid (i.n = p) := ep
 have HZ0 : Hid (w0.heap.size ≤ w.heap.size + 1) := by have := hS.2.1; show _ ≤ _; omega
 have HZ1 : Hid (sb ≤ w.heap.size + 1) := by have := hS.2.1; show _ ≤ _; omega
 have HNE : Hid (sb ≠ w.heap.size + 1 ∧ w.heap.size ≠ w.heap.size + 1) := by have := hS.2.1; exact ⟨by omega, by omega⟩
 have HSB : Hid (sb < w.heap.size) := hS.2.1
 have hB1 := hB0.trans (hb1.mono hB0.size)
 have hzz := hideH hz0
 clear hS hc0 hx0 hB0 K hz0 hA hck ep hpF
 generalize eN : noThing (gAt x i.a) = nt at *
 clear eN
 generalize eL : (gAt x i.a).s = l at *
 clear eL
 go_enter Tryz.func91, Tryz.ntmps91
 go_wp2_with (go_at_call 80; fail)
 generalize eW : ((w.alloc (.cells #[.bool false, .bool false, .int .i64 0, .int .i64 0, .bool false, .bool false, .slice none 0 0] 61)).alloc (.cells #[.bool false, .bool true, .int .i64 0, .int .i64 0, .bool false, .bool false, .slice none 0 0] 61)) = w1 at *
 clear eW
 refine HT.out.mono ?_
 rintro e w2 ⟨⟨ss, gc, rfl, hi, hl1, hl2⟩, C2, M2⟩
 have hne1 : w.heap.size ≠ sb := by have := HSB.out; omega
 have hne2 : w.heap.size + 1 ≠ sb := by have := HSB.out; omega
 have R2 := R1.same (M2.2 _ R1.2.1 hne1) M2.1.size
 have A2 := A1.same (M2.2 _ A1.2.1 hne2) M2.1.size
 have B2 : Below w0.heap.size w0 w2 := hB1.trans (M2.1.mono hzz.out)
 have M2' : ModS sb w w2 := (ModS.of hb1 HSB.out).trans M2
 clear R1 A1 hB1 hb1 M2 HT hne1 hne2
 have HII : Hid (∀ wz, Below w0.heap.size w0 wz → IntsAt wz ss l) := fun wz hz => hi.below hz (Nat.le_refl _)
 clear hi
 have HZ2 : Hid (w.heap.size < w.heap.size + 1) := by show _ < _; omega
 generalize eG : w.heap.size + 1 = gb at *
 clear eG
 go_wp2
 go_loopw [11] (fun i_ wr => ∃ (j : Nat) (G : Gs) (gs : Option Addr) (gcc : Nat), j ≤ l.length ∧ i_ = .int .i64 j ∧ Hid (G = (getGs x i.n (l.take j))) ∧ Cells wr gb [.bool G.n, .bool G.sp.n, .int .i64 G.sp.lo, .int .i64 G.sp.hi, .bool G.t, .bool G.f, .slice gs G.s.length gcc] ∧ Cells wr sb (stpC i V F s c cap at_ x vs vc fs fc ev nt fl) ∧ Cells wr w.heap.size [.bool false, .bool false, .int .i64 0, .int .i64 0, .bool false, .bool false, .slice none 0 0] ∧ Below w0.heap.size w0 wr ∧ ModS sb w wr ∧ IntsIn (fun b => w.heap.size < b ∧ b ≠ gb) wr gs G.s ∧ G.s.length ≤ gcc ∧ gcc ≤ maxLen) (fun i_ _ => l.length - (intOf i_).toNat)
 case atStart => exact ⟨0, noneG, none, 0, Nat.zero_le _, rfl, rfl, A2, C2, R2, B2, M2', .inl rfl, Nat.le_refl _, Nat.zero_le _⟩
 case round =>
  clear A2 C2 R2 B2 M2'
  obtain ⟨j, G, gs, gcc, hj, rfl, EG, AR, CR, RR, BR, MR, IG, Y1, Y2⟩ := hrel
  by_cases hlt : j < l.length
  ·have j0 : (0 : Int) ≤ (j : Int) := by omega
   have j1 : (j : Int) < (l.length : Int) := by omega
   obtain ⟨m, em, hmc⟩ := HST.out _ (List.getElem_mem hlt)
   obtain ⟨hmL, hpL⟩ := HFL.out m hmc
   have m0 : (0 : Int) ≤ (m : Int) := by omega
   have m1 : (m : Int) < (x.flds.length : Int) := by omega
   have p0 : (0 : Int) ≤ (p : Int) := by omega
   have p1' : (p : Int) < (x.flds[m].length : Int) := by omega
   obtain ⟨tb1, to1, ess, zt, hct⟩ := (HII.out wr BR).get j hlt
   have hcj := hct j hlt
   rw [em] at hcj
   obtain ⟨p1, q1, efs, zp1, r1, rc1, C1, k1, mm1, J1⟩ := HXX.out.2 m hmL
   obtain ⟨b1, o1, e1, ss1, g1, G1, I1, k2, mm2⟩ := J1 p hpL
   subst e1
   have YK : ckGs c G = 0 := by rw [EG.out]; exact HGK.out _
   have HJ1 := hideH (HJ.out m hmL hpL ss1 g1 I1 k2 mm2)
   subst ess
   have hdw : Below wr.heap.size wr wr.drew := (Below.refl _ _).drew
   have HEF : Hid (fs = some ⟨p1, q1, none⟩) := efs
   have HKS : Hid (∀ wz, Below w0.heap.size w0 wz → Cells wz sb (stpC i V F s c cap at_ x vs vc fs fc ev nt fl) → (wz.cell? ⟨sb, 6, none⟩ = some (.int .i64 V) ∧ wz.cell? ⟨sb, 7, none⟩ = some (.int .i64 F) ∧ wz.cell? ⟨sb, 8, none⟩ = some (.slice s c.length cap)) ∧ (wz.cell? ⟨sb, 12, none⟩ = some (.slice (some ⟨p1, q1, none⟩) x.flds.length fc) ∧ wz.cell? ⟨sb, 4, none⟩ = some (.int .i64 (p : Int)) ∧ wz.cell? ⟨p1, q1 + m, none⟩ = some (.slice (some ⟨b1, o1, none⟩) x.flds[m].length rc1)) ∧ (wz.cell? ⟨b1, o1 + p * 7, none⟩ = some (.bool x.flds[m][p].n) ∧ wz.cell? ⟨b1, o1 + p * 7 + 1, none⟩ = some (.bool x.flds[m][p].sp.n) ∧ wz.cell? ⟨b1, o1 + p * 7 + 2, none⟩ = some (.int .i64 x.flds[m][p].sp.lo) ∧ wz.cell? ⟨b1, o1 + p * 7 + 3, none⟩ = some (.int .i64 x.flds[m][p].sp.hi) ∧ wz.cell? ⟨b1, o1 + p * 7 + 4, none⟩ = some (.bool x.flds[m][p].t) ∧ wz.cell? ⟨b1, o1 + p * 7 + 5, none⟩ = some (.bool x.flds[m][p].f) ∧ wz.cell? ⟨b1, o1 + p * 7 + 6, none⟩ = some (.slice ss1 x.flds[m][p].s.length g1))) := fun wz hz h => by
    refine ⟨⟨h.1 6 _ rfl, h.1 7 _ rfl, h.1 8 _ rfl⟩, ⟨?_, ?_, ?_⟩, (G1.below hz (Nat.le_refl _)).1⟩
    ·have := h.1 12 _ rfl; rw [efs] at this; exact this
    ·rw [← HEP.out]; exact h.1 4 _ rfl
    ·rw [hz.cell (by simp only; exact zp1)]; exact C1
   have HEM : Hid (l[j] = (m : Int)) := em
   have A4 := AR.call hdw
   have C4 := CR.call hdw
   have R4 := RR.call hdw
   have B4 := BR.drew
   have M4 : ModS sb w wr.drew := MR.trans (ModS.of hdw CR.2.1)
   have I4 := IG.call hdw
   have HGZ := hideH A4.2.1
   clear AR CR RR BR MR IG em efs C1 hct G1 I1 J1 hdw HXX
   have IG := I4
   clear I4
   go_upto_region 5 with fail
   clear hcj
   have HJ := HJ1
   clear HJ1
   refine wp_region_z (S := (fun wx => (wx.cell? ⟨sb, 6, none⟩ = some (.int .i64 V) ∧ wx.cell? ⟨sb, 7, none⟩ = some (.int .i64 F) ∧ wx.cell? ⟨sb, 8, none⟩ = some (.slice s c.length cap)) ∧ (wx.cell? ⟨sb, 12, none⟩ = some (.slice (some ⟨p1, q1, none⟩) x.flds.length fc) ∧ wx.cell? ⟨sb, 4, none⟩ = some (.int .i64 (p : Int)) ∧ wx.cell? ⟨p1, q1 + m, none⟩ = some (.slice (some ⟨b1, o1, none⟩) x.flds[m].length rc1)) ∧ (wx.cell? ⟨b1, o1 + p * 7, none⟩ = some (.bool x.flds[m][p].n) ∧ wx.cell? ⟨b1, o1 + p * 7 + 1, none⟩ = some (.bool x.flds[m][p].sp.n) ∧ wx.cell? ⟨b1, o1 + p * 7 + 2, none⟩ = some (.int .i64 x.flds[m][p].sp.lo) ∧ wx.cell? ⟨b1, o1 + p * 7 + 3, none⟩ = some (.int .i64 x.flds[m][p].sp.hi) ∧ wx.cell? ⟨b1, o1 + p * 7 + 4, none⟩ = some (.bool x.flds[m][p].t) ∧ wx.cell? ⟨b1, o1 + p * 7 + 5, none⟩ = some (.bool x.flds[m][p].f) ∧ wx.cell? ⟨b1, o1 + p * 7 + 6, none⟩ = some (.slice ss1 x.flds[m][p].s.length g1)))) [] (by kernel_rfl) (HKS.out _ B4 C4) (fun hHeld => ?_)
   generalize wr.drew = w4 at *
   refine tZ 0 ?_ ?_;refine sm ?_
   refine tZ 1 ?_ ?_;refine sm ?_
   refine tZ 2 ?_ ?_;refine sm ?_
   refine tZ 3 ?_ ?_;refine sm ?_
   refine tZ 5 ?_ ?_;refine sm ?_
   refine tZ 6 ?_ ?_;refine sm ?_
   refine tZ 7 ?_ ?_;refine sm ?_
   refine tZ 8 ?_ ?_;refine sm ?_
   refine tZ 9 ?_ ?_;refine sm ?_
   refine tZ 10 ?_ ?_;refine sm ?_
   refine tZ 11 ?_ ?_;refine sm ?_
   refine tZ 12 ?_ ?_;refine sm ?_
   refine tZ 13 ?_ ?_;refine sm ?_
   refine tZ 14 ?_ ?_;refine sm ?_
   refine tZ 15 ?_ ?_;refine sm ?_
   refine tZ 16 ?_ ?_;refine sm ?_
   refine tZ 17 ?_ ?_;refine sm ?_
   refine tZ 18 ?_ ?_;refine sm ?_
   refine tZ 19 ?_ ?_;refine sm ?_
   refine wpAnyZ_one (i := 4) rfl (by kernel_rfl) (fun K hK => ?_)
   have r0 := A4.1 0 _ rfl
   have r1 := A4.1 1 _ rfl
   have r2 := A4.1 2 _ rfl
   have r3 := A4.1 3 _ rfl
   have r4 := A4.1 4 _ rfl
   have r5 := A4.1 5 _ rfl
   have r6 := A4.1 6 _ rfl
   go_simp
   refine hK.out _ _ (HKS.out _ B4 C4) (fun hHeld => ?_)
   clear hK K r0 r1 r2 r3 r4 r5 r6
   refine sm ?_
   refine wpAnyZ_one (i := 20) rfl (by kernel_rfl) (fun K hK => ?_)
   go_simp
   refine (HJ.out w4 B4 G gs gcc IG.at Y1 Y2 YK).mono ?_
   rintro e w5 ⟨⟨js, jc, rfl, JI, J1, J2, JF⟩, hb5⟩
   have C5 := C4.call hb5
   have B5 := B4.trans (hb5.mono B4.size)
   have A5 := A4.call hb5
   have R5 := R4.call hb5
   have M5 := M4.trans (ModS.of hb5 C4.2.1)
   have z45 := hb5.size
   refine hK.out _ _ (HKS.out _ B5 C5) (fun hHeld => ?_)
   clear hK K hb5 A4 R4 C4 M4 B4
   refine sm ?_
   refine tZ 21 ?_ ?_;refine sm ?_
   refine tZ 22 ?_ ?_;refine sm ?_
   refine tZ 23 ?_ ?_;refine sm ?_
   refine wpAnyZ_one (i := 24) rfl (by kernel_rfl) (fun K hK => ?_)
   have r0 := A5.1 0 _ rfl
   have r1 := A5.1 1 _ rfl
   have r2 := A5.1 2 _ rfl
   have r3 := A5.1 3 _ rfl
   have r4 := A5.1 4 _ rfl
   have r5 := A5.1 5 _ rfl
   have r6 := A5.1 6 _ rfl
   have f0 := A5.2.2 0
   have f1 := A5.2.2 1
   have f2 := A5.2.2 2
   have f3 := A5.2.2 3
   have f4 := A5.2.2 4
   have f5 := A5.2.2 5
   have f6 := A5.2.2 6
   go_simp
   have A6 : Cells (((((((w5.setCell ⟨gb, 0, none⟩ (.bool (joinGs false G x.flds[m][p]).n)).setCell ⟨gb, 1, none⟩ (.bool (joinGs false G x.flds[m][p]).sp.n)).setCell ⟨gb, 2, none⟩ (.int .i64 (joinGs false G x.flds[m][p]).sp.lo)).setCell ⟨gb, 3, none⟩ (.int .i64 (joinGs false G x.flds[m][p]).sp.hi)).setCell ⟨gb, 4, none⟩ (.bool (joinGs false G x.flds[m][p]).t)).setCell ⟨gb, 5, none⟩ (.bool (joinGs false G x.flds[m][p]).f)).setCell ⟨gb, 6, none⟩ (.slice js (joinGs false G x.flds[m][p]).s.length jc)) gb [.bool (joinGs false G x.flds[m][p]).n, .bool (joinGs false G x.flds[m][p]).sp.n, .int .i64 (joinGs false G x.flds[m][p]).sp.lo, .int .i64 (joinGs false G x.flds[m][p]).sp.hi, .bool (joinGs false G x.flds[m][p]).t, .bool (joinGs false G x.flds[m][p]).f, .slice js (joinGs false G x.flds[m][p]).s.length jc] := ((((((A5.put 0 (by simp) _).put 1 (by simp) _).put 2 (by simp) _).put 3 (by simp) _).put 4 (by simp) _).put 5 (by simp) _).put 6 (by simp) _
   have hch : ∀ q, q ≠ gb → (((((((w5.setCell ⟨gb, 0, none⟩ (.bool (joinGs false G x.flds[m][p]).n)).setCell ⟨gb, 1, none⟩ (.bool (joinGs false G x.flds[m][p]).sp.n)).setCell ⟨gb, 2, none⟩ (.int .i64 (joinGs false G x.flds[m][p]).sp.lo)).setCell ⟨gb, 3, none⟩ (.int .i64 (joinGs false G x.flds[m][p]).sp.hi)).setCell ⟨gb, 4, none⟩ (.bool (joinGs false G x.flds[m][p]).t)).setCell ⟨gb, 5, none⟩ (.bool (joinGs false G x.flds[m][p]).f)).setCell ⟨gb, 6, none⟩ (.slice js (joinGs false G x.flds[m][p]).s.length jc)).heap[q]? = w5.heap[q]? := fun q hq => by rw [Below.heap_setCell _ _ _ _ hq, Below.heap_setCell _ _ _ _ hq, Below.heap_setCell _ _ _ _ hq, Below.heap_setCell _ _ _ _ hq, Below.heap_setCell _ _ _ _ hq, Below.heap_setCell _ _ _ _ hq, Below.heap_setCell _ _ _ _ hq]
   have hcz : w5.heap.size ≤ (((((((w5.setCell ⟨gb, 0, none⟩ (.bool (joinGs false G x.flds[m][p]).n)).setCell ⟨gb, 1, none⟩ (.bool (joinGs false G x.flds[m][p]).sp.n)).setCell ⟨gb, 2, none⟩ (.int .i64 (joinGs false G x.flds[m][p]).sp.lo)).setCell ⟨gb, 3, none⟩ (.int .i64 (joinGs false G x.flds[m][p]).sp.hi)).setCell ⟨gb, 4, none⟩ (.bool (joinGs false G x.flds[m][p]).t)).setCell ⟨gb, 5, none⟩ (.bool (joinGs false G x.flds[m][p]).f)).setCell ⟨gb, 6, none⟩ (.slice js (joinGs false G x.flds[m][p]).s.length jc)).heap.size := by simp [World.setCell]
   have C6 := C5.same (hch sb HNE.out.1) hcz
   have R6 := R5.same (hch w.heap.size HNE.out.2) hcz
   have B6 : Below w0.heap.size w0 (((((((w5.setCell ⟨gb, 0, none⟩ (.bool (joinGs false G x.flds[m][p]).n)).setCell ⟨gb, 1, none⟩ (.bool (joinGs false G x.flds[m][p]).sp.n)).setCell ⟨gb, 2, none⟩ (.int .i64 (joinGs false G x.flds[m][p]).sp.lo)).setCell ⟨gb, 3, none⟩ (.int .i64 (joinGs false G x.flds[m][p]).sp.hi)).setCell ⟨gb, 4, none⟩ (.bool (joinGs false G x.flds[m][p]).t)).setCell ⟨gb, 5, none⟩ (.bool (joinGs false G x.flds[m][p]).f)).setCell ⟨gb, 6, none⟩ (.slice js (joinGs false G x.flds[m][p]).s.length jc)) := ((((((B5.setCell HZ0.out _).setCell HZ0.out _).setCell HZ0.out _).setCell HZ0.out _).setCell HZ0.out _).setCell HZ0.out _).setCell HZ0.out _
   have M6 : ModS sb w (((((((w5.setCell ⟨gb, 0, none⟩ (.bool (joinGs false G x.flds[m][p]).n)).setCell ⟨gb, 1, none⟩ (.bool (joinGs false G x.flds[m][p]).sp.n)).setCell ⟨gb, 2, none⟩ (.int .i64 (joinGs false G x.flds[m][p]).sp.lo)).setCell ⟨gb, 3, none⟩ (.int .i64 (joinGs false G x.flds[m][p]).sp.hi)).setCell ⟨gb, 4, none⟩ (.bool (joinGs false G x.flds[m][p]).t)).setCell ⟨gb, 5, none⟩ (.bool (joinGs false G x.flds[m][p]).f)).setCell ⟨gb, 6, none⟩ (.slice js (joinGs false G x.flds[m][p]).s.length jc)) := ⟨((((((M5.1.setCell HZ1.out _).setCell HZ1.out _).setCell HZ1.out _).setCell HZ1.out _).setCell HZ1.out _).setCell HZ1.out _).setCell HZ1.out _, fun b hb hne => by rw [hch b (by have := HZ2.out; omega)]; exact M5.2 b hb hne⟩
   have I6 : IntsIn (fun b => w.heap.size < b ∧ b ≠ gb) (((((((w5.setCell ⟨gb, 0, none⟩ (.bool (joinGs false G x.flds[m][p]).n)).setCell ⟨gb, 1, none⟩ (.bool (joinGs false G x.flds[m][p]).sp.n)).setCell ⟨gb, 2, none⟩ (.int .i64 (joinGs false G x.flds[m][p]).sp.lo)).setCell ⟨gb, 3, none⟩ (.int .i64 (joinGs false G x.flds[m][p]).sp.hi)).setCell ⟨gb, 4, none⟩ (.bool (joinGs false G x.flds[m][p]).t)).setCell ⟨gb, 5, none⟩ (.bool (joinGs false G x.flds[m][p]).f)).setCell ⟨gb, 6, none⟩ (.slice js (joinGs false G x.flds[m][p]).s.length jc)) js (joinGs false G x.flds[m][p]).s := by
    rcases JI with h | ⟨b, off, e, hb, hc⟩
    ·exact .inl h
    ·have hz := JF _ e
     simp only at hz
     have hgz := HGZ.out
     exact IntsIn.same (w := w5) (.inr ⟨b, off, e, ⟨by have := HZ2.out; omega, by omega⟩, hb, hc⟩) (fun q hq _ => hch q hq.2) hcz
   have HR : Hid (Cells (((((((w5.setCell ⟨gb, 0, none⟩ (.bool (joinGs false G x.flds[m][p]).n)).setCell ⟨gb, 1, none⟩ (.bool (joinGs false G x.flds[m][p]).sp.n)).setCell ⟨gb, 2, none⟩ (.int .i64 (joinGs false G x.flds[m][p]).sp.lo)).setCell ⟨gb, 3, none⟩ (.int .i64 (joinGs false G x.flds[m][p]).sp.hi)).setCell ⟨gb, 4, none⟩ (.bool (joinGs false G x.flds[m][p]).t)).setCell ⟨gb, 5, none⟩ (.bool (joinGs false G x.flds[m][p]).f)).setCell ⟨gb, 6, none⟩ (.slice js (joinGs false G x.flds[m][p]).s.length jc)) gb [.bool (joinGs false G x.flds[m][p]).n, .bool (joinGs false G x.flds[m][p]).sp.n, .int .i64 (joinGs false G x.flds[m][p]).sp.lo, .int .i64 (joinGs false G x.flds[m][p]).sp.hi, .bool (joinGs false G x.flds[m][p]).t, .bool (joinGs false G x.flds[m][p]).f, .slice js (joinGs false G x.flds[m][p]).s.length jc] ∧ Cells (((((((w5.setCell ⟨gb, 0, none⟩ (.bool (joinGs false G x.flds[m][p]).n)).setCell ⟨gb, 1, none⟩ (.bool (joinGs false G x.flds[m][p]).sp.n)).setCell ⟨gb, 2, none⟩ (.int .i64 (joinGs false G x.flds[m][p]).sp.lo)).setCell ⟨gb, 3, none⟩ (.int .i64 (joinGs false G x.flds[m][p]).sp.hi)).setCell ⟨gb, 4, none⟩ (.bool (joinGs false G x.flds[m][p]).t)).setCell ⟨gb, 5, none⟩ (.bool (joinGs false G x.flds[m][p]).f)).setCell ⟨gb, 6, none⟩ (.slice js (joinGs false G x.flds[m][p]).s.length jc)) sb (stpC i V F s c cap at_ x vs vc fs fc ev nt fl) ∧ Cells (((((((w5.setCell ⟨gb, 0, none⟩ (.bool (joinGs false G x.flds[m][p]).n)).setCell ⟨gb, 1, none⟩ (.bool (joinGs false G x.flds[m][p]).sp.n)).setCell ⟨gb, 2, none⟩ (.int .i64 (joinGs false G x.flds[m][p]).sp.lo)).setCell ⟨gb, 3, none⟩ (.int .i64 (joinGs false G x.flds[m][p]).sp.hi)).setCell ⟨gb, 4, none⟩ (.bool (joinGs false G x.flds[m][p]).t)).setCell ⟨gb, 5, none⟩ (.bool (joinGs false G x.flds[m][p]).f)).setCell ⟨gb, 6, none⟩ (.slice js (joinGs false G x.flds[m][p]).s.length jc)) w.heap.size [.bool false, .bool false, .int .i64 0, .int .i64 0, .bool false, .bool false, .slice none 0 0] ∧ Below w0.heap.size w0 (((((((w5.setCell ⟨gb, 0, none⟩ (.bool (joinGs false G x.flds[m][p]).n)).setCell ⟨gb, 1, none⟩ (.bool (joinGs false G x.flds[m][p]).sp.n)).setCell ⟨gb, 2, none⟩ (.int .i64 (joinGs false G x.flds[m][p]).sp.lo)).setCell ⟨gb, 3, none⟩ (.int .i64 (joinGs false G x.flds[m][p]).sp.hi)).setCell ⟨gb, 4, none⟩ (.bool (joinGs false G x.flds[m][p]).t)).setCell ⟨gb, 5, none⟩ (.bool (joinGs false G x.flds[m][p]).f)).setCell ⟨gb, 6, none⟩ (.slice js (joinGs false G x.flds[m][p]).s.length jc)) ∧ ModS sb w (((((((w5.setCell ⟨gb, 0, none⟩ (.bool (joinGs false G x.flds[m][p]).n)).setCell ⟨gb, 1, none⟩ (.bool (joinGs false G x.flds[m][p]).sp.n)).setCell ⟨gb, 2, none⟩ (.int .i64 (joinGs false G x.flds[m][p]).sp.lo)).setCell ⟨gb, 3, none⟩ (.int .i64 (joinGs false G x.flds[m][p]).sp.hi)).setCell ⟨gb, 4, none⟩ (.bool (joinGs false G x.flds[m][p]).t)).setCell ⟨gb, 5, none⟩ (.bool (joinGs false G x.flds[m][p]).f)).setCell ⟨gb, 6, none⟩ (.slice js (joinGs false G x.flds[m][p]).s.length jc)) ∧ IntsIn (fun b => w.heap.size < b ∧ b ≠ gb) (((((((w5.setCell ⟨gb, 0, none⟩ (.bool (joinGs false G x.flds[m][p]).n)).setCell ⟨gb, 1, none⟩ (.bool (joinGs false G x.flds[m][p]).sp.n)).setCell ⟨gb, 2, none⟩ (.int .i64 (joinGs false G x.flds[m][p]).sp.lo)).setCell ⟨gb, 3, none⟩ (.int .i64 (joinGs false G x.flds[m][p]).sp.hi)).setCell ⟨gb, 4, none⟩ (.bool (joinGs false G x.flds[m][p]).t)).setCell ⟨gb, 5, none⟩ (.bool (joinGs false G x.flds[m][p]).f)).setCell ⟨gb, 6, none⟩ (.slice js (joinGs false G x.flds[m][p]).s.length jc)) js (joinGs false G x.flds[m][p]).s ∧ (joinGs false G x.flds[m][p]).s.length ≤ jc ∧ jc ≤ maxLen) := ⟨A6, C6, R6, B6, M6, I6, J1, J2⟩
   refine hK.out _ _ (HKS.out _ B6 C6) (fun hHeld => ?_)
   clear hK K r0 f0 r1 f1 r2 f2 r3 f3 r4 f4 r5 f5 r6 f6 A5 B5 C5 R5 M5 A6 B6 C6 R6 M6 I6 hch hcz JI JF J1 J2
   refine sm ?_
   generalize eW : (((((((w5.setCell ⟨gb, 0, none⟩ (.bool (joinGs false G x.flds[m][p]).n)).setCell ⟨gb, 1, none⟩ (.bool (joinGs false G x.flds[m][p]).sp.n)).setCell ⟨gb, 2, none⟩ (.int .i64 (joinGs false G x.flds[m][p]).sp.lo)).setCell ⟨gb, 3, none⟩ (.int .i64 (joinGs false G x.flds[m][p]).sp.hi)).setCell ⟨gb, 4, none⟩ (.bool (joinGs false G x.flds[m][p]).t)).setCell ⟨gb, 5, none⟩ (.bool (joinGs false G x.flds[m][p]).f)).setCell ⟨gb, 6, none⟩ (.slice js (joinGs false G x.flds[m][p]).s.length jc)) = w6 at *
   clear eW
   refine wpAnyZ_done (by kernel_rfl) ?_ _
   go_wp2
   go_roundw
   case rel => exact ⟨j + 1, (joinGs false G x.flds[m][p]), js, jc, by omega, by go_num, by show _ = _; rw [getGs_step hlt, ← EG.out, HEM.out, HEP.out, fAt_get hmL hpL], HR.out.1, HR.out.2.1, HR.out.2.2.1, HR.out.2.2.2.1, HR.out.2.2.2.2.1, HR.out.2.2.2.2.2.1, HR.out.2.2.2.2.2.2.1, HR.out.2.2.2.2.2.2.2⟩
   case measure => simp [intOf]; omega
  ·have j1 : ¬ (j : Int) < (l.length : Int) := by omega
   have ej : l.take j = l := List.take_of_length_le (by omega)
   have HE : Hid (G = (getGs x i.n l)) := by show _ = _; rw [EG.out, ej]
   clear EG ej
   have r0 := AR.1 0 _ rfl
   have r1 := AR.1 1 _ rfl
   have r2 := AR.1 2 _ rfl
   have r3 := AR.1 3 _ rfl
   have r4 := AR.1 4 _ rfl
   have r5 := AR.1 5 _ rfl
   have r6 := AR.1 6 _ rfl
   have z0 := RR.1 0 _ rfl
   have z1 := RR.1 1 _ rfl
   have z2 := RR.1 2 _ rfl
   have z3 := RR.1 3 _ rfl
   have z4 := RR.1 4 _ rfl
   have z5 := RR.1 5 _ rfl
   have z6 := RR.1 6 _ rfl
   have fz0 := RR.2.2 0
   have fz1 := RR.2.2 1
   have fz2 := RR.2.2 2
   have fz3 := RR.2.2 3
   have fz4 := RR.2.2 4
   have fz5 := RR.2.2 5
   have fz6 := RR.2.2 6
   have R3 : Cells (((((((wr.setCell ⟨w.heap.size, 0, none⟩ (.bool G.n)).setCell ⟨w.heap.size, 1, none⟩ (.bool G.sp.n)).setCell ⟨w.heap.size, 2, none⟩ (.int .i64 G.sp.lo)).setCell ⟨w.heap.size, 3, none⟩ (.int .i64 G.sp.hi)).setCell ⟨w.heap.size, 4, none⟩ (.bool G.t)).setCell ⟨w.heap.size, 5, none⟩ (.bool G.f)).setCell ⟨w.heap.size, 6, none⟩ (.slice gs G.s.length gcc)) w.heap.size [.bool G.n, .bool G.sp.n, .int .i64 G.sp.lo, .int .i64 G.sp.hi, .bool G.t, .bool G.f, .slice gs G.s.length gcc] := ((((((RR.put 0 (by simp) _).put 1 (by simp) _).put 2 (by simp) _).put 3 (by simp) _).put 4 (by simp) _).put 5 (by simp) _).put 6 (by simp) _
   have hch : ∀ q, q ≠ w.heap.size → (((((((wr.setCell ⟨w.heap.size, 0, none⟩ (.bool G.n)).setCell ⟨w.heap.size, 1, none⟩ (.bool G.sp.n)).setCell ⟨w.heap.size, 2, none⟩ (.int .i64 G.sp.lo)).setCell ⟨w.heap.size, 3, none⟩ (.int .i64 G.sp.hi)).setCell ⟨w.heap.size, 4, none⟩ (.bool G.t)).setCell ⟨w.heap.size, 5, none⟩ (.bool G.f)).setCell ⟨w.heap.size, 6, none⟩ (.slice gs G.s.length gcc)).heap[q]? = wr.heap[q]? := fun q hq => by rw [Below.heap_setCell _ _ _ _ hq, Below.heap_setCell _ _ _ _ hq, Below.heap_setCell _ _ _ _ hq, Below.heap_setCell _ _ _ _ hq, Below.heap_setCell _ _ _ _ hq, Below.heap_setCell _ _ _ _ hq, Below.heap_setCell _ _ _ _ hq]
   have hcz : wr.heap.size ≤ (((((((wr.setCell ⟨w.heap.size, 0, none⟩ (.bool G.n)).setCell ⟨w.heap.size, 1, none⟩ (.bool G.sp.n)).setCell ⟨w.heap.size, 2, none⟩ (.int .i64 G.sp.lo)).setCell ⟨w.heap.size, 3, none⟩ (.int .i64 G.sp.hi)).setCell ⟨w.heap.size, 4, none⟩ (.bool G.t)).setCell ⟨w.heap.size, 5, none⟩ (.bool G.f)).setCell ⟨w.heap.size, 6, none⟩ (.slice gs G.s.length gcc)).heap.size := by simp [World.setCell]
   have C3 := CR.same (hch sb (by have := HSB.out; omega)) hcz
   have I3 : IntsIn (fun b => w.heap.size ≤ b) (((((((wr.setCell ⟨w.heap.size, 0, none⟩ (.bool G.n)).setCell ⟨w.heap.size, 1, none⟩ (.bool G.sp.n)).setCell ⟨w.heap.size, 2, none⟩ (.int .i64 G.sp.lo)).setCell ⟨w.heap.size, 3, none⟩ (.int .i64 G.sp.hi)).setCell ⟨w.heap.size, 4, none⟩ (.bool G.t)).setCell ⟨w.heap.size, 5, none⟩ (.bool G.f)).setCell ⟨w.heap.size, 6, none⟩ (.slice gs G.s.length gcc)) gs G.s := (IG.same (fun b hb _ => hch b (by omega)) hcz).mono fun b hb _ => Nat.le_of_lt hb.1
   have M3 : ModS sb w (((((((wr.setCell ⟨w.heap.size, 0, none⟩ (.bool G.n)).setCell ⟨w.heap.size, 1, none⟩ (.bool G.sp.n)).setCell ⟨w.heap.size, 2, none⟩ (.int .i64 G.sp.lo)).setCell ⟨w.heap.size, 3, none⟩ (.int .i64 G.sp.hi)).setCell ⟨w.heap.size, 4, none⟩ (.bool G.t)).setCell ⟨w.heap.size, 5, none⟩ (.bool G.f)).setCell ⟨w.heap.size, 6, none⟩ (.slice gs G.s.length gcc)) := ⟨((((((MR.1.setCell (Nat.le_of_lt HSB.out) _).setCell (Nat.le_of_lt HSB.out) _).setCell (Nat.le_of_lt HSB.out) _).setCell (Nat.le_of_lt HSB.out) _).setCell (Nat.le_of_lt HSB.out) _).setCell (Nat.le_of_lt HSB.out) _).setCell (Nat.le_of_lt HSB.out) _, fun b hb hne => by rw [hch b (by omega)]; exact MR.2 b hb hne⟩
   have HF : Hid (CmAns w.heap.size sb (((((((wr.setCell ⟨w.heap.size, 0, none⟩ (.bool G.n)).setCell ⟨w.heap.size, 1, none⟩ (.bool G.sp.n)).setCell ⟨w.heap.size, 2, none⟩ (.int .i64 G.sp.lo)).setCell ⟨w.heap.size, 3, none⟩ (.int .i64 G.sp.hi)).setCell ⟨w.heap.size, 4, none⟩ (.bool G.t)).setCell ⟨w.heap.size, 5, none⟩ (.bool G.f)).setCell ⟨w.heap.size, 6, none⟩ (.slice gs G.s.length gcc)) (.returned (.agg #[.bool G.n, .bool G.sp.n, .int .i64 G.sp.lo, .int .i64 G.sp.hi, .bool G.t, .bool G.f, .slice gs G.s.length gcc])) (getGs x i.n l) (stpC i V F s c cap at_ x vs vc fs fc ev nt fl) ∧ ModS sb w (((((((wr.setCell ⟨w.heap.size, 0, none⟩ (.bool G.n)).setCell ⟨w.heap.size, 1, none⟩ (.bool G.sp.n)).setCell ⟨w.heap.size, 2, none⟩ (.int .i64 G.sp.lo)).setCell ⟨w.heap.size, 3, none⟩ (.int .i64 G.sp.hi)).setCell ⟨w.heap.size, 4, none⟩ (.bool G.t)).setCell ⟨w.heap.size, 5, none⟩ (.bool G.f)).setCell ⟨w.heap.size, 6, none⟩ (.slice gs G.s.length gcc))) := by
    rw [← HE.out]
    exact ⟨⟨⟨gs, gcc, rfl, I3, Y1, Y2⟩, C3⟩, M3⟩
   clear hch hcz C3 I3 M3 R3
   go_upto_region 7 with fail
   go_wp2
   refine bodyPost_ret (v := .agg #[.bool G.n, .bool G.sp.n, .int .i64 G.sp.lo, .int .i64 G.sp.hi, .bool G.t, .bool G.f, .slice gs G.s.length gcc]) (by simp [results, Tryz.results91, go_sem, z0, z1, z2, z3, z4, z5, z6]) rfl HF.out
end
section
set_option maxHeartbeats 8000000
set_option maxRecDepth 20000
open Go.RowKit
attribute [local go_sem ↓] Go.wp_at_zero Go.wp_at_succ

theorem copyP_of {T : Nat → Prop} {V F : Int} {c : List Ins} {i : Ins} {at_ : Int} {x : Pic} {vs : Option Addr} {vc : Nat} {fs : Option Addr} {fc : Nat} {w : World} (K : SCtx V F c x vc fc i at_) (hx : PicOn T w x vs fs) (wx : World) (hb : Below w.heap.size w wx) : Calls Tryz.prog 20 #[.agg #[.bool false, .slice vs x.vars.length vc, .slice fs x.flds.length fc]] wx fun e w' => (∃ v gs gc L, x = picOf false v L ∧ e = .returned (.agg #[.bool false, .slice v.rs v.l.length v.rc, .slice gs L.length gc]) ∧ PicG (fun b => wx.heap.size ≤ b) wx.heap.size w' v gs gc L) ∧ Below wx.heap.size wx w' := by
 have hn := K.kx.none
 have exv : xv x vs vc fs fc = .agg #[.bool false, .slice vs x.vars.length vc, .slice fs x.flds.length fc] := by unfold xv; rw [hn]
 have h := copyPicture_any x vs vc fs fc wx ((hx.at).below hb (Nat.le_refl _)) K
 rw [exv] at h
 refine h.mono ?_
 rintro e w' ⟨⟨v, gs, gc, L, h1, h2, h3⟩, h4⟩
 rw [hn] at h1 h2
 exact ⟨⟨v, gs, gc, L, h1, h2, h3⟩, h4⟩
theorem test_yes {K K4 : Act → World → Prop} {R : Ending → World → Prop} {c' : Code} {z : Nat → Value} {tl : List Value} {V F : Int} {c : List Ins} {vs : Option Addr} {vc : Nat} {fs : Option Addr} {fc : Nat} {T : Nat → Prop} {m sb : Nat} {i : Ins} {x : Pic} {w wt : World} {ka : Nat} (ta : Int) (hc : goC [1, 1, 1, 1, 1, 1, 1, 1, 1, 1, 0, 1, 0, 1, 1, 1, 1, 1, 1, 1, 0, 1, 1, 0, 1, 0] Tryz.f7.body = some c') (hl : tl.length = 319) (h1 : z 1 = .int .i64 (m : Int)) (h9 : z 9 = .pointer (some ⟨w.heap.size + 1 + 1, 0, none⟩)) (h5 : z 5 = .pointer (some ⟨w.heap.size + 1, 0, none⟩)) (K0 : SCtx V F c x vc fc i (m : Int)) (hx : PicOn T w x vs fs) (hta : i.k = 17 ∧ ta = (m : Int) + 1 ∨ i.k = 15 ∧ ta = i.g) (eka : i.a = (ka : Int)) (hkax : ka < x.vars.length) (IT : Cells wt (w.heap.size + 1 + 1) [.int .i64 i.k, .int .i64 i.tgt, .int .i64 i.a, .int .i64 i.b, .int .i64 i.n, .int .i64 i.g]) (XT : Cells wt (w.heap.size + 1) [.bool false, .slice vs x.vars.length vc, .slice fs x.flds.length fc]) (BT : Below w.heap.size w wt) (hsb : sb < wt.heap.size)
  (H : ∀ (ev : List Ed) (t18 : Value) (w' : World) (tl' : List Value), tl'.length = 319 → ERow wt.heap.size sb w' t18 ev → Hid (ev.map edG = [⟨ta, setVar x i.a (trueGs x.vars[ka])⟩]) → Below wt.heap.size wt w' → K ⟨((List.range 18).map z ++ t18 :: tl').toArray, []⟩ w') : c'.wp Tryz.prog (Exit.then K (Exit.inBlock 0 (Exit.then K4 (bodyPost Tryz.prog Tryz.f7 R)))) ⟨((List.range 18).map z ++ .slice none 0 0 :: tl).toArray, []⟩ wt := by
 have w61 : (m : Int) ≤ 60 := by have := K0.lens.2.1; have := K0.a1; omega
 have n0 : (0 : Int) ≤ (m : Int) := K0.a0
 have hok := K0.kx.gv _ (List.getElem_mem hkax)
 have HOKS := hideH (ckGs_iff.1 hok).1
 have HCQ := hideH (copyP_of K0 hx)
 have zi := IT.2.1
 have HKAV := hideH eka
 have HZ := hideH (And.intro h1 (And.intro h9 (And.intro hta (And.intro eka h5))))
 have H0 := hideH H
 clear hok K0 hx hta
 obtain ⟨u, rfl⟩ := list_u tl _ hl
 refine sub_of hc rfl ?_
 simp only [List.range, List.range.loop, List.map, List.cons_append, List.nil_append, h1, h5, h9] at H ⊢
 have HH := hideH H
 clear H hc hl
 clear HH h1 h9 h5 eka
 have x0 := XT.1 0 _ rfl
 have x1 := XT.1 1 _ rfl
 have x2 := XT.1 2 _ rfl
 go_wp2_with (go_at_call 20; fail)
 refine (HCQ.out wt BT).mono ?_
 rintro e wg ⟨⟨v2, gs2, gc2, L2, EX2, rfl, PG⟩, hbg⟩
 have EPW := hideH EX2
 clear EX2 x0 x1 x2 XT HCQ
 have hkv : ka < v2.l.length := by have h := hkax; rw [EPW.out] at h; simpa [picOf, roG] using h
 have zg := hbg.size
 go_upto_region 28 with fail
 have hwh : Below wg.heap.size wg (wg.alloc (.cells #[.bool false, .slice v2.rs v2.l.length v2.rc, .slice gs2 L2.length gc2] 28)) := by go_grown
 have GH : Cells (wg.alloc (.cells #[.bool false, .slice v2.rs v2.l.length v2.rc, .slice gs2 L2.length gc2] 28)) wg.heap.size [.bool false, .slice v2.rs v2.l.length v2.rc, .slice gs2 L2.length gc2] := Cells.new wg 28 [.bool false, .slice v2.rs v2.l.length v2.rc, .slice gs2 L2.length gc2]
 have zwh : Hid ((wg.alloc (.cells #[.bool false, .slice v2.rs v2.l.length v2.rc, .slice gs2 L2.length gc2] 28)).heap.size = wg.heap.size + 1) := by show _ = _; simp
 generalize wg.alloc (.cells #[.bool false, .slice v2.rs v2.l.length v2.rc, .slice gs2 L2.length gc2] 28) = wh at *
 have hbh := hbg.trans (hwh.mono hbg.size)
 have IH := IT.call hbh
 have PH := PG.call hwh
 obtain ⟨vb, evb, evB, hvb, zvb⟩ := PG.vars.form (by omega)
 have hgv : roB v2 ≠ some wg.heap.size := fun e => by rw [evB] at e; cases e; omega
 obtain ⟨y, EY0⟩ : ∃ y, v2.l[ka] = y := ⟨_, rfl⟩
 have EYG : y.g = x.vars[ka] := by
  have : ∀ (z : Pic) (h : ka < z.vars.length) (hz : z = picOf false v2 L2), z.vars[ka] = v2.l[ka].g := by intro z h hz; subst hz; simp [picOf, roG]
  rw [this x hkax EPW.out, EY0]
 have GU := PH.vars.gu evb (k := ka) hkv
 rw [EY0] at GU
 obtain ⟨⟨u0, u1, u2, u3, u4, u5, u6⟩, uz⟩ := GU
 rw [EYG] at u0 u1 u2 u3 u4 u5 u6
 have YC := PH.sv _ (List.getElem_mem hkv)
 rw [EY0] at YC
 have HYC : Hid (GcIn (fun b => wt.heap.size ≤ b ∧ Off v2 (Value.slice gs2 L2.length gc2).ownBlock L2 b) wh ⟨(trueGs x.vars[ka]), y.ss, y.cap⟩) := by
  refine ⟨?_, ?_, YC.2.2⟩
  ·have h1 := YC.1
   rw [EYG] at h1
   exact h1
  ·have h2 := YC.2.1
   rw [EYG] at h2
   exact h2
 have HPH := hideH PH
 have HEV := hideH evb
 have BTH := hideH hbh
 clear EY0 EYG YC IT BT hbg hwh PG hbh PH evB
 have g1 := GH.1 1 _ rfl
 rw [evb] at g1
 have i2 := IH.1 2 _ rfl
 rw [HKAV.out] at i2
 have q0 : (0 : Int) ≤ (ka : Int) := by omega
 have q1 : (ka : Int) < (v2.l.length : Int) := by omega
 clear evb
 go_upto_region 29 with fail
 clear g1 i2 u0 u1 u2 u3 u4 u5 u6 uz
 have hwi : Below wh.heap.size wh (wh.alloc (.cells #[.bool x.vars[ka].n, .bool x.vars[ka].sp.n, .int .i64 x.vars[ka].sp.lo, .int .i64 x.vars[ka].sp.hi, .bool x.vars[ka].t, .bool x.vars[ka].f, .slice y.ss x.vars[ka].s.length y.cap] 61)) := by go_grown
 have VI : Cells (wh.alloc (.cells #[.bool x.vars[ka].n, .bool x.vars[ka].sp.n, .int .i64 x.vars[ka].sp.lo, .int .i64 x.vars[ka].sp.hi, .bool x.vars[ka].t, .bool x.vars[ka].f, .slice y.ss x.vars[ka].s.length y.cap] 61)) wh.heap.size [.bool x.vars[ka].n, .bool x.vars[ka].sp.n, .int .i64 x.vars[ka].sp.lo, .int .i64 x.vars[ka].sp.hi, .bool x.vars[ka].t, .bool x.vars[ka].f, .slice y.ss x.vars[ka].s.length y.cap] := Cells.new wh 61 [.bool x.vars[ka].n, .bool x.vars[ka].sp.n, .int .i64 x.vars[ka].sp.lo, .int .i64 x.vars[ka].sp.hi, .bool x.vars[ka].t, .bool x.vars[ka].f, .slice y.ss x.vars[ka].s.length y.cap]
 have zwi : Hid ((wh.alloc (.cells #[.bool x.vars[ka].n, .bool x.vars[ka].sp.n, .int .i64 x.vars[ka].sp.lo, .int .i64 x.vars[ka].sp.hi, .bool x.vars[ka].t, .bool x.vars[ka].f, .slice y.ss x.vars[ka].s.length y.cap] 61)).heap.size = wh.heap.size + 1) := by show _ = _; simp
 generalize wh.alloc (.cells #[.bool x.vars[ka].n, .bool x.vars[ka].sp.n, .int .i64 x.vars[ka].sp.lo, .int .i64 x.vars[ka].sp.hi, .bool x.vars[ka].t, .bool x.vars[ka].f, .slice y.ss x.vars[ka].s.length y.cap] 61) = wi at *
 generalize eVB : wh.heap.size = vb2 at *
 have c0 := VI.1 0 _ rfl
 have c5 := VI.1 5 _ rfl
 have d0 := VI.2.2 0
 have d5 := VI.2.2 5
 go_upto_region 30 with fail
 clear c0 c5 d0 d5
 obtain ⟨wj, ewj⟩ : ∃ q, q = setL wi vb2 0 [.bool false] := ⟨_, rfl⟩
 have PJ : Put vb2 wi wj [.bool false, .bool x.vars[ka].sp.n, .int .i64 x.vars[ka].sp.lo, .int .i64 x.vars[ka].sp.hi, .bool x.vars[ka].t, .bool x.vars[ka].f, .slice y.ss x.vars[ka].s.length y.cap] := put_some VI 0 _ ewj
 simp only [setL] at ewj
 rw [← ewj]
 clear ewj
 obtain ⟨wv, ewv⟩ : ∃ q, q = setL wj vb2 5 [.bool false] := ⟨_, rfl⟩
 have PK : Put vb2 wj wv [.bool false, .bool x.vars[ka].sp.n, .int .i64 x.vars[ka].sp.lo, .int .i64 x.vars[ka].sp.hi, .bool x.vars[ka].t, .bool false, .slice y.ss x.vars[ka].s.length y.cap] := put_some PJ.cells 5 _ ewv
 simp only [setL] at ewv
 rw [← ewv]
 clear ewv
 have PV0 := PJ.trans PK
 have HE : Hid (∀ ws (tl' : List Value), tl'.length = 317 → Put vb2 wv ws [.bool (trueGs x.vars[ka]).n, .bool (trueGs x.vars[ka]).sp.n, .int .i64 (trueGs x.vars[ka]).sp.lo, .int .i64 (trueGs x.vars[ka]).sp.hi, .bool (trueGs x.vars[ka]).t, .bool (trueGs x.vars[ka]).f, .slice y.ss (trueGs x.vars[ka]).s.length y.cap] → ∀ c'', goC [1, 1, 1, 1, 1, 1, 1, 1, 1, 1, 0, 1, 0, 1, 1, 1, 1, 1, 1, 1, 0, 1, 1, 0, 1, 0, 1, 1, 1, 1] Tryz.f7.body = some c'' → c''.wp Tryz.prog (Exit.then K (Exit.inBlock 0 (Exit.then K4 (bodyPost Tryz.prog Tryz.f7 R)))) ⟨((List.range 18).map z ++ .slice none 0 0 :: .pointer (some ⟨wg.heap.size, 0, none⟩) :: .pointer (some ⟨vb2, 0, none⟩) :: tl').toArray, []⟩ ws) := fun ws tl' hl' hp c'' hc'' => by
  have hbs : Below wh.heap.size wh ws := by rw [eVB]; exact (PV0.trans hp).low (Nat.le_refl _) hwi
  exact test_end ta hc'' hl' HZ.out.1 HZ.out.2.1 w61 n0 HZ.out.2.2.1 HZ.out.2.2.2.1 hkv zi hsb (GH.call hbs) hgv (IH.call hbs) (HPH.out.call hbs) hp.cells ⟨HYC.out.1.call hbs, HYC.out.2⟩ (BTH.out.trans (hbs.mono BTH.out.size)) EPW.out H0.out
 have h1 := HZ.out.1
 have h9 := HZ.out.2.1
 have h5 := HZ.out.2.2.2.2
 simp only [List.range, List.range.loop, List.map, List.cons_append, List.nil_append, h1, h5, h9] at HE
 have HPV := hideH PV0.cells
 have c1 := PV0.cells.1 1 _ rfl
 clear h1 h5 h9 PJ PK PV0 VI H0 HYC HPH BTH GH IH
 go_upto_if 108 with fail
 clear c1
 rename_i K9 hK9
 rcases Bool.eq_false_or_eq_true x.vars[ka].sp.n with hs0 | hs0
 ·have hsn := hideH hs0
  rw [hs0]
  have HP : Hid (Put vb2 wv wv [.bool (trueGs x.vars[ka]).n, .bool (trueGs x.vars[ka]).sp.n, .int .i64 (trueGs x.vars[ka]).sp.lo, .int .i64 (trueGs x.vars[ka]).sp.hi, .bool (trueGs x.vars[ka]).t, .bool (trueGs x.vars[ka]).f, .slice y.ss (trueGs x.vars[ka]).s.length y.cap]) := by
   have l7 := HOKS.out.2.2.1 hsn.out
   have h := Put.refl HPV.out
   have e : ([.bool false, .bool x.vars[ka].sp.n, .int .i64 x.vars[ka].sp.lo, .int .i64 x.vars[ka].sp.hi, .bool x.vars[ka].t, .bool false, .slice y.ss x.vars[ka].s.length y.cap] : List Value) = [.bool (trueGs x.vars[ka]).n, .bool (trueGs x.vars[ka]).sp.n, .int .i64 (trueGs x.vars[ka]).sp.lo, .int .i64 (trueGs x.vars[ka]).sp.hi, .bool (trueGs x.vars[ka]).t, .bool (trueGs x.vars[ka]).f, .slice y.ss (trueGs x.vars[ka]).s.length y.cap] := by simp [trueGs, trueSp, hsn.out, l7.1, l7.2]
   rw [e] at h
   exact h
  clear hs0
  refine wp_cond_split rfl (fun h => ?_) (fun h => ?_)
  ·cases h
  refine wp_skip ?_
  exact hK9 _ _ (HE.out wv _ (by rfl) HP.out _ rfl)
 ·have hsn := hideH hs0
  have hv := HPV.out
  rw [hs0] at hv ⊢
  have hle : x.vars[ka].sp.lo ≤ x.vars[ka].sp.hi := HOKS.out.2.2.2
  clear hs0
  refine wp_cond_split rfl (fun h => ?_) (fun h => ?_)
  rotate_left
  ·cases h
  refine test_span (z := fun k => ([z 0, .int .i64 (m : Int), z 2, z 3, z 4, .pointer (some ⟨w.heap.size + 1, 0, none⟩), z 6, z 7, z 8, .pointer (some ⟨w.heap.size + 1 + 1, 0, none⟩), z 10, z 11, z 12, z 13, z 14, z 15, z 16, z 17, .slice none 0 0, .pointer (some ⟨wg.heap.size, 0, none⟩)] : List Value).getD k (.bool false)) rfl (by rfl) hv hle fun w' tl' hl' hp => ?_
  refine hK9 _ _ (HE.out w' tl' hl' ?_ _ rfl)
  have esp : (⟨false, x.vars[ka].sp.lo, x.vars[ka].sp.hi⟩ : Sp) = x.vars[ka].sp := by rw [← hsn.out]
  rw [esp] at hp
  exact hp
end
section
set_option maxHeartbeats 8000000
set_option maxRecDepth 20000
open Go.RowKit
attribute [local go_sem ↓] Go.wp_at_zero Go.wp_at_succ

theorem stepT_17 {T : Nat → Prop} {V F : Int} {s : Option Addr} {c : List Ins} {cap m : Nat} {i : Ins} {x : Pic} {vs : Option Addr} {vc : Nat} {fs : Option Addr} {fc : Nat} {w : World} {w3 w4 w7 w11 wp : World} {v : Ro} {gs : Option Addr} {gc : Nat} {L : List Ro} (hx : PicOn T w x vs fs) (K : SCtx V F c x vc fc i (m : Int)) (hk : i.k = 17) {ka : Nat} {sska : Option Addr} {gcka : Nat} (hkax : ka < x.vars.length) (eka : i.a = (ka : Int)) (SP : Hid (SPre T V F s c cap (m : Int) i x vs vc fs fc w wp (w.heap.size + 1 + 1) w3.heap.size w4.heap.size w7.heap.size (w7.heap.size + 1) w11.heap.size w3 v gs gc L x.vars[ka] sska gcka noneG none 0)) : SwT (fun e w' => StpAns (fun b => T b ∨ w.heap.size ≤ b) w' e (stepPic i (m : Int) x) ∧ Below w.heap.size w w') m w w3 w4 w7 w11 wp := by
 have HKAV := hideH eka
 have HKK := hideH hk
 clear hk
 have HK := hideH K
 have HX := hideH hx
 have h60 := K.lens.2.1
 have n0 : (0 : Int) ≤ (m : Int) := K.a0
 have n1 : (m : Int) < (c.length : Int) := K.a1
 have hm : m < c.length := by omega
 have w61 : (m : Int) ≤ 60 := by omega
 clear K hx eka
 refine sw_of rfl fun z0 z2 z4 u => ?_
 simp only [List.range, List.range.loop, List.map]
 obtain ⟨BP, PP, XP, IP, YP, OP, AP, EP, TP, GAI, GBI, GOW, YW, -, EPV0, -, o2, o3, o4, o5, o6⟩ := SP.out
 have EPV := hideH EPV0
 clear EPV0
 have i0 := IP.1 0 _ rfl
 rw [HKK.out] at i0
 have ega : gAt x i.a = x.vars[ka] := by rw [HKAV.out, gAt_get hkax]
 obtain ⟨yb, HY⟩ : ∃ b, Hid (yesGs x.vars[ka] = b) := ⟨yesGs x.vars[ka], hideH rfl⟩
 obtain ⟨nb, HN⟩ : ∃ b, Hid (noGs x.vars[ka] = b) := ⟨noGs x.vars[ka], hideH rfl⟩
 obtain ⟨ta, HTA⟩ : ∃ t : Int, Hid (t = (m : Int) + 1) := ⟨(m : Int) + 1, hideH rfl⟩
 have HST : Hid (stepPic i (m : Int) x = ((if yb then [(⟨ta, setVar x i.a (trueGs x.vars[ka])⟩ : Edg)] else []), false, nb)) := by
  show _ = _
  unfold stepPic
  rw [if_neg (by rw [HK.out.kx.none]; decide), if_neg (by rw [HKK.out]; decide), if_neg (by rw [HKK.out]; decide), if_neg (by rw [HKK.out]; decide), if_neg (by rw [HKK.out]; decide), if_pos HKK.out, ega, HY.out, HN.out, HTA.out]
 clear ega
 have HTR : Hid (∀ wx, Calls Tryz.prog 24 #[.agg #[.bool x.vars[ka].n, .bool x.vars[ka].sp.n, .int .i64 x.vars[ka].sp.lo, .int .i64 x.vars[ka].sp.hi, .bool x.vars[ka].t, .bool x.vars[ka].f, .slice sska x.vars[ka].s.length gcka]] wx fun e w' => e = .returned (.tuple #[.bool yb, .bool nb]) ∧ Below wx.heap.size wx w') := fun wx => by have h := truthOf_any x.vars[ka] sska gcka wx; rw [HY.out, HN.out] at h; exact h
 have a0 := AP.1 0 _ rfl
 have a1 := AP.1 1 _ rfl
 have a2 := AP.1 2 _ rfl
 have a3 := AP.1 3 _ rfl
 have a4 := AP.1 4 _ rfl
 have a5 := AP.1 5 _ rfl
 have a6 := AP.1 6 _ rfl
 go_wp2_with (go_at_call 24; fail)
 refine (HTR.out wp).mono ?_
 rintro e wt ⟨rfl, hbt⟩
 clear HTR a0 a1 a2 a3 a4 a5 a6 i0
 have IT := IP.call hbt
 have XT := XP.call hbt
 have YT := YP.call hbt
 have OT := OP.call hbt
 have BT := BP.trans (hbt.mono BP.size)
 have YWT := YW.trans (hbt.mono YW.size)
 have zt := hbt.size
 have zp := TP.2.1
 clear IP XP YP OP BP YW hbt PP AP EP TP
 have o4x : w4.heap.size < wt.heap.size := OT.2.1
 go_upto_if 94 with fail
 rename_i K9 hK9
 have HK9 := hideH hK9
 clear hK9
 have HR : Hid (∀ (ev : List Ed) (t18 : Value) (w' : World) (tl' : List Value), tl'.length = 319 → ERow wt.heap.size w3.heap.size w' t18 ev → Hid (ev.map edG = (if yb then [(⟨ta, setVar x i.a (trueGs x.vars[ka])⟩ : Edg)] else [])) → Below wt.heap.size wt w' → K9 ⟨(z0 :: .int .i64 (m : Int) :: z2 :: .pointer (some ⟨w.heap.size, 0, none⟩) :: z4 :: .pointer (some ⟨w.heap.size + 1, 0, none⟩) :: .slice none 0 0 :: .bool false :: .bool false :: .pointer (some ⟨w.heap.size + 1 + 1, 0, none⟩) :: .pointer (some ⟨w3.heap.size, 0, none⟩) :: .slice (some ⟨w4.heap.size, 0, none⟩) 1 1 :: .pointer (some ⟨w7.heap.size, 0, none⟩) :: .pointer (some ⟨w7.heap.size + 1, 0, none⟩) :: .pointer (some ⟨w11.heap.size, 0, none⟩) :: .bool false :: .bool yb :: .bool nb :: t18 :: tl').toArray, []⟩ w') := fun ev t18 w' tl' hl' ER he hB => by
  obtain ⟨es, ec, rfl, -, -⟩ := ER.form
  obtain ⟨u, rfl⟩ := list_u tl' _ hl'
  refine HK9.out _ _ ?_
  simp only [List.range, List.range.loop, List.map, List.cons_append, List.nil_append]
  have ei := (IT.call hB).1 0 _ rfl
  rw [HKK.out] at ei
  have hB := BT.trans (hB.mono BT.size)
  have zw := BT.size
  go_wp2
  refine bodyPost_ret (v := .tuple #[.slice es ev.length ec, .bool false, .bool nb]) (by simp [results, Tryz.results7, go_sem]) rfl ⟨?_, hB⟩
  rw [HST.out, ← he.out]
  exact ⟨es, ec, by rw [List.length_map], ER.eds.mono fun b hb _ => .inr (by omega)⟩
 rcases Bool.eq_false_or_eq_true yb with hs0 | hs0
 ·have hsn := hideH hs0
  refine wp_cond_split (congrArg Value.bool hs0) (fun _ => ?_) (fun h => by cases h)
  clear hs0
  exact test_yes (z := fun k => ([z0, .int .i64 (m : Int), z2, .pointer (some ⟨w.heap.size, 0, none⟩), z4, .pointer (some ⟨w.heap.size + 1, 0, none⟩), .slice none 0 0, .bool false, .bool false, .pointer (some ⟨w.heap.size + 1 + 1, 0, none⟩), .pointer (some ⟨w3.heap.size, 0, none⟩), .slice (some ⟨w4.heap.size, 0, none⟩) 1 1, .pointer (some ⟨w7.heap.size, 0, none⟩), .pointer (some ⟨w7.heap.size + 1, 0, none⟩), .pointer (some ⟨w11.heap.size, 0, none⟩), .bool false, .bool yb, .bool nb] : List Value).getD k (.bool false)) ta rfl (by rfl) rfl rfl rfl HK.out HX.out (.inl ⟨HKK.out, HTA.out⟩) HKAV.out hkax IT XT BT (by have := OT.2.1; omega) fun ev t18 w' tl' q1 q2 q3 q4 => HR.out ev t18 w' tl' q1 q2 (by show _ = _; rw [q3.out, hsn.out]; rfl) q4
 ·have hsn := hideH hs0
  refine wp_cond_split (congrArg Value.bool hs0) (fun h => by cases h) (fun _ => ?_)
  clear hs0
  refine wp_skip ?_
  exact HR.out [] _ wt _ (by rfl) (ERow.nil _ _ _) (by show _ = _; rw [hsn.out]; rfl) (Below.refl _ _)
theorem stepT_15 {T : Nat → Prop} {V F : Int} {s : Option Addr} {c : List Ins} {cap m : Nat} {i : Ins} {x : Pic} {vs : Option Addr} {vc : Nat} {fs : Option Addr} {fc : Nat} {w : World} {w3 w4 w7 w11 wp : World} {v : Ro} {gs : Option Addr} {gc : Nat} {L : List Ro} (hx : PicOn T w x vs fs) (K : SCtx V F c x vc fc i (m : Int)) (hk : i.k = 15) {ka : Nat} {sska : Option Addr} {gcka : Nat} (hkax : ka < x.vars.length) (eka : i.a = (ka : Int)) (SP : Hid (SPre T V F s c cap (m : Int) i x vs vc fs fc w wp (w.heap.size + 1 + 1) w3.heap.size w4.heap.size w7.heap.size (w7.heap.size + 1) w11.heap.size w3 v gs gc L x.vars[ka] sska gcka noneG none 0)) : SwT (fun e w' => StpAns (fun b => T b ∨ w.heap.size ≤ b) w' e (stepPic i (m : Int) x) ∧ Below w.heap.size w w') m w w3 w4 w7 w11 wp := by
 have HKAV := hideH eka
 have HKK := hideH hk
 clear hk
 have HK := hideH K
 have HX := hideH hx
 have h60 := K.lens.2.1
 have n0 : (0 : Int) ≤ (m : Int) := K.a0
 have n1 : (m : Int) < (c.length : Int) := K.a1
 have hm : m < c.length := by omega
 have w61 : (m : Int) ≤ 60 := by omega
 clear K hx eka
 refine sw_of rfl fun z0 z2 z4 u => ?_
 simp only [List.range, List.range.loop, List.map]
 obtain ⟨BP, PP, XP, IP, YP, OP, AP, EP, TP, GAI, GBI, GOW, YW, -, EPV0, -, o2, o3, o4, o5, o6⟩ := SP.out
 have EPV := hideH EPV0
 clear EPV0
 have i0 := IP.1 0 _ rfl
 rw [HKK.out] at i0
 have ega : gAt x i.a = x.vars[ka] := by rw [HKAV.out, gAt_get hkax]
 obtain ⟨yb, HY⟩ : ∃ b, Hid (yesGs x.vars[ka] = b) := ⟨yesGs x.vars[ka], hideH rfl⟩
 obtain ⟨nb, HN⟩ : ∃ b, Hid (noGs x.vars[ka] = b) := ⟨noGs x.vars[ka], hideH rfl⟩
 obtain ⟨ta, HTA⟩ : ∃ t : Int, Hid (t = i.g) := ⟨i.g, hideH rfl⟩
 have HST : Hid (stepPic i (m : Int) x = ((if yb then [(⟨ta, setVar x i.a (trueGs x.vars[ka])⟩ : Edg)] else []) ++ (if nb then [(⟨(m : Int) + 1, setVar x i.a (falseGs x.vars[ka])⟩ : Edg)] else []), false, false)) := by
  show _ = _
  unfold stepPic
  rw [if_neg (by rw [HK.out.kx.none]; decide), if_neg (by rw [HKK.out]; decide), if_neg (by rw [HKK.out]; decide), if_neg (by rw [HKK.out]; decide), if_pos HKK.out, ega, HY.out, HN.out, HTA.out]
 clear ega
 have HTR : Hid (∀ wx, Calls Tryz.prog 24 #[.agg #[.bool x.vars[ka].n, .bool x.vars[ka].sp.n, .int .i64 x.vars[ka].sp.lo, .int .i64 x.vars[ka].sp.hi, .bool x.vars[ka].t, .bool x.vars[ka].f, .slice sska x.vars[ka].s.length gcka]] wx fun e w' => e = .returned (.tuple #[.bool yb, .bool nb]) ∧ Below wx.heap.size wx w') := fun wx => by have h := truthOf_any x.vars[ka] sska gcka wx; rw [HY.out, HN.out] at h; exact h
 have a0 := AP.1 0 _ rfl
 have a1 := AP.1 1 _ rfl
 have a2 := AP.1 2 _ rfl
 have a3 := AP.1 3 _ rfl
 have a4 := AP.1 4 _ rfl
 have a5 := AP.1 5 _ rfl
 have a6 := AP.1 6 _ rfl
 go_wp2_with (go_at_call 24; fail)
 refine (HTR.out wp).mono ?_
 rintro e wt ⟨rfl, hbt⟩
 clear HTR a0 a1 a2 a3 a4 a5 a6 i0
 have IT := IP.call hbt
 have XT := XP.call hbt
 have YT := YP.call hbt
 have OT := OP.call hbt
 have BT := BP.trans (hbt.mono BP.size)
 have YWT := YW.trans (hbt.mono YW.size)
 have zt := hbt.size
 have zp := TP.2.1
 clear IP XP YP OP BP YW hbt PP AP EP TP
 have o4x : w4.heap.size < wt.heap.size := OT.2.1
 go_upto_if 94 with fail
 rename_i K9 hK9
 have HK9 := hideH hK9
 clear hK9
 have HR : Hid (∀ (ev : List Ed) (t18 : Value) (w' : World) (tl' : List Value), tl'.length = 319 → ERow wt.heap.size w3.heap.size w' t18 ev → Hid (ev.map edG = (if yb then [(⟨ta, setVar x i.a (trueGs x.vars[ka])⟩ : Edg)] else [])) → Below wt.heap.size wt w' → K9 ⟨(z0 :: .int .i64 (m : Int) :: z2 :: .pointer (some ⟨w.heap.size, 0, none⟩) :: z4 :: .pointer (some ⟨w.heap.size + 1, 0, none⟩) :: .slice none 0 0 :: .bool false :: .bool false :: .pointer (some ⟨w.heap.size + 1 + 1, 0, none⟩) :: .pointer (some ⟨w3.heap.size, 0, none⟩) :: .slice (some ⟨w4.heap.size, 0, none⟩) 1 1 :: .pointer (some ⟨w7.heap.size, 0, none⟩) :: .pointer (some ⟨w7.heap.size + 1, 0, none⟩) :: .pointer (some ⟨w11.heap.size, 0, none⟩) :: .bool false :: .bool yb :: .bool nb :: t18 :: tl').toArray, []⟩ w') := fun ev t18 w' tl' hl' ER he hB => by
  obtain ⟨es, ec, rfl, -, -⟩ := ER.form
  obtain ⟨u, rfl⟩ := list_u tl' _ hl'
  refine HK9.out _ _ ?_
  simp only [List.range, List.range.loop, List.map, List.cons_append, List.nil_append]
  have IC := IT.call hB
  have ei := IC.1 0 _ rfl
  rw [HKK.out] at ei
  have BC := BT.trans (hB.mono BT.size)
  have YWC := YWT.trans (hB.mono YWT.size)
  have YC := YT.call hB
  have OC := OT.call hB
  have zw := BT.size
  have hev : ev.length ≤ 10 := by
   have h := congrArg List.length he.out
   rw [List.length_map] at h
   rw [h]
   cases yb <;> simp
  go_upto_if 153 with fail
  clear ei
  rename_i K8 hK8
  have HK8 := hideH hK8
  clear hK8
  have HR8 : Hid (∀ (ev : List Ed) (t18 : Value) (w' : World) (tl' : List Value), tl'.length = 319 → ERow w.heap.size w3.heap.size w' t18 ev → Hid (ev.map edG = (if yb then [(⟨ta, setVar x i.a (trueGs x.vars[ka])⟩ : Edg)] else []) ++ (if nb then [(⟨(m : Int) + 1, setVar x i.a (falseGs x.vars[ka])⟩ : Edg)] else [])) → Below w.heap.size w w' → K8 ⟨(z0 :: .int .i64 (m : Int) :: z2 :: .pointer (some ⟨w.heap.size, 0, none⟩) :: z4 :: .pointer (some ⟨w.heap.size + 1, 0, none⟩) :: .slice none 0 0 :: .bool false :: .bool false :: .pointer (some ⟨w.heap.size + 1 + 1, 0, none⟩) :: .pointer (some ⟨w3.heap.size, 0, none⟩) :: .slice (some ⟨w4.heap.size, 0, none⟩) 1 1 :: .pointer (some ⟨w7.heap.size, 0, none⟩) :: .pointer (some ⟨w7.heap.size + 1, 0, none⟩) :: .pointer (some ⟨w11.heap.size, 0, none⟩) :: .bool false :: .bool yb :: .bool nb :: t18 :: tl').toArray, []⟩ w') := fun ev t18 w' tl' hl' ER he hB => by
   obtain ⟨es, ec, rfl, -, -⟩ := ER.form
   obtain ⟨u, rfl⟩ := list_u tl' _ hl'
   refine HK8.out _ _ ?_
   simp only [List.range, List.range.loop, List.map, List.cons_append, List.nil_append]
   go_wp2
   refine bodyPost_ret (v := .tuple #[.slice es ev.length ec, .bool false, .bool false]) (by simp [results, Tryz.results7, go_sem]) rfl ⟨?_, hB⟩
   rw [HST.out, ← he.out]
   exact ⟨es, ec, by rw [List.length_map], ER.eds.mono fun b hb _ => .inr (by omega)⟩
  rcases Bool.eq_false_or_eq_true nb with hs0 | hs0
  ·have hsn := hideH hs0
   refine wp_cond_split (congrArg Value.bool hs0) (fun _ => ?_) (fun h => by cases h)
   clear hs0
   exact test_no (z := fun k => ([z0, .int .i64 (m : Int), z2, .pointer (some ⟨w.heap.size, 0, none⟩), z4, .pointer (some ⟨w.heap.size + 1, 0, none⟩), .slice none 0 0, .bool false, .bool false, .pointer (some ⟨w.heap.size + 1 + 1, 0, none⟩), .pointer (some ⟨w3.heap.size, 0, none⟩), .slice (some ⟨w4.heap.size, 0, none⟩) 1 1, .pointer (some ⟨w7.heap.size, 0, none⟩), .pointer (some ⟨w7.heap.size + 1, 0, none⟩), .pointer (some ⟨w11.heap.size, 0, none⟩), .bool false, .bool yb, .bool nb] : List Value).getD k (.bool false)) rfl (by rfl) rfl rfl rfl HKAV.out EPV.out GOW o2 o3 o4x hev hkax IC YC OC YWC BC ER fun ev' t18' w'' tl'' q1 q2 q3 q4 => HR8.out ev' t18' w'' tl'' q1 q2 (by show _ = _; rw [q3.out, he.out, hsn.out]; rfl) q4
  ·have hsn := hideH hs0
   refine wp_cond_split (congrArg Value.bool hs0) (fun h => by cases h) (fun _ => ?_)
   clear hs0
   refine wp_skip ?_
   exact HR8.out ev _ w' _ (by rfl) (ER.down (by omega)) (by show _ = _; rw [he.out, hsn.out]; simp) BC
 rcases Bool.eq_false_or_eq_true yb with hs0 | hs0
 ·have hsn := hideH hs0
  refine wp_cond_split (congrArg Value.bool hs0) (fun _ => ?_) (fun h => by cases h)
  clear hs0
  exact test_yes (z := fun k => ([z0, .int .i64 (m : Int), z2, .pointer (some ⟨w.heap.size, 0, none⟩), z4, .pointer (some ⟨w.heap.size + 1, 0, none⟩), .slice none 0 0, .bool false, .bool false, .pointer (some ⟨w.heap.size + 1 + 1, 0, none⟩), .pointer (some ⟨w3.heap.size, 0, none⟩), .slice (some ⟨w4.heap.size, 0, none⟩) 1 1, .pointer (some ⟨w7.heap.size, 0, none⟩), .pointer (some ⟨w7.heap.size + 1, 0, none⟩), .pointer (some ⟨w11.heap.size, 0, none⟩), .bool false, .bool yb, .bool nb] : List Value).getD k (.bool false)) ta rfl (by rfl) rfl rfl rfl HK.out HX.out (.inr ⟨HKK.out, HTA.out⟩) HKAV.out hkax IT XT BT (by have := OT.2.1; omega) fun ev t18 w' tl' q1 q2 q3 q4 => HR.out ev t18 w' tl' q1 q2 (by show _ = _; rw [q3.out, hsn.out]; rfl) q4
 ·have hsn := hideH hs0
  refine wp_cond_split (congrArg Value.bool hs0) (fun h => by cases h) (fun _ => ?_)
  clear hs0
  refine wp_skip ?_
  exact HR.out [] _ wt _ (by rfl) (ERow.nil _ _ _) (by show _ = _; rw [hsn.out]; rfl) (Below.refl _ _)
end
end Go.Proofs.YtmapdpcfanecdabGreat
