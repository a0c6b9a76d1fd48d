/- The document's step: what is put. -/
import Derived.Test.YtmapdpcfanecdabGreatKstpxp34
import Derived.Test.YtmapdpcfanecdabGreatKstpxp47
import Derived.Test.YtmapdpcfanecdabGreatKstpxp01
import Derived.Deep.DeepCutAuto
set_option linter.unusedSimpArgs false
set_option linter.unusedVariables false
namespace Go.Proofs.YtmapdpcfanecdabGreat
section
set_option maxHeartbeats 8000000
set_option maxRecDepth 20000
open Go.RowKit
attribute [local go_sem ↓] Go.wp_at_zero Go.wp_at_succ

theorem stepT_13 {T : Nat → Prop} {V F : Int} {s : Option Addr} {c : List Ins} {cap m : Nat} {i : Ins} {x : Pic} {vs : Option Addr} {vc : Nat} {fs : Option Addr} {fc : Nat} {w : World} {w3 w4 w7 w11 wp : World} {v : Ro} {gs : Option Addr} {gc : Nat} {L : List Ro} (hx : PicOn T w x vs fs) (K : SCtx V F c x vc fc i (m : Int)) (hk : i.k = 13) {ka : Nat} {sska : Option Addr} {gcka : Nat} (hkax : ka < x.vars.length) (eka : i.a = (ka : Int)) {kb : Nat} {sskb : Option Addr} {gckb : Nat} (hkbx : kb < x.vars.length) (ekb : i.b = (kb : Int)) (SP : Hid (SPre T V F s c cap (m : Int) i x vs vc fs fc w wp (w.heap.size + 1 + 1) w3.heap.size w4.heap.size w7.heap.size (w7.heap.size + 1) w11.heap.size w3 v gs gc L x.vars[ka] sska gcka x.vars[kb] sskb gckb)) : SwT (fun e w' => StpAns (fun b => T b ∨ w.heap.size ≤ b) w' e (stepPic i (m : Int) x) ∧ Below w.heap.size w w') m w w3 w4 w7 w11 wp := by
 have HKAV := hideH eka
 have HKBV := hideH ekb
 have HKK := hideH hk
 clear hk
 have HK := hideH K
 have HX := hideH hx
 have h60 := K.lens.2.1
 have n0 : (0 : Int) ≤ (m : Int) := K.a0
 have n1 : (m : Int) < (c.length : Int) := K.a1
 have hm : m < c.length := by omega
 have w61 : (m : Int) ≤ 60 := by omega
 clear K hx eka ekb
 refine sw_of rfl fun z0 z2 z4 u => ?_
 simp only [List.range, List.range.loop, List.map]
 obtain ⟨BP, PP, XP, IP, YP, OP, AP, EP, TP, GAI, GBI, GOW, YW, -, EPV0, -, o2, o3, o4, o5, o6⟩ := SP.out
 have EPV := hideH EPV0
 clear EPV0
 have i0 := IP.1 0 _ rfl
 rw [HKK.out] at i0
 have ega : gAt x i.a = x.vars[ka] := by rw [HKAV.out, gAt_get hkax]
 have egb : gAt x i.b = x.vars[kb] := by rw [HKBV.out, gAt_get hkbx]
 have HST0 : Hid (stepPic i (m : Int) x = if x.vars[ka].s.length = 0 then ([], noThing x.vars[ka], false) else ([⟨(m : Int) + 1, putPic x i.n x.vars[kb] x.vars[ka].s⟩], noThing x.vars[ka], false)) := by
  show _ = _
  unfold stepPic
  rw [if_neg (by rw [HK.out.kx.none]; decide), if_neg (by rw [HKK.out]; decide), if_neg (by rw [HKK.out]; decide), if_neg (by rw [HKK.out]; decide), if_neg (by rw [HKK.out]; decide), if_neg (by rw [HKK.out]; decide), if_pos HKK.out, ega, egb]
 have hcka := HK.out.kx.gv _ (List.getElem_mem hkax)
 have hckb := HK.out.kx.gv _ (List.getElem_mem hkbx)
 have HSI : Hid (∀ q ∈ x.vars[ka].s, ∃ k : Nat, q = k ∧ k < c.length) := fun q hq => by
  have h := isSite_range ((ckGs_iff.1 hcka).2.1 q hq)
  obtain ⟨k, ek⟩ := Int.eq_ofNat_of_zero_le h.1
  exact ⟨k, ek, by omega⟩
 have hl60 : x.vars[ka].s.length ≤ 60 := rising_len (ckGs_iff.1 hcka).2.2 (ckGs_sites h60 hcka).1
 have hpn := (ckOne_parts HK.out.one).2.2.2.2.1 (.inr HKK.out)
 obtain ⟨p, ep⟩ := Int.eq_ofNat_of_zero_le hpn.1
 have HPF : Hid ((p : Int) < F) := by show _ < _; omega
 have HOK : Hid (∀ j, PicOk V F c (putPic x i.n x.vars[kb] (x.vars[ka].s.take j))) := fun j => putPic_ok HK.out.kx i.n hckb _ fun q hq => (ckGs_iff.1 hcka).2.1 q (List.mem_of_mem_take hq)
 have HEP := hideH ep
 have HJ : Hid (∀ (wx : World) (g : Gs) (sg : Option Addr) (cg : Nat), IntsAt wx sg g.s → ckGs c g = 0 → IntsAt wx sskb x.vars[kb].s → Calls Tryz.prog 26 #[gv g sg cg, gv x.vars[kb] sskb gckb, .bool false] wx fun e w' => ∃ js jc, e = .returned (.agg #[.bool (joinGs false g x.vars[kb]).n, .bool (joinGs false g x.vars[kb]).sp.n, .int .i64 (joinGs false g x.vars[kb]).sp.lo, .int .i64 (joinGs false g x.vars[kb]).sp.hi, .bool (joinGs false g x.vars[kb]).t, .bool (joinGs false g x.vars[kb]).f, .slice js (joinGs false g x.vars[kb]).s.length jc]) ∧ IntsAt w' js (joinGs false g x.vars[kb]).s ∧ (joinGs false g x.vars[kb]).s.length ≤ jc ∧ jc ≤ maxLen ∧ (∀ a, js = some a → wx.heap.size ≤ a.block) ∧ Below wx.heap.size wx w') := fun wx g sg cg k1 k2 k3 => by
  have h := joinC_of HK.out.h0 g sg cg x.vars[kb] sskb gckb wx k1 k3 ⟨k2, hckb⟩
  rw [tog_joinGs h60 k2 hckb] at h
  exact h
 clear ega egb hcka hckb ep hpn
 obtain ⟨fn, hfn⟩ : ∃ b, b = x.vars[ka].n := ⟨_, rfl⟩
 obtain ⟨ft, hft⟩ : ∃ b, b = x.vars[ka].t := ⟨_, rfl⟩
 obtain ⟨ff, hff⟩ : ∃ b, b = x.vars[ka].f := ⟨_, rfl⟩
 obtain ⟨fp, hfp⟩ : ∃ b, b = x.vars[ka].sp.n := ⟨_, rfl⟩
 have a0 := AP.1 0 _ rfl
 have a1 := AP.1 1 _ rfl
 have a4 := AP.1 4 _ rfl
 have a5 := AP.1 5 _ rfl
 rw [← hfn] at a0
 rw [← hft] at a4
 rw [← hff] at a5
 rw [← hfp] at a1
 have HWR : Hid (noThing x.vars[ka] = (fn || ft || ff || !fp)) := by show _ = _; unfold noThing; rw [← hfn, ← hft, ← hff, ← hfp]; cases fn <;> cases ft <;> cases ff <;> cases fp <;> rfl
 clear hfn hft hff hfp
 go_upto_region 56 with fail
 clear i0
 refine wp_region_lit ?_
 refine tL (.pointer (some ⟨w7.heap.size, 0, none⟩)) ?_
 refine sm ?_
 refine tL (.bool fn) ?_
 refine sm ?_
 refine tL (.bool fn) ?_
 refine sm ?_
 refine tLb (fn) (.pointer (some ⟨w7.heap.size, 4, none⟩)) ?_ ?_ ?_
 rotate_left
 ·intro e; cases fn <;> first | (cases e; done) | (first | exact ⟨rfl, rfl⟩ | (refine ⟨rfl, ?_⟩; go_simp))
 ·intro e; cases fn <;> first | (cases e; done) | rfl
 intro v3 hv3
 refine sm ?_
 refine tLb (fn) (.bool ft) ?_ ?_ ?_
 rotate_left
 ·intro e; cases fn <;> first | (cases e; done) | (have dv3 := hv3.out; simp at dv3; subst dv3; first | exact ⟨rfl, rfl⟩ | (refine ⟨rfl, ?_⟩; go_simp))
 ·intro e; cases fn <;> first | (cases e; done) | rfl
 intro v4 hv4
 refine sm ?_
 refine tL (.bool (fn || ft)) ?_ (by cases fn <;> cases ft <;> (have dv4 := hv4.out; simp at dv4; subst dv4; rfl)) rfl
 refine sm ?_
 refine tL (.bool (fn || ft)) ?_
 refine sm ?_
 refine tLb (fn || ft) (.pointer (some ⟨w7.heap.size, 5, none⟩)) ?_ ?_ ?_
 rotate_left
 ·intro e; cases fn <;> cases ft <;> first | (cases e; done) | (first | exact ⟨rfl, rfl⟩ | (refine ⟨rfl, ?_⟩; go_simp))
 ·intro e; cases fn <;> cases ft <;> first | (cases e; done) | rfl
 intro v7 hv7
 refine sm ?_
 refine tLb (fn || ft) (.bool ff) ?_ ?_ ?_
 rotate_left
 ·intro e; cases fn <;> cases ft <;> first | (cases e; done) | (have dv7 := hv7.out; simp at dv7; subst dv7; first | exact ⟨rfl, rfl⟩ | (refine ⟨rfl, ?_⟩; go_simp))
 ·intro e; cases fn <;> cases ft <;> first | (cases e; done) | rfl
 intro v8 hv8
 refine sm ?_
 refine tL (.bool (fn || ft || ff)) ?_ (by cases fn <;> cases ft <;> cases ff <;> (have dv8 := hv8.out; simp at dv8; subst dv8; rfl)) rfl
 refine sm ?_
 refine tL (.bool (fn || ft || ff)) ?_
 refine sm ?_
 refine tLb (fn || ft || ff) (.pointer (some ⟨w7.heap.size, 1, none⟩)) ?_ ?_ ?_
 rotate_left
 ·intro e; cases fn <;> cases ft <;> cases ff <;> first | (cases e; done) | (first | exact ⟨rfl, rfl⟩ | (refine ⟨rfl, ?_⟩; go_simp))
 ·intro e; cases fn <;> cases ft <;> cases ff <;> first | (cases e; done) | rfl
 intro v11 hv11
 refine sm ?_
 refine tLb (fn || ft || ff) (.pointer (some ⟨w7.heap.size, 1, none⟩)) ?_ ?_ ?_
 rotate_left
 ·intro e; cases fn <;> cases ft <;> cases ff <;> first | (cases e; done) | (have dv11 := hv11.out; simp at dv11; subst dv11; first | exact ⟨rfl, rfl⟩ | (refine ⟨rfl, ?_⟩; go_simp))
 ·intro e; cases fn <;> cases ft <;> cases ff <;> first | (cases e; done) | rfl
 intro v12 hv12
 refine sm ?_
 refine tLb (fn || ft || ff) (.bool fp) ?_ ?_ ?_
 rotate_left
 ·intro e; cases fn <;> cases ft <;> cases ff <;> first | (cases e; done) | (have dv12 := hv12.out; simp at dv12; subst dv12; first | exact ⟨rfl, rfl⟩ | (refine ⟨rfl, ?_⟩; go_simp))
 ·intro e; cases fn <;> cases ft <;> cases ff <;> first | (cases e; done) | rfl
 intro v13 hv13
 refine sm ?_
 refine tLb (fn || ft || ff) (.bool (!fp)) ?_ ?_ ?_
 rotate_left
 ·intro e; cases fn <;> cases ft <;> cases ff <;> first | (cases e; done) | (have dv13 := hv13.out; simp at dv13; subst dv13; first | exact ⟨rfl, rfl⟩ | (refine ⟨rfl, ?_⟩; go_simp))
 ·intro e; cases fn <;> cases ft <;> cases ff <;> first | (cases e; done) | rfl
 intro v14 hv14
 refine sm ?_
 refine tL (.bool (fn || ft || ff || !fp)) ?_ (by cases fn <;> cases ft <;> cases ff <;> cases fp <;> (have dv14 := hv14.out; simp at dv14; subst dv14; rfl)) rfl
 refine sm ?_
 refine tL (.bool (fn || ft || ff || !fp)) ?_
 refine sm ?_
 refine wpList_nil ?_
 clear a0 a1 a4 a5 hv3 hv4 hv7 hv8 hv11 hv12 hv13 hv14
 generalize (fn || ft) = f2 at *
 generalize (f2 || ff) = f3 at *
 generalize (f3 || !fp) = wb at *
 have HWZ : Hid (w11.heap.size < wp.heap.size) := TP.2.1
 have a6 := AP.1 6 _ rfl
 rcases Nat.eq_zero_or_pos x.vars[ka].s.length with hz | hz
 ·have HST : Hid (stepPic i (m : Int) x = ([], wb, false)) := by show _ = _; rw [HST0.out, if_pos hz, HWR.out]
  have hz1 : ((x.vars[ka].s.length : Int) == 0) = true := by rw [hz]; rfl
  clear HST0
  go_wp2
  refine bodyPost_ret (v := .tuple #[.slice none 0 0, .bool wb, .bool false]) (by simp [results, Tryz.results7, go_sem]) rfl ⟨?_, BP⟩
  rw [HST.out]
  exact ⟨none, 0, rfl, EdsOn.nil⟩
 ·have HST : Hid (stepPic i (m : Int) x = ([⟨(m : Int) + 1, putPic x i.n x.vars[kb] x.vars[ka].s⟩], wb, false)) := by show _ = _; rw [HST0.out, if_neg (by omega), HWR.out]
  have hz1 : ((x.vars[ka].s.length : Int) == 0) = false := by rw [beq_eq_false_iff_ne]; omega
  clear HST0
  have GK := GOW.same (w' := wp) (fun b _ hlt => YW.block b hlt) YW.size
  have HRL : Hid (∀ r ∈ L, ∀ b, roB r = some b → w.heap.size + 1 + 1 + 1 ≤ b ∧ b < w3.heap.size) := fun r hr b hb => ⟨((GOW.rows r hr).lt hb).2, ((GOW.rows r hr).lt hb).1⟩
  have HFB : Hid (∀ b, (Value.slice gs L.length gc).ownBlock = some b → b < w3.heap.size) := fun b hb => (ownsI_lt GOW.flds hb).1
  go_wp2
  clear a6
  go_loopw [25] (fun i_ wr => ∃ (j : Nat) (L' : List Ro), j ≤ x.vars[ka].s.length ∧ i_ = .int .i64 j ∧ PicG (fun b => w.heap.size ≤ b) (w.heap.size + 1 + 1 + 1) wr v gs gc L' ∧ Hid (picOf false v L' = putPic x i.n x.vars[kb] (x.vars[ka].s.take j) ∧ L'.map roB = L.map roB) ∧ (∀ b, b < w.heap.size + 1 + 1 + 1 ∨ w3.heap.size ≤ b ∧ b < wp.heap.size → wr.heap[b]? = wp.heap[b]?) ∧ wp.heap.size ≤ wr.heap.size ∧ Below w.heap.size w wr) (fun i_ _ => x.vars[ka].s.length - (intOf i_).toNat)
  case atStart => exact ⟨0, L, Nat.zero_le _, rfl, GK, ⟨by rw [← EPV.out]; rfl, rfl⟩, fun _ _ => rfl, Nat.le_refl _, BP⟩
  case round =>
   obtain ⟨j, L', hj, rfl, GR, EPL, hsm, hsz, BR⟩ := hrel
   have hwz := HWZ.out
   have AR := AP.same (hsm _ (.inr ⟨by omega, by omega⟩)) hsz
   have a6 := AR.1 6 _ rfl
   have HLL : Hid (L'.length = L.length) := by show _ = _; have h := congrArg List.length EPL.out.2; simpa using h
   by_cases hlt : j < x.vars[ka].s.length
   ·have j0 : (0 : Int) ≤ (j : Int) := by omega
    have j1 : (j : Int) < (x.vars[ka].s.length : Int) := by omega
    obtain ⟨q, eq, hqc⟩ := HSI.out _ (List.getElem_mem hlt)
    have hok := HOK.out j
    rw [← EPL.out.1] at hok
    have hrw := picOf_row hok
    have hqL : q < L'.length := by rw [hrw.1]; exact hqc
    have hpL : p < L'[q].l.length := by have := hrw.2 q hqL; have := HPF.out; omega
    have q0 : (0 : Int) ≤ (q : Int) := by omega
    have q2 : (q : Int) < (L'.length : Int) := by omega
    have p0 : (0 : Int) ≤ (p : Int) := by omega
    have p2 : (p : Int) < (L'[q].l.length : Int) := by omega
    obtain ⟨tb1, to1, ess, hzt, hct⟩ : ∃ b off, sska = some ⟨b, off, none⟩ ∧ b < w.heap.size ∧ ∀ k (h : k < x.vars[ka].s.length), w.cell? ⟨b, off + k, none⟩ = some (.int .i64 x.vars[ka].s[k]) := by
     rcases GAI.1 with h | ⟨b, off, e, -, hz, hc⟩
     ·rw [h] at hlt; simp at hlt
     ·exact ⟨b, off, e, hz, hc⟩
    obtain ⟨fb, efb, hfb, zfb, hcm⟩ := GR.fform (by omega)
    obtain ⟨rb, erb, erB, hrb, zrb⟩ := (GR.rows _ (List.getElem_mem hqL)).form (by omega)
    have hrz : rb < w3.heap.size := by
     have h1 : roB L'[q] ∈ L.map roB := by rw [← EPL.out.2]; exact List.mem_map_of_mem (List.getElem_mem hqL)
     obtain ⟨r, hr, er⟩ := List.mem_map.1 h1
     exact (HRL.out r hr rb (by rw [er, erB])).2
    have hfz : fb < w3.heap.size := HFB.out fb (by rw [← HLL.out, efb]; rfl)
    obtain ⟨y, EY0⟩ : ∃ y, L'[q].l[p] = y := ⟨_, rfl⟩
    have EY : Hid (L'[q].l[p] = y) := EY0
    have YC := GR.sf _ (List.getElem_mem hqL) _ (List.getElem_mem hpL)
    rw [EY0] at YC
    have YK : ckGs c y.g = 0 := by
     have h := fAt_ck hok (q : Int) (p : Int)
     rw [picOf_fAt hqL hpL, EY0] at h
     exact h
    have HFA : Hid (fAt (picOf false v L') (q : Int) (p : Int) = y.g) := by show _ = _; rw [picOf_fAt hqL hpL, EY0]
    have hcq := hcm q hqL
    unfold roV at hcq
    rw [erb] at hcq
    have IR := IP.same (hsm _ (.inl (by omega))) hsz
    have YR := YP.same (hsm _ (.inr ⟨Nat.le_refl _, by omega⟩)) hsz
    have ER := EP.same (hsm _ (.inr ⟨by omega, by omega⟩)) hsz
    have hdw : Below wr.heap.size wr wr.drew := (Below.refl _ _).drew
    have GUR := (GR.rows _ (List.getElem_mem hqL)).gu erb (k := p) hpL
    rw [EY0] at GUR
    have HKS : Hid (∀ wz, Below wr.drew.heap.size wr.drew wz → wz.cell? ⟨w3.heap.size, 2, none⟩ = some (.slice (some ⟨fb, 0, none⟩) L'.length gc) ∧ wz.cell? ⟨w7.heap.size, 6, none⟩ = some (.slice (some ⟨tb1, to1, none⟩) x.vars[ka].s.length gcka) ∧ wz.cell? ⟨tb1, to1 + j, none⟩ = some (.int .i64 (q : Int)) ∧ wz.cell? ⟨fb, q, none⟩ = some (.slice (some ⟨rb, 0, none⟩) L'[q].l.length L'[q].rc) ∧ wz.cell? ⟨w.heap.size + 1 + 1, 4, none⟩ = some (.int .i64 (p : Int)) ∧ (wz.cell? ⟨rb, p * 7, none⟩ = some (.bool y.g.n) ∧ wz.cell? ⟨rb, p * 7 + 1, none⟩ = some (.bool y.g.sp.n) ∧ wz.cell? ⟨rb, p * 7 + 2, none⟩ = some (.int .i64 y.g.sp.lo) ∧ wz.cell? ⟨rb, p * 7 + 3, none⟩ = some (.int .i64 y.g.sp.hi) ∧ wz.cell? ⟨rb, p * 7 + 4, none⟩ = some (.bool y.g.t) ∧ wz.cell? ⟨rb, p * 7 + 5, none⟩ = some (.bool y.g.f) ∧ wz.cell? ⟨rb, p * 7 + 6, none⟩ = some (.slice y.ss y.g.s.length y.cap)) ∧ (wz.cell? ⟨w7.heap.size + 1, 0, none⟩ = some (.bool x.vars[kb].n) ∧ wz.cell? ⟨w7.heap.size + 1, 1, none⟩ = some (.bool x.vars[kb].sp.n) ∧ wz.cell? ⟨w7.heap.size + 1, 2, none⟩ = some (.int .i64 x.vars[kb].sp.lo) ∧ wz.cell? ⟨w7.heap.size + 1, 3, none⟩ = some (.int .i64 x.vars[kb].sp.hi) ∧ wz.cell? ⟨w7.heap.size + 1, 4, none⟩ = some (.bool x.vars[kb].t) ∧ wz.cell? ⟨w7.heap.size + 1, 5, none⟩ = some (.bool x.vars[kb].f) ∧ wz.cell? ⟨w7.heap.size + 1, 6, none⟩ = some (.slice sskb x.vars[kb].s.length gckb))) := fun wz hz => by
     have hb := hdw.trans (hz.mono hdw.size)
     have y2 := (YR.call hb).1 2 _ rfl
     rw [efb, ← HLL.out] at y2
     have s6 := (AR.call hb).1 6 _ rfl
     rw [ess] at s6
     have hB := BR.trans (hb.mono BR.size)
     have e := ER.call hb
     refine ⟨y2, s6, ?_, ?_, ?_, (GUR.call hb).1, ⟨e.1 0 _ rfl, e.1 1 _ rfl, e.1 2 _ rfl, e.1 3 _ rfl, e.1 4 _ rfl, e.1 5 _ rfl, e.1 6 _ rfl⟩⟩
     ·rw [hB.cell (by simp only; exact hzt), hct j hlt, eq]
     ·rw [hb.cell (by simp only; exact zfb)]; exact hcq
     ·rw [← HEP.out]; exact (IR.call hb).1 4 _ rfl
    have HEQ : Hid (x.vars[ka].s[j] = (q : Int)) := eq
    have G4 := GR.call hdw
    have YI := (YC.1.call hdw).at
    have HZW : Hid (wp.heap.size ≤ wr.drew.heap.size ∧ w.heap.size ≤ wp.heap.size) := ⟨by have := hdw.size; omega, by omega⟩
    have HB4W : Hid (Below w.heap.size w wr.drew) := BR.drew
    have HB4 : Hid (IntsAt wr.drew sskb x.vars[kb].s) := (GBI.1.same (fun b _ hlt => HB4W.out.block b hlt) HB4W.out.size).at
    have HSM4 : Hid (∀ b, b < w.heap.size + 1 + 1 + 1 ∨ w3.heap.size ≤ b ∧ b < wp.heap.size → wr.drew.heap[b]? = wp.heap[b]?) := fun b hb => by rw [hdw.block b (by omega)]; exact hsm b hb
    have HEF := hideH efb
    have HES := hideH ess
    clear GR hsm AR IR YR ER hct hcm hcq YC EY0 GUR ess efb eq hok hrw hdw erB zrb BR
    go_upto_region 62 with fail
    clear a6
    refine wp_region_z (S := (fun wx => wx.cell? ⟨w3.heap.size, 2, none⟩ = some (.slice (some ⟨fb, 0, none⟩) L'.length gc) ∧ wx.cell? ⟨w7.heap.size, 6, none⟩ = some (.slice (some ⟨tb1, to1, none⟩) x.vars[ka].s.length gcka) ∧ wx.cell? ⟨tb1, to1 + j, none⟩ = some (.int .i64 (q : Int)) ∧ wx.cell? ⟨fb, q, none⟩ = some (.slice (some ⟨rb, 0, none⟩) L'[q].l.length L'[q].rc) ∧ wx.cell? ⟨w.heap.size + 1 + 1, 4, none⟩ = some (.int .i64 (p : Int)) ∧ (wx.cell? ⟨rb, p * 7, none⟩ = some (.bool y.g.n) ∧ wx.cell? ⟨rb, p * 7 + 1, none⟩ = some (.bool y.g.sp.n) ∧ wx.cell? ⟨rb, p * 7 + 2, none⟩ = some (.int .i64 y.g.sp.lo) ∧ wx.cell? ⟨rb, p * 7 + 3, none⟩ = some (.int .i64 y.g.sp.hi) ∧ wx.cell? ⟨rb, p * 7 + 4, none⟩ = some (.bool y.g.t) ∧ wx.cell? ⟨rb, p * 7 + 5, none⟩ = some (.bool y.g.f) ∧ wx.cell? ⟨rb, p * 7 + 6, none⟩ = some (.slice y.ss y.g.s.length y.cap)) ∧ (wx.cell? ⟨w7.heap.size + 1, 0, none⟩ = some (.bool x.vars[kb].n) ∧ wx.cell? ⟨w7.heap.size + 1, 1, none⟩ = some (.bool x.vars[kb].sp.n) ∧ wx.cell? ⟨w7.heap.size + 1, 2, none⟩ = some (.int .i64 x.vars[kb].sp.lo) ∧ wx.cell? ⟨w7.heap.size + 1, 3, none⟩ = some (.int .i64 x.vars[kb].sp.hi) ∧ wx.cell? ⟨w7.heap.size + 1, 4, none⟩ = some (.bool x.vars[kb].t) ∧ wx.cell? ⟨w7.heap.size + 1, 5, none⟩ = some (.bool x.vars[kb].f) ∧ wx.cell? ⟨w7.heap.size + 1, 6, none⟩ = some (.slice sskb x.vars[kb].s.length gckb)))) [27] (by kernel_rfl) (HKS.out _ (Below.refl _ _)) (fun hHeld => ?_)
    generalize wr.drew = w4 at *
    refine tZ 0 ?_ ?_;refine sm ?_
    refine tZ 1 ?_ ?_;refine sm ?_
    refine tZ 2 ?_ ?_;refine sm ?_
    refine tZ 3 ?_ ?_;refine sm ?_
    refine tZ 4 ?_ ?_;refine sm ?_
    refine tZ 5 ?_ ?_;refine sm ?_
    refine tZ 6 ?_ ?_;refine sm ?_
    refine tZ 7 ?_ ?_;refine sm ?_
    refine tZ 8 ?_ ?_;refine sm ?_
    refine tZ 9 ?_ ?_;refine sm ?_
    refine tZ 10 ?_ ?_;refine sm ?_
    refine tZ 11 ?_ ?_;refine sm ?_
    refine tZ 12 ?_ ?_;refine sm ?_
    refine tZ 13 ?_ ?_;refine sm ?_
    refine tZ 14 ?_ ?_;refine sm ?_
    refine tZ 15 ?_ ?_;refine sm ?_
    refine tZ 16 ?_ ?_;refine sm ?_
    refine tZ 17 ?_ ?_;refine sm ?_
    refine tZ 18 ?_ ?_;refine sm ?_
    refine tZ 19 ?_ ?_;refine sm ?_
    refine tZ 20 ?_ ?_;refine sm ?_
    refine tZ 21 ?_ ?_;refine sm ?_
    refine tZ 22 ?_ ?_;refine sm ?_
    refine tZ 23 ?_ ?_;refine sm ?_
    refine tZ 24 ?_ ?_;refine sm ?_
    refine wpAnyZ_one (i := 25) rfl (by kernel_rfl) (fun K hK => ?_)
    go_simp
    refine (HJ.out w4 y.g y.ss y.cap YI YK HB4.out).mono ?_
    rintro e w5 ⟨js, jc, rfl, JI, J1, J2, JF, hb5⟩
    refine hK.out _ _ (HKS.out _ hb5) (fun hHeld => ?_)
    clear hK K
    refine sm ?_
    refine tZ 26 ?_ ?_;refine sm ?_
    refine wpAnyZ_last (i := 27) rfl (by kernel_rfl) (by kernel_rfl) (fun K hK => ?_)
    have G5 := G4.call hb5
    have JG : GcIn (fun b => w.heap.size ≤ b ∧ Off v (Value.slice gs L'.length gc).ownBlock L' b) w5 ⟨joinGs false y.g x.vars[kb], js, jc⟩ := by
     refine ⟨?_, J1, J2⟩
     rcases JI with h | ⟨b, off, e, hb, hc⟩
     ·exact .inl h
     ·have hz := JF _ e
      simp only at hz
      exact .inr ⟨b, off, e, ⟨by have := HZW.out; omega, fun e => by have := (G4.vars.lt e).1; omega, fun e => by have := (ownsI_lt G4.flds e).1; omega, fun r hr e => by have := ((G4.rows r hr).lt e).1; omega⟩, hb, hc⟩
    have GS := G5.setF hqL erb hpL JG
    have GU := (G5.rows _ (List.getElem_mem hqL)).gu erb (k := p) hpL
    rw [EY.out] at GU
    obtain ⟨⟨r0, r1, r2, r3, r4, r5, r6⟩, rz⟩ := GU
    have TH := (G5.rows _ (List.getElem_mem hqL)).thaw erb
    have f0 := TH (p * 7)
    have f1 := TH (p * 7 + 1)
    have f2 := TH (p * 7 + 2)
    have f3 := TH (p * 7 + 3)
    have f4 := TH (p * 7 + 4)
    have f5 := TH (p * 7 + 5)
    have f6 := TH (p * 7 + 6)
    obtain ⟨w6, e6⟩ : ∃ z, z = set7 w5 rb p ⟨joinGs false y.g x.vars[kb], js, jc⟩ := ⟨_, rfl⟩
    have HR : Hid (PicG (fun b => w.heap.size ≤ b) (w.heap.size + 1 + 1 + 1) w6 v gs gc (L'.set q ⟨L'[q].rs, L'[q].rc, L'[q].l.set p ⟨joinGs false y.g x.vars[kb], js, jc⟩⟩) ∧ (∀ b, b < w.heap.size + 1 + 1 + 1 ∨ w3.heap.size ≤ b ∧ b < wp.heap.size → w6.heap[b]? = wp.heap[b]?) ∧ wp.heap.size ≤ w6.heap.size ∧ Below w.heap.size w w6) := by
     rw [e6]
     refine ⟨GS, fun b hb => ?_, by rw [size_set7]; have := hb5.size; have := HZW.out; omega, below_set7 (HB4W.out.trans (hb5.mono HB4W.out.size)) (by omega)⟩
     rw [heap_set7 (by omega), hb5.block b (by have := HZW.out; omega)]
     exact HSM4.out b hb
    simp only [set7] at e6
    go_simp
    rw [← e6]
    refine hK.out _ _ ?_
    clear hK K r0 r1 r2 r3 r4 r5 r6 rz f0 f1 f2 f3 f4 f5 f6 e6 GS JG G5 TH JI JF
    refine sm ?_
    refine wpAnyZ_done (by kernel_rfl) ?_ _
    go_wp2
    go_roundw
    case rel => exact ⟨j + 1, (L'.set q ⟨L'[q].rs, L'[q].rc, L'[q].l.set p ⟨joinGs false y.g x.vars[kb], js, jc⟩⟩), by omega, by go_num, HR.out.1, ⟨by rw [picOf_setF hqL, putPic_step hlt, ← EPL.out.1, HEQ.out, HEP.out, HFA.out], by rw [List.map_set, roB_set (v := L'[q]) (by simp), ← List.getElem_map (f := roB) (h := by simpa using hqL), List.set_getElem_self]; exact EPL.out.2⟩, HR.out.2.1, HR.out.2.2.1, HR.out.2.2.2⟩
    case measure => simp [intOf]; omega
   ·have j1 : ¬ (j : Int) < (x.vars[ka].s.length : Int) := by omega
    have ej : x.vars[ka].s.take j = x.vars[ka].s := List.take_of_length_le (by omega)
    have OR := OP.same (hsm _ (.inr ⟨by omega, by omega⟩)) hsz
    rw [← HLL.out] at OR
    have HF : Hid (StpAns (fun b => T b ∨ w.heap.size ≤ b) wr (.returned (.tuple #[.slice (some ⟨w4.heap.size, 0, none⟩) 1 1, .bool wb, .bool false])) (stepPic i (m : Int) x) ∧ Below w.heap.size w wr) := by
     rw [HST.out]
     exact ⟨⟨some ⟨w4.heap.size, 0, none⟩, 1, rfl, eds_one (S := (fun b => T b ∨ w.heap.size ≤ b)) OR (.inr (by omega)) GR (fun b hb => .inr hb) (fun b hb => .inr (by omega)) (by rw [EPL.out.1, ej])⟩, BR⟩
    clear GR hsm AR OR BR EPL HST ej
    go_wp2
    refine bodyPost_ret (v := .tuple #[.slice (some ⟨w4.heap.size, 0, none⟩) 1 1, .bool wb, .bool false]) (by simp [results, Tryz.results7, go_sem]) rfl HF.out
end
end Go.Proofs.YtmapdpcfanecdabGreat
