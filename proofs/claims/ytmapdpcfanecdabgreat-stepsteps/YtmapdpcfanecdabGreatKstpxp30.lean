/- Walks over package step: set. -/
import Derived.Test.YtmapdpcfanecdabGreatKstpxp29
import Derived.Test.YtmapdpcfanecdabGreatKstpxp08
import Derived.Deep.DeepCutAuto
import Derived.Test.YtmapdpcfanecdabGreatKstpxp07
import Derived.Deep.RegionHeld
import Derived.WalkKit
import Derived.WalkSpells
import Derived.WalkLawsBesides
import Derived.Handy
import Derived.Test.YtmapdpcfanecdabGreatKstpxp15
set_option linter.unusedSimpArgs false
set_option linter.unusedVariables false
namespace Go.Proofs.YtmapdpcfanecdabGreat
section
set_option maxHeartbeats 4000000
set_option maxRecDepth 10000
open Go.RowKit
attribute [local go_sem ↓] Go.wp_at_zero Go.wp_at_succ

theorem meet_zero {s : Sp} : meetSp s ⟨false, 0, 0⟩ = if s.has 0 then ⟨false, 0, 0⟩ else ⟨true, 0, 0⟩ := by
 obtain ⟨n, lo, hi⟩ := s
 cases n with
 | true => simp [meetSp, Sp.has]
 | false =>
  by_cases h1 : lo ≤ 0
  ·by_cases h2 : 0 ≤ hi
   ·have e1 : min hi 0 = 0 := by omega
    have e2 : max lo 0 = 0 := by omega
    simp [meetSp, Sp.has, h1, h2, e1, e2]
   ·have e3 : min hi 0 < max lo 0 := by omega
    simp [meetSp, Sp.has, h2, e3]
  ·have e3 : min hi 0 < max lo 0 := by omega
   simp [meetSp, Sp.has, h1, e3]
theorem picOf_gAt {n : Bool} {v : Ro} {L : List Ro} {k : Nat} (hk : k < v.l.length) : gAt (picOf n v L) (k : Int) = v.l[k].g := by
 unfold gAt picOf roG
 simp [List.getD, hk]
theorem ch_yes (n sb : Nat) (eb : Option Nat) (i : Ins) (V F : Int) (s : Option Addr) (c : List Ins) (cap : Nat) (at_ : Int) (x : Pic) (vs : Option Addr) (vc : Nat) (fs : Option Addr) (fc : Nat) (ev : Value) (wr fl : Bool) (pb : Nat) (w : World) (hS : Cells w sb (stpC i V F s c cap at_ x vs vc fs fc ev wr fl)) (hP : Cells w pb [.pointer (some ⟨sb, 0, none⟩)]) (hsp : (gAt x i.a).sp.Ok) (hk : ∃ k : Nat, i.a = k ∧ k < x.vars.length) :
  ChangeC 83 (fun p => #[p, .pointer (some ⟨pb, 0, none⟩)]) n sb eb w x (setVar x i.a (trueGs (gAt x i.a))) := by
 intro wx xb v gs gcc L hb0 hp
 obtain ⟨zxb, A0, G0, OF, EX⟩ := hp
 have hdr : Below wx.heap.size wx wx.drew := (Below.refl _ _).drew
 have hb := hb0.drew
 have A := A0.call hdr
 have G := G0.call hdr
 have hbd : Below w.heap.size wx wx.drew := hdr.mono (Nat.le_trans hb0.size (Nat.le_refl _))
 have hsz : Hid (w.heap.size ≤ wx.heap.size) := hb0.size
 clear hb0 A0 G0 hdr
 obtain ⟨k, ek, hkx⟩ := hk
 have hkv : k < v.l.length := by rw [← EX] at hkx; simpa [picOf, roG] using hkx
 have ega : gAt x i.a = v.l[k].g := by rw [← EX, ek, picOf_gAt hkv]
 obtain ⟨vb, evb, eb1, hvb, zvb⟩ := G.vars.form (by omega)
 have nxv : xb ≠ vb := fun e => OF.1 (by rw [eb1, e])
 have n0 : (0 : Int) ≤ (k : Int) := by omega
 have n1 : (k : Int) < (v.l.length : Int) := by omega
 have A1 := A.1 1 _ rfl
 rw [evb] at A1
 have S1 := (hS.call hb).1 2 _ rfl
 rw [ek] at S1
 have P1 := (hP.call hb).1 0 _ rfl
 have HKZ : Hid (wx.drew.cell? ⟨xb, 1, none⟩ = some (.slice (some ⟨vb, 0, none⟩) v.l.length v.rc) ∧ wx.drew.cell? ⟨pb, 0, none⟩ = some (.pointer (some ⟨sb, 0, none⟩)) ∧ wx.drew.cell? ⟨sb, 2, none⟩ = some (.int .i64 (k : Int))) := ⟨A1, P1, S1⟩
 have HOK : Hid (v.l[k].g.sp.Ok) := by show _; rw [← ega]; exact hsp
 clear A1 S1 P1 hS hP hsp
 go_enter Tryz.func83, Tryz.ntmps83
 go_upto_region 0 with fail
 refine wp_region_z (S := (fun wx => wx.cell? ⟨xb, 1, none⟩ = some (.slice (some ⟨vb, 0, none⟩) v.l.length v.rc) ∧ wx.cell? ⟨pb, 0, none⟩ = some (.pointer (some ⟨sb, 0, none⟩)) ∧ wx.cell? ⟨sb, 2, none⟩ = some (.int .i64 (k : Int)))) [] (by kernel_rfl) HKZ.out (fun hHeld => ?_)
 generalize wx.drew = wq at *
 refine tZ 0 ?_ ?_;refine sm ?_
 refine tZ 1 ?_ ?_;refine sm ?_
 refine tZ 2 ?_ ?_;refine sm ?_
 refine tZ 3 ?_ ?_;refine sm ?_
 refine tZ 4 ?_ ?_;refine sm ?_
 refine tZ 5 ?_ ?_;refine sm ?_
 refine tZ 6 ?_ ?_;refine sm ?_
 refine tZ 7 ?_ ?_;refine sm ?_
 refine tZ 8 ?_ ?_;refine sm ?_
 refine tZ 9 ?_ ?_;refine sm ?_
 refine tZ 10 ?_ ?_;refine sm ?_
 refine wpAnyZ_done (by kernel_rfl) ?_ _
 have GU := G.vars.gu evb hkv
 obtain ⟨⟨q0, q1, q2, q3, q4, q5, q6⟩, qz⟩ := id GU
 go_wp2_with (go_at_call 84; fail)
 refine (withoutZero_any v.l[k].g.sp wq HOK.out).mono ?_
 rintro e w2 ⟨rfl, hb2⟩
 have h := G.call hb2
 have A2 := A.call hb2
 have hbw := hbd.trans (hb2.mono (by have := hb.size; omega))
 clear q0 q1 q2 q3 q4 q5 q6 qz GU G A hb2 hbd
 have GU := h.vars.gu evb hkv
 have TH := hideH (h.vars.thaw evb)
 obtain ⟨⟨q0, q1, q2, q3, q4, q5, q6⟩, qz⟩ := id GU
 have f0 := TH.out (k * 7)
 have f1 := TH.out (k * 7 + 1)
 have f2 := TH.out (k * 7 + 2)
 have f3 := TH.out (k * 7 + 3)
 have f5 := TH.out (k * 7 + 5)
 have nb : ¬ (fun q => ClT n sb eb xb q ∧ Off v (Value.slice gs L.length gcc).ownBlock L q) vb := fun q => q.2.1 eb1
 have gy := h.sv _ (List.getElem_mem hkv)
 have h0 : PicG (ClT n sb eb xb) w.heap.size w2 ⟨v.rs, v.rc, v.l.set k v.l[k]⟩ gs gcc L := by rw [List.set_getElem_self]; exact h
 have h1 := h.cellV evb hkv h0 (j := 0) (u := .bool false) (z := ⟨⟨false, v.l[k].g.sp, v.l[k].g.t, v.l[k].g.f, v.l[k].g.s⟩, v.l[k].ss, v.l[k].cap⟩) (by omega) (by rfl) gy
 have h2 := h.cellV evb hkv h1 (j := 5) (u := .bool false) (z := ⟨⟨false, v.l[k].g.sp, v.l[k].g.t, false, v.l[k].g.s⟩, v.l[k].ss, v.l[k].cap⟩) (by omega) (by rfl) (gcIn_stay gy nb)
 have h3 := h.cellV evb hkv h2 (j := 1) (u := .bool (trueSp v.l[k].g.sp).n) (z := ⟨⟨false, ⟨(trueSp v.l[k].g.sp).n, v.l[k].g.sp.lo, v.l[k].g.sp.hi⟩, v.l[k].g.t, false, v.l[k].g.s⟩, v.l[k].ss, v.l[k].cap⟩) (by omega) (by rfl) (gcIn_stay (gcIn_stay gy nb) nb)
 have h4 := h.cellV evb hkv h3 (j := 2) (u := .int .i64 (trueSp v.l[k].g.sp).lo) (z := ⟨⟨false, ⟨(trueSp v.l[k].g.sp).n, (trueSp v.l[k].g.sp).lo, v.l[k].g.sp.hi⟩, v.l[k].g.t, false, v.l[k].g.s⟩, v.l[k].ss, v.l[k].cap⟩) (by omega) (by rfl) (gcIn_stay (gcIn_stay (gcIn_stay gy nb) nb) nb)
 have h5 := h.cellV evb hkv h4 (j := 3) (u := .int .i64 (trueSp v.l[k].g.sp).hi) (z := ⟨⟨false, ⟨(trueSp v.l[k].g.sp).n, (trueSp v.l[k].g.sp).lo, (trueSp v.l[k].g.sp).hi⟩, v.l[k].g.t, false, v.l[k].g.s⟩, v.l[k].ss, v.l[k].cap⟩) (by omega) (by rfl) (gcIn_stay (gcIn_stay (gcIn_stay (gcIn_stay gy nb) nb) nb) nb)
 have HPOST : Hid (∃ v' gs' gc' L', ClPre n sb eb w.heap.size (((((w2.setCell ⟨vb, k * 7, none⟩ (.bool false)).setCell ⟨vb, k * 7 + 5, none⟩ (.bool false)).setCell ⟨vb, k * 7 + 1, none⟩ (.bool (trueSp v.l[k].g.sp).n)).setCell ⟨vb, k * 7 + 2, none⟩ (.int .i64 (trueSp v.l[k].g.sp).lo)).setCell ⟨vb, k * 7 + 3, none⟩ (.int .i64 (trueSp v.l[k].g.sp).hi)) xb v' gs' gc' L' (setVar x i.a (trueGs (gAt x i.a)))) := by
  refine ⟨⟨v.rs, v.rc, v.l.set k ⟨trueGs v.l[k].g, v.l[k].ss, v.l[k].cap⟩⟩, gs, gcc, L, zxb, ?_, h5, (Off.same (roB_set (by simp))).2 OF, ?_⟩
  ·simp only [List.length_set]
   exact ((((A2.far nxv _).far nxv _).far nxv _).far nxv _).far nxv _
  ·rw [picOf_setV, EX, ek, ← ek, ega]
 have HBEL : Hid (Below w.heap.size wx (((((w2.setCell ⟨vb, k * 7, none⟩ (.bool false)).setCell ⟨vb, k * 7 + 5, none⟩ (.bool false)).setCell ⟨vb, k * 7 + 1, none⟩ (.bool (trueSp v.l[k].g.sp).n)).setCell ⟨vb, k * 7 + 2, none⟩ (.int .i64 (trueSp v.l[k].g.sp).lo)).setCell ⟨vb, k * 7 + 3, none⟩ (.int .i64 (trueSp v.l[k].g.sp).hi))) := ((((hbw.setCell hvb _).setCell hvb _).setCell hvb _).setCell hvb _).setCell hvb _
 clear h0 h1 h2 h3 h4 h5 h gy nb A2 GU hbw EX OF ega ek
 go_wp2
 first | go_end0 | refine bodyPost_ret (results_none rfl _ _ _) rfl ?_
 exact ⟨rfl, HPOST.out, HBEL.out⟩
theorem ch_no (n sb : Nat) (eb : Option Nat) (i : Ins) (V F : Int) (s : Option Addr) (c : List Ins) (cap : Nat) (at_ : Int) (x : Pic) (vs : Option Addr) (vc : Nat) (fs : Option Addr) (fc : Nat) (ev : Value) (wr fl : Bool) (pb : Nat) (w : World) (hS : Cells w sb (stpC i V F s c cap at_ x vs vc fs fc ev wr fl)) (hP : Cells w pb [.pointer (some ⟨sb, 0, none⟩)]) (hsp : (gAt x i.a).sp.Ok) (hk : ∃ k : Nat, i.a = k ∧ k < x.vars.length) :
  ChangeC 85 (fun p => #[p, .pointer (some ⟨pb, 0, none⟩)]) n sb eb w x (setVar x i.a (falseGs (gAt x i.a))) := by
 intro wx xb v gs gcc L hb0 hp
 obtain ⟨zxb, A0, G0, OF, EX⟩ := hp
 have hdr : Below wx.heap.size wx wx.drew := (Below.refl _ _).drew
 have hb := hb0.drew
 have A := A0.call hdr
 have G := G0.call hdr
 have hbd : Below w.heap.size wx wx.drew := hdr.mono (Nat.le_trans hb0.size (Nat.le_refl _))
 have hsz : Hid (w.heap.size ≤ wx.heap.size) := hb0.size
 clear hb0 A0 G0 hdr
 obtain ⟨k, ek, hkx⟩ := hk
 have hkv : k < v.l.length := by rw [← EX] at hkx; simpa [picOf, roG] using hkx
 have ega : gAt x i.a = v.l[k].g := by rw [← EX, ek, picOf_gAt hkv]
 obtain ⟨vb, evb, eb1, hvb, zvb⟩ := G.vars.form (by omega)
 have nxv : xb ≠ vb := fun e => OF.1 (by rw [eb1, e])
 have n0 : (0 : Int) ≤ (k : Int) := by omega
 have n1 : (k : Int) < (v.l.length : Int) := by omega
 have A1 := A.1 1 _ rfl
 rw [evb] at A1
 have S1 := (hS.call hb).1 2 _ rfl
 rw [ek] at S1
 have P1 := (hP.call hb).1 0 _ rfl
 have HKZ : Hid (wx.drew.cell? ⟨xb, 1, none⟩ = some (.slice (some ⟨vb, 0, none⟩) v.l.length v.rc) ∧ wx.drew.cell? ⟨pb, 0, none⟩ = some (.pointer (some ⟨sb, 0, none⟩)) ∧ wx.drew.cell? ⟨sb, 2, none⟩ = some (.int .i64 (k : Int))) := ⟨A1, P1, S1⟩
 have HOK : Hid (v.l[k].g.sp.Ok) := by show _; rw [← ega]; exact hsp
 clear A1 S1 P1 hS hP hsp
 go_enter Tryz.func85, Tryz.ntmps85
 go_upto_region 0 with fail
 refine wp_region_z (S := (fun wx => wx.cell? ⟨xb, 1, none⟩ = some (.slice (some ⟨vb, 0, none⟩) v.l.length v.rc) ∧ wx.cell? ⟨pb, 0, none⟩ = some (.pointer (some ⟨sb, 0, none⟩)) ∧ wx.cell? ⟨sb, 2, none⟩ = some (.int .i64 (k : Int)))) [] (by kernel_rfl) HKZ.out (fun hHeld => ?_)
 generalize wx.drew = wq at *
 refine tZ 0 ?_ ?_;refine sm ?_
 refine tZ 1 ?_ ?_;refine sm ?_
 refine tZ 2 ?_ ?_;refine sm ?_
 refine tZ 3 ?_ ?_;refine sm ?_
 refine tZ 4 ?_ ?_;refine sm ?_
 refine tZ 5 ?_ ?_;refine sm ?_
 refine tZ 6 ?_ ?_;refine sm ?_
 refine tZ 7 ?_ ?_;refine sm ?_
 refine tZ 8 ?_ ?_;refine sm ?_
 refine tZ 9 ?_ ?_;refine sm ?_
 refine tZ 10 ?_ ?_;refine sm ?_
 refine wpAnyZ_done (by kernel_rfl) ?_ _
 have h := G
 have GU := h.vars.gu evb hkv
 have TH := hideH (h.vars.thaw evb)
 obtain ⟨⟨q0, q1, q2, q3, q4, q5, q6⟩, qz⟩ := id GU
 have f4 := TH.out (k * 7 + 4)
 have f6 := TH.out (k * 7 + 6)
 have nb : ¬ (fun q => ClT n sb eb xb q ∧ Off v (Value.slice gs L.length gcc).ownBlock L q) vb := fun q => q.2.1 eb1
 have gy := h.sv _ (List.getElem_mem hkv)
 have gn : GcIn (fun q => ClT n sb eb xb q ∧ Off v (Value.slice gs L.length gcc).ownBlock L q) wq (⟨⟨v.l[k].g.n, v.l[k].g.sp, false, v.l[k].g.f, []⟩, none, 0⟩ : Gc) := ⟨.inl rfl, Nat.le_refl _, Nat.zero_le _⟩
 have h0 : PicG (ClT n sb eb xb) w.heap.size wq ⟨v.rs, v.rc, v.l.set k v.l[k]⟩ gs gcc L := by rw [List.set_getElem_self]; exact h
 have h1 := h.cellV evb hkv h0 (j := 4) (u := .bool false) (z := ⟨⟨v.l[k].g.n, v.l[k].g.sp, false, v.l[k].g.f, v.l[k].g.s⟩, v.l[k].ss, v.l[k].cap⟩) (by omega) (by rfl) gy
 have h2 := h.cellV evb hkv h1 (j := 6) (u := .slice none 0 0) (z := ⟨⟨v.l[k].g.n, v.l[k].g.sp, false, v.l[k].g.f, []⟩, none, 0⟩) (by omega) (by rfl) (gcIn_stay gn nb)
 have hbw : Below w.heap.size wx ((wq.setCell ⟨vb, k * 7 + 4, none⟩ (.bool false)).setCell ⟨vb, k * 7 + 6, none⟩ (.slice none 0 0)) := (hbd.setCell hvb _).setCell hvb _
 have A2 := (A.far nxv (.bool false) (a := ⟨vb, k * 7 + 4, none⟩)).far nxv (.slice none 0 0) (a := ⟨vb, k * 7 + 6, none⟩)
 clear GU hbd gy gn h1 h0 A G
 have HH := hideH (And.intro h2 (And.intro hbw A2))
 clear h2 hbw A2
 go_upto_region 2 with fail
 generalize eW : ((wq.setCell ⟨vb, k * 7 + 4, none⟩ (.bool false)).setCell ⟨vb, k * 7 + 6, none⟩ (.slice none 0 0)) = w1 at *
 obtain ⟨h2, hbw, A2⟩ := HH.out
 clear q0 q1 q2 q3 q4 q5 q6 qz TH f4 f6 HH eW
 have GU := h2.vars.gu (b := vb) evb (k := k) (by simpa using hkv)
 simp only [List.getElem_set_self] at GU
 obtain ⟨⟨q0, q1, q2, q3, q4, q5, q6⟩, qz⟩ := id GU
 go_wp2_with (go_at_call 86; fail)
 refine (meetF_any v.l[k].g.sp ⟨false, 0, 0⟩ w1).mono ?_
 rintro e w2 ⟨rfl, hb2⟩
 have eok : ckSps v.l[k].g.sp ⟨false, 0, 0⟩ = 0 := ckSps_ok.2 ⟨HOK.out, by simp [Sp.Ok, inNum]⟩
 rw [eok]
 have h3 := h2.call hb2
 have A3 := A2.call hb2
 have hbw2 := hbw.trans (hb2.mono (Nat.le_trans hsz.out hbw.size))
 clear q0 q1 q2 q3 q4 q5 q6 qz GU A2 hb2 hbw h2 eok
 have GU := h3.vars.gu (b := vb) evb (k := k) (by simpa using hkv)
 simp only [List.getElem_set_self] at GU
 have TH := hideH (h3.vars.thaw (b := vb) evb)
 obtain ⟨⟨q0, q1, q2, q3, q4, q5, q6⟩, qz⟩ := id GU
 have f1 := TH.out (k * 7 + 1)
 have f2 := TH.out (k * 7 + 2)
 have f3 := TH.out (k * 7 + 3)
 have gm : GcIn (fun q => ClT n sb eb xb q ∧ Off v (Value.slice gs L.length gcc).ownBlock L q) w2 (⟨⟨v.l[k].g.n, v.l[k].g.sp, false, v.l[k].g.f, []⟩, none, 0⟩ : Gc) := ⟨.inl rfl, Nat.le_refl _, Nat.zero_le _⟩
 have h4 := h.cellV evb hkv h3 (j := 1) (u := .bool (meetSp v.l[k].g.sp ⟨false, 0, 0⟩).n) (z := ⟨⟨v.l[k].g.n, ⟨(meetSp v.l[k].g.sp ⟨false, 0, 0⟩).n, v.l[k].g.sp.lo, v.l[k].g.sp.hi⟩, false, v.l[k].g.f, []⟩, none, 0⟩) (by omega) (by rfl) gm
 have h5 := h.cellV evb hkv h4 (j := 2) (u := .int .i64 (meetSp v.l[k].g.sp ⟨false, 0, 0⟩).lo) (z := ⟨⟨v.l[k].g.n, ⟨(meetSp v.l[k].g.sp ⟨false, 0, 0⟩).n, (meetSp v.l[k].g.sp ⟨false, 0, 0⟩).lo, v.l[k].g.sp.hi⟩, false, v.l[k].g.f, []⟩, none, 0⟩) (by omega) (by rfl) (gcIn_stay gm nb)
 have h6 := h.cellV evb hkv h5 (j := 3) (u := .int .i64 (meetSp v.l[k].g.sp ⟨false, 0, 0⟩).hi) (z := ⟨⟨v.l[k].g.n, ⟨(meetSp v.l[k].g.sp ⟨false, 0, 0⟩).n, (meetSp v.l[k].g.sp ⟨false, 0, 0⟩).lo, (meetSp v.l[k].g.sp ⟨false, 0, 0⟩).hi⟩, false, v.l[k].g.f, []⟩, none, 0⟩) (by omega) (by rfl) (gcIn_stay (gcIn_stay gm nb) nb)
 have HPOST : Hid (∃ v' gs' gc' L', ClPre n sb eb w.heap.size (((w2.setCell ⟨vb, k * 7 + 1, none⟩ (.bool (meetSp v.l[k].g.sp ⟨false, 0, 0⟩).n)).setCell ⟨vb, k * 7 + 2, none⟩ (.int .i64 (meetSp v.l[k].g.sp ⟨false, 0, 0⟩).lo)).setCell ⟨vb, k * 7 + 3, none⟩ (.int .i64 (meetSp v.l[k].g.sp ⟨false, 0, 0⟩).hi)) xb v' gs' gc' L' (setVar x i.a (falseGs (gAt x i.a)))) := by
  refine ⟨⟨v.rs, v.rc, v.l.set k ⟨falseGs v.l[k].g, none, 0⟩⟩, gs, gcc, L, zxb, ?_, ?_, (Off.same (roB_set (by simp))).2 OF, ?_⟩
  ·simp only [List.length_set]
   exact ((A3.far nxv _).far nxv _).far nxv _
  ·have e : falseGs v.l[k].g = ⟨v.l[k].g.n, (meetSp v.l[k].g.sp ⟨false, 0, 0⟩), false, v.l[k].g.f, []⟩ := by rw [meet_zero]; rfl
   rw [e]
   exact h6
  ·rw [picOf_setV, EX, ek, ← ek, ega]
 have HBEL : Hid (Below w.heap.size wx (((w2.setCell ⟨vb, k * 7 + 1, none⟩ (.bool (meetSp v.l[k].g.sp ⟨false, 0, 0⟩).n)).setCell ⟨vb, k * 7 + 2, none⟩ (.int .i64 (meetSp v.l[k].g.sp ⟨false, 0, 0⟩).lo)).setCell ⟨vb, k * 7 + 3, none⟩ (.int .i64 (meetSp v.l[k].g.sp ⟨false, 0, 0⟩).hi))) := ((hbw2.setCell hvb _).setCell hvb _).setCell hvb _
 clear h3 h4 h5 h6 h gm nb A3 GU hbw2 EX OF ega ek
 go_wp2
 first | go_end0 | refine bodyPost_ret (results_none rfl _ _ _) rfl ?_
 exact ⟨rfl, HPOST.out, HBEL.out⟩
end
section
set_option maxHeartbeats 4000000
set_option maxRecDepth 10000
open Go.RowKit
attribute [local go_sem ↓] Go.wp_at_zero Go.wp_at_succ

/-- What a stepper holds behind a step of its own: edges that are added. -/
def EdgAns (sb : Nat) (w : World) (cs : Value → List Value) (EL : List Ed) (l : List Edg) : Prop := ∃ ev QL, Cells w sb (cs ev) ∧ ERow sb sb w ev (EL ++ QL) ∧ QL.map edG = l
theorem SCtx.spA {V F : Int} {c : List Ins} {x : Pic} {vc fc : Nat} {i : Ins} {at_ : Int} (K : SCtx V F c x vc fc i at_) (hA : nA i.k = true) : (gAt x i.a).sp.Ok := by
 obtain ⟨k, ek, hk⟩ := K.varA hA
 rw [ek, gAt_get hk]
 exact (ckGs_iff.1 (K.kx.gv _ (List.getElem_mem hk))).1
theorem onTrue_any (ta : Int) (EL : List Ed) (es : Option Addr) (ec : Nat) (sb : Nat) (i : Ins) (V F : Int) (s : Option Addr) (c : List Ins) (cap : Nat) (at_ : Int) (x : Pic) (vs : Option Addr) (vc : Nat) (fs : Option Addr) (fc : Nat) (wr fl : Bool) (w0 w : World) (hS : Cells w sb (stpC i V F s c cap at_ x vs vc fs fc (.slice es EL.length ec) wr fl)) (hc0 : CodeAt w0 s c) (hx0 : PicAt w0 x vs fs) (hz0 : w0.heap.size ≤ sb) (hB0 : Below w0.heap.size w0 w) (K : SCtx V F c x vc fc i at_) (hER : ERow sb sb w (.slice es EL.length ec) EL) (hL2 : EL.length ≤ 10) (hA : nA i.k = true) :
  Calls Tryz.prog 46 #[.pointer (some ⟨sb, 0, none⟩), .int .i64 ta] w fun e w' => e = .returned (.tuple #[]) ∧ EdgAns sb w' (fun ev' => stpC i V F s c cap at_ x vs vc fs fc ev' wr fl) EL (if yesGs (gAt x i.a) then [⟨ta, setVar x i.a (trueGs (gAt x i.a))⟩] else []) ∧ Below sb w w' := by
 have hsb := hS.2.1
 have hb1 : Below w.heap.size w (w.alloc (.cells #[.pointer (some ⟨sb, 0, none⟩)] 88)) := by go_grown
 have hP1 : Cells (w.alloc (.cells #[.pointer (some ⟨sb, 0, none⟩)] 88)) w.heap.size [.pointer (some ⟨sb, 0, none⟩)] := Cells.new w 88 [.pointer (some ⟨sb, 0, none⟩)]
 have HT : Hid (∀ wx, Below w.heap.size w wx → Calls Tryz.prog 51 #[.pointer (some ⟨sb, 0, none⟩)] wx fun e w' => e = .returned (.tuple #[.bool (yesGs (gAt x i.a)), .bool (noGs (gAt x i.a))]) ∧ Below wx.heap.size wx w') := fun wx hb => truthS_any sb i V F s c cap at_ x vs vc fs fc _ wr fl wx (hS.call hb) (hc0.below (hB0.trans (hb.mono hB0.size)) (Nat.le_refl _)) (hx0.below (hB0.trans (hb.mono hB0.size)) (Nat.le_refl _)) K hA
 have HE : Hid (∀ wx, Below w.heap.size w wx → Cells wx w.heap.size [.pointer (some ⟨sb, 0, none⟩)] → Calls Tryz.prog 49 #[.pointer (some ⟨sb, 0, none⟩), .int .i64 ta, .func (.func 83) #[] #[.pointer (some ⟨w.heap.size, 0, none⟩)]] wx fun e w' => e = .returned (.tuple #[]) ∧ (∃ ev' q, Cells w' sb (stpC i V F s c cap at_ x vs vc fs fc ev' wr fl) ∧ ERow sb sb w' ev' (EL ++ [q]) ∧ edG q = ⟨ta, setVar x i.a (trueGs (gAt x i.a))⟩) ∧ Below sb wx w') := fun wx hb hp =>
  edge_yes sb ta _ w.heap.size EL es ec sb i V F s c cap at_ x vs vc fs fc wr fl w0 wx (hS.call hb) hc0 hx0 hz0 (hB0.trans (hb.mono hB0.size)) K rfl (hER.call hb) hL2 (ch_yes sb sb _ i V F s c cap at_ x vs vc fs fc _ wr fl w.heap.size wx (hS.call hb) hp (K.spA hA) (K.varA hA))
 have HN : Hid (Cells w sb (stpC i V F s c cap at_ x vs vc fs fc (.slice es EL.length ec) wr fl) ∧ ERow sb sb w (.slice es EL.length ec) EL) := ⟨hS, hER⟩
 clear hS hER hc0 hx0 hB0 K hz0
 generalize hy : yesGs (gAt x i.a) = yy at *
 generalize hn : noGs (gAt x i.a) = nn at *
 clear hy hn
 generalize hpic : setVar x i.a (trueGs (gAt x i.a)) = xx at *
 clear hpic
 go_enter Tryz.func46, Tryz.ntmps46
 go_wp2_with (go_at_call 51; fail)
 refine (HT.out _ hb1).mono ?_
 rintro e w2 ⟨rfl, hb2⟩
 have hP2 := hP1.call hb2
 have hbw : Below w.heap.size w w2 := hb1.trans (hb2.mono hb1.size)
 have p0 := hP2.1 0 _ rfl
 clear hP1 hb2 hb1 HT
 cases yy with
 | false =>
  go_wp2
  first | go_end0 | refine bodyPost_ret (results_none rfl _ _ _) rfl ?_
  exact ⟨rfl, ⟨_, [], HN.out.1.call hbw, by rw [List.append_nil]; exact HN.out.2.call hbw, rfl⟩, hbw.mono (Nat.le_of_lt hsb)⟩
 | true =>
  go_wp2_with (go_at_call 49; fail)
  refine (HE.out w2 hbw hP2).mono ?_
  rintro e w3 ⟨rfl, ⟨ev', q, C3, E3, eq3⟩, hb3⟩
  have HF : Hid (EdgAns sb w3 (fun ev' => stpC i V F s c cap at_ x vs vc fs fc ev' wr fl) EL [⟨ta, xx⟩]) := ⟨ev', [q], C3, E3, by simp [eq3]⟩
  have hbz : Below sb w w3 := (hbw.mono (Nat.le_of_lt hsb)).trans hb3
  clear C3 E3 eq3 hb3 hP2 p0 HE HN
  go_wp2
  first | go_end0 | refine bodyPost_ret (results_none rfl _ _ _) rfl ?_
  exact ⟨rfl, HF.out, hbz⟩
theorem onFalse_any (ta : Int) (EL : List Ed) (es : Option Addr) (ec : Nat) (sb : Nat) (i : Ins) (V F : Int) (s : Option Addr) (c : List Ins) (cap : Nat) (at_ : Int) (x : Pic) (vs : Option Addr) (vc : Nat) (fs : Option Addr) (fc : Nat) (wr fl : Bool) (w0 w : World) (hS : Cells w sb (stpC i V F s c cap at_ x vs vc fs fc (.slice es EL.length ec) wr fl)) (hc0 : CodeAt w0 s c) (hx0 : PicAt w0 x vs fs) (hz0 : w0.heap.size ≤ sb) (hB0 : Below w0.heap.size w0 w) (K : SCtx V F c x vc fc i at_) (hER : ERow sb sb w (.slice es EL.length ec) EL) (hL2 : EL.length ≤ 10) (hA : nA i.k = true) :
  Calls Tryz.prog 47 #[.pointer (some ⟨sb, 0, none⟩), .int .i64 ta] w fun e w' => e = .returned (.tuple #[]) ∧ EdgAns sb w' (fun ev' => stpC i V F s c cap at_ x vs vc fs fc ev' wr fl) EL (if noGs (gAt x i.a) then [⟨ta, setVar x i.a (falseGs (gAt x i.a))⟩] else []) ∧ Below sb w w' := by
 have hsb := hS.2.1
 have hb1 : Below w.heap.size w (w.alloc (.cells #[.pointer (some ⟨sb, 0, none⟩)] 88)) := by go_grown
 have hP1 : Cells (w.alloc (.cells #[.pointer (some ⟨sb, 0, none⟩)] 88)) w.heap.size [.pointer (some ⟨sb, 0, none⟩)] := Cells.new w 88 [.pointer (some ⟨sb, 0, none⟩)]
 have HT : Hid (∀ wx, Below w.heap.size w wx → Calls Tryz.prog 51 #[.pointer (some ⟨sb, 0, none⟩)] wx fun e w' => e = .returned (.tuple #[.bool (yesGs (gAt x i.a)), .bool (noGs (gAt x i.a))]) ∧ Below wx.heap.size wx w') := fun wx hb => truthS_any sb i V F s c cap at_ x vs vc fs fc _ wr fl wx (hS.call hb) (hc0.below (hB0.trans (hb.mono hB0.size)) (Nat.le_refl _)) (hx0.below (hB0.trans (hb.mono hB0.size)) (Nat.le_refl _)) K hA
 have HE : Hid (∀ wx, Below w.heap.size w wx → Cells wx w.heap.size [.pointer (some ⟨sb, 0, none⟩)] → Calls Tryz.prog 49 #[.pointer (some ⟨sb, 0, none⟩), .int .i64 ta, .func (.func 85) #[] #[.pointer (some ⟨w.heap.size, 0, none⟩)]] wx fun e w' => e = .returned (.tuple #[]) ∧ (∃ ev' q, Cells w' sb (stpC i V F s c cap at_ x vs vc fs fc ev' wr fl) ∧ ERow sb sb w' ev' (EL ++ [q]) ∧ edG q = ⟨ta, setVar x i.a (falseGs (gAt x i.a))⟩) ∧ Below sb wx w') := fun wx hb hp =>
  edge_no sb ta _ w.heap.size EL es ec sb i V F s c cap at_ x vs vc fs fc wr fl w0 wx (hS.call hb) hc0 hx0 hz0 (hB0.trans (hb.mono hB0.size)) K rfl (hER.call hb) hL2 (ch_no sb sb _ i V F s c cap at_ x vs vc fs fc _ wr fl w.heap.size wx (hS.call hb) hp (K.spA hA) (K.varA hA))
 have HN : Hid (Cells w sb (stpC i V F s c cap at_ x vs vc fs fc (.slice es EL.length ec) wr fl) ∧ ERow sb sb w (.slice es EL.length ec) EL) := ⟨hS, hER⟩
 clear hS hER hc0 hx0 hB0 K hz0
 generalize hy : yesGs (gAt x i.a) = yy at *
 generalize hn : noGs (gAt x i.a) = nn at *
 clear hy hn
 generalize hpic : setVar x i.a (falseGs (gAt x i.a)) = xx at *
 clear hpic
 go_enter Tryz.func47, Tryz.ntmps47
 go_wp2_with (go_at_call 51; fail)
 refine (HT.out _ hb1).mono ?_
 rintro e w2 ⟨rfl, hb2⟩
 have hP2 := hP1.call hb2
 have hbw : Below w.heap.size w w2 := hb1.trans (hb2.mono hb1.size)
 have p0 := hP2.1 0 _ rfl
 clear hP1 hb2 hb1 HT
 cases nn with
 | false =>
  go_wp2
  first | go_end0 | refine bodyPost_ret (results_none rfl _ _ _) rfl ?_
  exact ⟨rfl, ⟨_, [], HN.out.1.call hbw, by rw [List.append_nil]; exact HN.out.2.call hbw, rfl⟩, hbw.mono (Nat.le_of_lt hsb)⟩
 | true =>
  go_wp2_with (go_at_call 49; fail)
  refine (HE.out w2 hbw hP2).mono ?_
  rintro e w3 ⟨rfl, ⟨ev', q, C3, E3, eq3⟩, hb3⟩
  have HF : Hid (EdgAns sb w3 (fun ev' => stpC i V F s c cap at_ x vs vc fs fc ev' wr fl) EL [⟨ta, xx⟩]) := ⟨ev', [q], C3, E3, by simp [eq3]⟩
  have hbz : Below sb w w3 := (hbw.mono (Nat.le_of_lt hsb)).trans hb3
  clear C3 E3 eq3 hb3 hP2 p0 HE HN
  go_wp2
  first | go_end0 | refine bodyPost_ret (results_none rfl _ _ _) rfl ?_
  exact ⟨rfl, HF.out, hbz⟩
end
section
set_option maxHeartbeats 4000000
set_option maxRecDepth 10000
open Go.RowKit
attribute [local go_sem ↓] Go.wp_at_zero Go.wp_at_succ

theorem in_noneG (g : Gs) : inGs g noneG = nothingGs g := by
 obtain ⟨n, ⟨sn, lo, hi⟩, t, f, s⟩ := g
 cases s with
 | nil => cases n <;> cases sn <;> cases t <;> cases f <;> simp [inGs, noneG, nothingGs, otherGs, spIn, Sp.has]
 | cons a r => cases n <;> cases sn <;> cases t <;> cases f <;> simp [inGs, noneG, nothingGs, otherGs, spIn, Sp.has]
theorem set_any (g : Gs) (ss : Option Addr) (gc : Nat) (EL : List Ed) (es : Option Addr) (ec : Nat) (sb : Nat) (i : Ins) (V F : Int) (s : Option Addr) (c : List Ins) (cap : Nat) (at_ : Int) (x : Pic) (vs : Option Addr) (vc : Nat) (fs : Option Addr) (fc : Nat) (wr fl : Bool) (w0 w : World) (hS : Cells w sb (stpC i V F s c cap at_ x vs vc fs fc (.slice es EL.length ec) wr fl)) (hc0 : CodeAt w0 s c) (hx0 : PicAt w0 x vs fs) (hz0 : w0.heap.size ≤ sb) (hB0 : Below w0.heap.size w0 w) (K : SCtx V F c x vc fc i at_) (hER : ERow sb sb w (.slice es EL.length ec) EL) (hL2 : EL.length ≤ 10) (hI : IntsIn (fun b => sb ≤ b ∧ b ≠ sb ∧ (Value.slice es EL.length ec).ownBlock ≠ some b) w ss g.s) (h1 : g.s.length ≤ gc) (h2 : gc ≤ maxLen) (hg : ckGs c g = 0) (hT : nTo i.k = true) :
  Calls Tryz.prog 53 #[.pointer (some ⟨sb, 0, none⟩), .agg #[.bool g.n, .bool g.sp.n, .int .i64 g.sp.lo, .int .i64 g.sp.hi, .bool g.t, .bool g.f, .slice ss g.s.length gc]] w fun e w' => e = .returned (.tuple #[]) ∧ EdgAns sb w' (fun ev' => stpC i V F s c cap at_ x vs vc fs fc ev' wr fl) EL (if nothingGs g then [] else [⟨at_ + 1, setVar x i.to g⟩]) ∧ Below sb w w' := by
 have hsb := hS.2.1
 have ha0 := K.a0
 have ha1 : at_ ≤ 1000 := by have := K.a1; have := K.lens; omega
 have hb1 : Below w.heap.size w ((w.alloc (.cells #[.pointer (some ⟨sb, 0, none⟩)] 88)).alloc (.cells #[.bool g.n, .bool g.sp.n, .int .i64 g.sp.lo, .int .i64 g.sp.hi, .bool g.t, .bool g.f, .slice ss g.s.length gc] 61)).drew := (show Below w.heap.size w ((w.alloc (.cells #[.pointer (some ⟨sb, 0, none⟩)] 88)).alloc (.cells #[.bool g.n, .bool g.sp.n, .int .i64 g.sp.lo, .int .i64 g.sp.hi, .bool g.t, .bool g.f, .slice ss g.s.length gc] 61)) by go_grown).drew
 have hP1 : Cells ((w.alloc (.cells #[.pointer (some ⟨sb, 0, none⟩)] 88)).alloc (.cells #[.bool g.n, .bool g.sp.n, .int .i64 g.sp.lo, .int .i64 g.sp.hi, .bool g.t, .bool g.f, .slice ss g.s.length gc] 61)).drew w.heap.size [.pointer (some ⟨sb, 0, none⟩)] := ((Cells.new w 88 [.pointer (some ⟨sb, 0, none⟩)]).call (by go_grown)).call (Below.refl _ _).drew
 have hG1 : Cells ((w.alloc (.cells #[.pointer (some ⟨sb, 0, none⟩)] 88)).alloc (.cells #[.bool g.n, .bool g.sp.n, .int .i64 g.sp.lo, .int .i64 g.sp.hi, .bool g.t, .bool g.f, .slice ss g.s.length gc] 61)).drew (w.heap.size + 1) [.bool g.n, .bool g.sp.n, .int .i64 g.sp.lo, .int .i64 g.sp.hi, .bool g.t, .bool g.f, .slice ss g.s.length gc] := by
  have h := (Cells.new (w.alloc (.cells #[.pointer (some ⟨sb, 0, none⟩)] 88)) 61 [.bool g.n, .bool g.sp.n, .int .i64 g.sp.lo, .int .i64 g.sp.hi, .bool g.t, .bool g.f, .slice ss g.s.length gc]).call (Below.refl _ _).drew
  rw [World.size_alloc] at h
  exact h
 have HWI : Hid (∀ wx, Below w.heap.size w wx → Calls Tryz.prog 89 #[pv V F s c cap, gv g ss gc, gv noneG none 0] wx fun e w' => e = .returned (.tuple #[.bool (nothingGs g), .int .i64 0]) ∧ Below wx.heap.size wx w') := fun wx hb => by
  rw [← in_noneG]
  exact withinG_ok V F s c cap g ss gc noneG none 0 wx (hc0.below (hB0.trans (hb.mono hB0.size)) (Nat.le_refl _)) (hI.at.call hb) h1 h2 (.inl rfl) (Nat.le_refl _) (Nat.zero_le _) (K.duo hg rfl)
 have HE : Hid (∀ wx, Below w.heap.size w wx → Cells wx w.heap.size [.pointer (some ⟨sb, 0, none⟩)] → Cells wx (w.heap.size + 1) [.bool g.n, .bool g.sp.n, .int .i64 g.sp.lo, .int .i64 g.sp.hi, .bool g.t, .bool g.f, .slice ss g.s.length gc] → Calls Tryz.prog 49 #[.pointer (some ⟨sb, 0, none⟩), .int .i64 (at_ + 1), .func (.func 90) #[] #[.pointer (some ⟨w.heap.size + 1, 0, none⟩), .pointer (some ⟨w.heap.size, 0, none⟩)]] wx fun e w' => e = .returned (.tuple #[]) ∧ (∃ ev' q, Cells w' sb (stpC i V F s c cap at_ x vs vc fs fc ev' wr fl) ∧ ERow sb sb w' ev' (EL ++ [q]) ∧ edG q = ⟨at_ + 1, setVar x i.to g⟩) ∧ Below sb wx w') := fun wx hb hp hq =>
  edge_set sb (at_ + 1) _ (w.heap.size + 1) w.heap.size EL es ec sb i V F s c cap at_ x vs vc fs fc wr fl w0 wx (hS.call hb) hc0 hx0 hz0 (hB0.trans (hb.mono hB0.size)) K rfl (hER.call hb) hL2 (ch_set sb sb _ i V F s c cap at_ x vs vc fs fc _ wr fl (w.heap.size + 1) w.heap.size g ss gc wx (hS.call hb) hp hq ((hI.call hb)) h1 h2 (K.varTo hT))
 have HN : Hid (∀ wx, Below w.heap.size w wx → Cells wx sb (stpC i V F s c cap at_ x vs vc fs fc (.slice es EL.length ec) wr fl) ∧ ERow sb sb wx (.slice es EL.length ec) EL) := fun wx hb => ⟨hS.call hb, hER.call hb⟩
 clear hER hc0 hx0 hB0 K hz0 hI hg hT
 generalize ePB : w.heap.size = pb at hP1 hG1 HE hb1 ⊢
 generalize eGB : pb + 1 = gb at hG1 HE ⊢
 have HKZ : Hid (∀ wx, Below pb w wx → Cells wx pb [.pointer (some ⟨sb, 0, none⟩)] → Cells wx gb [.bool g.n, .bool g.sp.n, .int .i64 g.sp.lo, .int .i64 g.sp.hi, .bool g.t, .bool g.f, .slice ss g.s.length gc] → wx.cell? ⟨pb, 0, none⟩ = some (.pointer (some ⟨sb, 0, none⟩)) ∧ (wx.cell? ⟨sb, 6, none⟩ = some (.int .i64 V) ∧ wx.cell? ⟨sb, 7, none⟩ = some (.int .i64 F) ∧ wx.cell? ⟨sb, 8, none⟩ = some (.slice s c.length cap)) ∧ (wx.cell? ⟨gb, 0, none⟩ = some (.bool g.n) ∧ wx.cell? ⟨gb, 1, none⟩ = some (.bool g.sp.n) ∧ wx.cell? ⟨gb, 2, none⟩ = some (.int .i64 g.sp.lo) ∧ wx.cell? ⟨gb, 3, none⟩ = some (.int .i64 g.sp.hi) ∧ wx.cell? ⟨gb, 4, none⟩ = some (.bool g.t) ∧ wx.cell? ⟨gb, 5, none⟩ = some (.bool g.f) ∧ wx.cell? ⟨gb, 6, none⟩ = some (.slice ss g.s.length gc))) := fun wx hb hp hq => by
  rw [← ePB] at hb
  have h := hS.call hb
  exact ⟨hp.1 0 _ rfl, ⟨h.1 6 _ rfl, h.1 7 _ rfl, h.1 8 _ rfl⟩, ⟨hq.1 0 _ rfl, hq.1 1 _ rfl, hq.1 2 _ rfl, hq.1 3 _ rfl, hq.1 4 _ rfl, hq.1 5 _ rfl, hq.1 6 _ rfl⟩⟩
 clear hS
 subst eGB
 subst ePB
 generalize ex : setVar x i.to g = xx at *
 generalize ey : nothingGs g = yy at *
 clear ex ey
 go_enter Tryz.func53, Tryz.ntmps53
 go_upto_region 1 with fail
 refine wp_region_z (S := (fun wx => wx.cell? ⟨w.heap.size, 0, none⟩ = some (.pointer (some ⟨sb, 0, none⟩)) ∧ (wx.cell? ⟨sb, 6, none⟩ = some (.int .i64 V) ∧ wx.cell? ⟨sb, 7, none⟩ = some (.int .i64 F) ∧ wx.cell? ⟨sb, 8, none⟩ = some (.slice s c.length cap)) ∧ (wx.cell? ⟨w.heap.size + 1, 0, none⟩ = some (.bool g.n) ∧ wx.cell? ⟨w.heap.size + 1, 1, none⟩ = some (.bool g.sp.n) ∧ wx.cell? ⟨w.heap.size + 1, 2, none⟩ = some (.int .i64 g.sp.lo) ∧ wx.cell? ⟨w.heap.size + 1, 3, none⟩ = some (.int .i64 g.sp.hi) ∧ wx.cell? ⟨w.heap.size + 1, 4, none⟩ = some (.bool g.t) ∧ wx.cell? ⟨w.heap.size + 1, 5, none⟩ = some (.bool g.f) ∧ wx.cell? ⟨w.heap.size + 1, 6, none⟩ = some (.slice ss g.s.length gc)))) [] (by kernel_rfl) (HKZ.out _ hb1 hP1 hG1) (fun hHeld => ?_)
 generalize ((w.alloc (.cells #[.pointer (some ⟨sb, 0, none⟩)] 88)).alloc (.cells #[.bool g.n, .bool g.sp.n, .int .i64 g.sp.lo, .int .i64 g.sp.hi, .bool g.t, .bool g.f, .slice ss g.s.length gc] 61)).drew = w1 at *
 refine tZ 0 ?_ ?_;refine sm ?_
 refine tZ 1 ?_ ?_;refine sm ?_
 refine tZ 2 ?_ ?_;refine sm ?_
 refine tZ 3 ?_ ?_;refine sm ?_
 refine tZ 4 ?_ ?_;refine sm ?_
 refine tZ 5 ?_ ?_;refine sm ?_
 refine tZ 6 ?_ ?_;refine sm ?_
 refine wpAnyZ_one (i := 7) rfl (by kernel_rfl) (fun K hK => ?_)
 go_simp
 refine (HWI.out w1 hb1).mono ?_
 rintro e w2 ⟨rfl, hb2⟩
 have hbw : Below w.heap.size w w2 := hb1.trans (hb2.mono hb1.size)
 have hP2 := hP1.call hb2
 have hG2 := hG1.call hb2
 refine hK.out _ _ (HKZ.out w2 hbw hP2 hG2) (fun hHeld => ?_)
 clear hK K hb1 hb2 hP1 hG1
 refine sm ?_
 refine tZ 8 ?_ ?_;refine sm ?_
 refine tZ 9 ?_ ?_;refine sm ?_
 refine tZ 10 ?_ ?_;refine sm ?_
 refine tZ 11 ?_ ?_;refine sm ?_
 refine tZ 12 ?_ ?_;refine sm ?_
 refine wpAnyZ_done (by kernel_rfl) ?_ _
 cases yy with
 | true =>
  have HF : Hid (EdgAns sb w2 (fun ev' => stpC i V F s c cap at_ x vs vc fs fc ev' wr fl) EL []) := ⟨_, [], (HN.out w2 hbw).1, by rw [List.append_nil]; exact (HN.out w2 hbw).2, rfl⟩
  clear HE HKZ HWI
  go_wp2
  first | go_end0 | refine bodyPost_ret (results_none rfl _ _ _) rfl ?_
  exact ⟨rfl, HF.out, hbw.mono (Nat.le_of_lt hsb)⟩
 | false =>
  have hbq := hbw.drew
  have hPq := hP2.call (Below.refl _ _).drew
  have hGq := hG2.call (Below.refl _ _).drew
  have PQ := hPq.1 0 _ rfl
  have CQ := (HN.out _ hbq).1
  clear HN HKZ HWI hP2 hG2 hbw
  go_upto_region 3 with fail
  refine wp_region_z (S := (fun wx => wx.cell? ⟨w.heap.size, 0, none⟩ = some (.pointer (some ⟨sb, 0, none⟩)))) [4] (by kernel_rfl) PQ (fun hHeld => ?_)
  generalize w2.drew = wq at *
  refine tZ 0 ?_ ?_;refine sm ?_
  refine tZ 1 ?_ ?_;refine sm ?_
  refine tZ 3 ?_ ?_;refine sm ?_
  refine wpAnyZ_one (i := 2) rfl (by kernel_rfl) (fun K hK => ?_)
  go_simp
  refine (next_any sb at_ _ wq CQ rfl ha0 ha1).mono ?_
  rintro e w' ⟨rfl, ew⟩
  rw [ew]
  clear ew w'
  refine hK.out _ _ PQ (fun hHeld => ?_)
  clear hK K
  refine sm ?_
  refine wpAnyZ_last (i := 4) rfl (by kernel_rfl) (by kernel_rfl) (fun K hK => ?_)
  go_simp
  refine (HE.out wq hbq hPq hGq).mono ?_
  rintro e w3 ⟨rfl, ⟨ev', q, C3, E3, eq3⟩, hb3⟩
  have HF : Hid (EdgAns sb w3 (fun ev' => stpC i V F s c cap at_ x vs vc fs fc ev' wr fl) EL [⟨at_ + 1, xx⟩]) := ⟨ev', [q], C3, E3, by simp [eq3]⟩
  have hbz : Below sb w w3 := (hbq.mono (Nat.le_of_lt hsb)).trans hb3
  clear C3 E3 eq3 hb3 hPq hGq HE PQ CQ hbq
  refine hK.out _ _ ?_
  clear hK K
  refine sm ?_
  refine wpAnyZ_done (by kernel_rfl) ?_ _
  first | go_end0 | refine bodyPost_ret (results_none rfl _ _ _) rfl ?_
  exact ⟨rfl, HF.out, hbz⟩
end
end Go.Proofs.YtmapdpcfanecdabGreat
