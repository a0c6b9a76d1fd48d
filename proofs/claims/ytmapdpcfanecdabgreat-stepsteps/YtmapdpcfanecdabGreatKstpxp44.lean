/- Walks over package step: Step. -/
import Derived.Test.YtmapdpcfanecdabGreatKstpxp43
import Derived.Test.YtmapdpcfanecdabGreatKstpxp25
import Derived.Test.YtmapdpcfanecdabGreatKstpxp08
import Derived.Deep.DeepCutAuto
set_option linter.unusedSimpArgs false
set_option linter.unusedVariables false
namespace Go.Proofs.YtmapdpcfanecdabGreat
section
set_option maxHeartbeats 8000000
set_option maxRecDepth 20000
open Go.RowKit
attribute [local go_sem ↓] Go.wp_at_zero Go.wp_at_succ

/-- What a step of a picture answers first: an errno. -/
def stepE (V F : Int) (c : List Ins) (at_ : Int) (x : Pic) : Int := if ckPics V F c [x] = 0 then (if at_ < 0 ∨ (c.length : Int) ≤ at_ then 5 else 0) else ckPics V F c [x]
def stepA (V F : Int) (c : List Ins) (at_ : Int) (x : Pic) : List Edg × Bool × Bool := if stepE V F c at_ x = 0 then stepPic (insAt c at_) at_ x else ([], false, false)
/-- What Step answers. -/
def StpE (B : Nat) (w' : World) (e : Ending) (r : List Edg × Bool × Bool) (er : Int) : Prop := ∃ es ec, e = .returned (.tuple #[.slice es r.1.length ec, .bool r.2.1, .bool r.2.2, .int .i64 er]) ∧ EdsOn (fun b => B ≤ b) w' es r.1
theorem ckPics_one {V F : Int} {c : List Ins} {x : Pic} (h : ckPics V F c [x] = 0) : ckProg V F c = 0 ∧ ckPic V F c x = 0 := by
 unfold ckPics at h
 by_cases h0 : ckProg V F c = 0
 ·rw [if_pos h0] at h
  unfold ckPicL at h
  by_cases h1 : ckPic V F c x = 0
  ·exact ⟨h0, h1⟩
  ·rw [if_neg h1] at h; exact absurd h h1
 ·rw [if_neg h0] at h; exact absurd h h0
theorem stepF_err (V F : Int) (s : Option Addr) (c : List Ins) (cap : Nat) (at_ : Int) (x : Pic) (vs : Option Addr) (vc : Nat) (fs : Option Addr) (fc : Nat) (w : World) (hc : CodeAt w s c) (hx : PicAt w x vs fs) (h1 : x.vars.length ≤ vc ∧ vc ≤ maxLen) (h2 : x.flds.length ≤ fc ∧ fc ≤ maxLen) (hu : ckPics V F c [x] ≠ 0) :
  Calls Tryz.prog 5 #[pv V F s c cap, .int .i64 at_, xv x vs vc fs fc] w fun e w' => StpE w.heap.size w' e ([], false, false) (ckPics V F c [x]) ∧ Below w.heap.size w w' := by
 have hb0 : Below w.heap.size w ((w.alloc (.cells #[.int .i64 V, .int .i64 F, .slice s c.length cap] 24)).alloc (.cells #[.bool x.none, .slice vs x.vars.length vc, .slice fs x.flds.length fc] 28)) := by go_grown
 have P0 : Cells ((w.alloc (.cells #[.int .i64 V, .int .i64 F, .slice s c.length cap] 24)).alloc (.cells #[.bool x.none, .slice vs x.vars.length vc, .slice fs x.flds.length fc] 28)) w.heap.size [.int .i64 V, .int .i64 F, .slice s c.length cap] := (Cells.new w 24 [.int .i64 V, .int .i64 F, .slice s c.length cap]).call (by go_grown)
 have X0 : Cells ((w.alloc (.cells #[.int .i64 V, .int .i64 F, .slice s c.length cap] 24)).alloc (.cells #[.bool x.none, .slice vs x.vars.length vc, .slice fs x.flds.length fc] 28)) (w.heap.size + 1) [.bool x.none, .slice vs x.vars.length vc, .slice fs x.flds.length fc] := by
  have h := Cells.new (w.alloc (.cells #[.int .i64 V, .int .i64 F, .slice s c.length cap] 24)) 28 [.bool x.none, .slice vs x.vars.length vc, .slice fs x.flds.length fc]
  rw [World.size_alloc] at h
  exact h
 have HC := hideH (checkP_any V F s c cap x vs vc fs fc ((w.alloc (.cells #[.int .i64 V, .int .i64 F, .slice s c.length cap] 24)).alloc (.cells #[.bool x.none, .slice vs x.vars.length vc, .slice fs x.flds.length fc] 28)) (hc.below hb0 (Nat.le_refl _)) (hx.below hb0 (Nat.le_refl _)) h1 h2)
 generalize ckPics V F c [x] = u at *
 have hub : (u != 0) = true := by simpa using hu
 clear hu hc hx
 go_enter Tryz.func5, Tryz.ntmps5
 go_wp2_with (go_at_call 17; fail)
 refine HC.out.mono ?_
 rintro e w1 ⟨rfl, hb1⟩
 generalize ((w.alloc (.cells #[.int .i64 V, .int .i64 F, .slice s c.length cap] 24)).alloc (.cells #[.bool x.none, .slice vs x.vars.length vc, .slice fs x.flds.length fc] 28)) = w0 at *
 have B1 := hb0.trans (hb1.mono hb0.size)
 have P1 := P0.call hb1
 have X1 := X0.call hb1
 clear P0 X0 hb0 hb1 HC
 go_wp2
 refine bodyPost_ret (v := .tuple #[.slice none 0 0, .bool false, .bool false, .int .i64 u]) (by simp [results, Tryz.results5, go_sem]) rfl ⟨⟨none, 0, rfl, EdsOn.nil⟩, B1⟩
theorem stepF_range (V F : Int) (s : Option Addr) (c : List Ins) (cap : Nat) (at_ : Int) (x : Pic) (vs : Option Addr) (vc : Nat) (fs : Option Addr) (fc : Nat) (w : World) (hc : CodeAt w s c) (hx : PicAt w x vs fs) (h1 : x.vars.length ≤ vc ∧ vc ≤ maxLen) (h2 : x.flds.length ≤ fc ∧ fc ≤ maxLen) (hu : ckPics V F c [x] = 0) (hr : at_ < 0 ∨ (c.length : Int) ≤ at_) :
  Calls Tryz.prog 5 #[pv V F s c cap, .int .i64 at_, xv x vs vc fs fc] w fun e w' => StpE w.heap.size w' e ([], false, false) 5 ∧ Below w.heap.size w w' := by
 have hb0 : Below w.heap.size w ((w.alloc (.cells #[.int .i64 V, .int .i64 F, .slice s c.length cap] 24)).alloc (.cells #[.bool x.none, .slice vs x.vars.length vc, .slice fs x.flds.length fc] 28)) := by go_grown
 have P0 : Cells ((w.alloc (.cells #[.int .i64 V, .int .i64 F, .slice s c.length cap] 24)).alloc (.cells #[.bool x.none, .slice vs x.vars.length vc, .slice fs x.flds.length fc] 28)) w.heap.size [.int .i64 V, .int .i64 F, .slice s c.length cap] := (Cells.new w 24 [.int .i64 V, .int .i64 F, .slice s c.length cap]).call (by go_grown)
 have X0 : Cells ((w.alloc (.cells #[.int .i64 V, .int .i64 F, .slice s c.length cap] 24)).alloc (.cells #[.bool x.none, .slice vs x.vars.length vc, .slice fs x.flds.length fc] 28)) (w.heap.size + 1) [.bool x.none, .slice vs x.vars.length vc, .slice fs x.flds.length fc] := by
  have h := Cells.new (w.alloc (.cells #[.int .i64 V, .int .i64 F, .slice s c.length cap] 24)) 28 [.bool x.none, .slice vs x.vars.length vc, .slice fs x.flds.length fc]
  rw [World.size_alloc] at h
  exact h
 have HC := hideH (checkP_any V F s c cap x vs vc fs fc ((w.alloc (.cells #[.int .i64 V, .int .i64 F, .slice s c.length cap] 24)).alloc (.cells #[.bool x.none, .slice vs x.vars.length vc, .slice fs x.flds.length fc] 28)) (hc.below hb0 (Nat.le_refl _)) (hx.below hb0 (Nat.le_refl _)) h1 h2)
 rw [hu] at HC
 clear hu hc hx
 go_enter Tryz.func5, Tryz.ntmps5
 go_wp2_with (go_at_call 17; fail)
 refine HC.out.mono ?_
 rintro e w1 ⟨rfl, hb1⟩
 generalize ((w.alloc (.cells #[.int .i64 V, .int .i64 F, .slice s c.length cap] 24)).alloc (.cells #[.bool x.none, .slice vs x.vars.length vc, .slice fs x.flds.length fc] 28)) = w0 at *
 have B1 := hb0.trans (hb1.mono hb0.size)
 have P1 := P0.call hb1
 have X1 := X0.call hb1
 clear P0 X0 hb0 hb1 HC
 have p2 := P1.1 2 _ rfl
 by_cases h0 : at_ < 0
 ·clear hr
  go_wp2
  refine bodyPost_ret (v := .tuple #[.slice none 0 0, .bool false, .bool false, .int .i64 5]) (by simp [results, Tryz.results5, go_sem]) rfl ⟨⟨none, 0, rfl, EdsOn.nil⟩, B1⟩
 ·have h3 : (c.length : Int) ≤ at_ := by omega
  clear hr
  go_wp2
  refine bodyPost_ret (v := .tuple #[.slice none 0 0, .bool false, .bool false, .int .i64 5]) (by simp [results, Tryz.results5, go_sem]) rfl ⟨⟨none, 0, rfl, EdsOn.nil⟩, B1⟩
theorem stepF_none (V F : Int) (s : Option Addr) (c : List Ins) (cap : Nat) (at_ : Int) (x : Pic) (vs : Option Addr) (vc : Nat) (fs : Option Addr) (fc : Nat) (w : World) (hc : CodeAt w s c) (hx : PicAt w x vs fs) (h1 : x.vars.length ≤ vc ∧ vc ≤ maxLen) (h2 : x.flds.length ≤ fc ∧ fc ≤ maxLen) (hu : ckPics V F c [x] = 0) (hr : ¬ (at_ < 0 ∨ (c.length : Int) ≤ at_)) (hn : x.none = true) :
  Calls Tryz.prog 5 #[pv V F s c cap, .int .i64 at_, xv x vs vc fs fc] w fun e w' => StpE w.heap.size w' e ([], false, false) 0 ∧ Below w.heap.size w w' := by
 have hb0 : Below w.heap.size w ((w.alloc (.cells #[.int .i64 V, .int .i64 F, .slice s c.length cap] 24)).alloc (.cells #[.bool x.none, .slice vs x.vars.length vc, .slice fs x.flds.length fc] 28)) := by go_grown
 have P0 : Cells ((w.alloc (.cells #[.int .i64 V, .int .i64 F, .slice s c.length cap] 24)).alloc (.cells #[.bool x.none, .slice vs x.vars.length vc, .slice fs x.flds.length fc] 28)) w.heap.size [.int .i64 V, .int .i64 F, .slice s c.length cap] := (Cells.new w 24 [.int .i64 V, .int .i64 F, .slice s c.length cap]).call (by go_grown)
 have X0 : Cells ((w.alloc (.cells #[.int .i64 V, .int .i64 F, .slice s c.length cap] 24)).alloc (.cells #[.bool x.none, .slice vs x.vars.length vc, .slice fs x.flds.length fc] 28)) (w.heap.size + 1) [.bool x.none, .slice vs x.vars.length vc, .slice fs x.flds.length fc] := by
  have h := Cells.new (w.alloc (.cells #[.int .i64 V, .int .i64 F, .slice s c.length cap] 24)) 28 [.bool x.none, .slice vs x.vars.length vc, .slice fs x.flds.length fc]
  rw [World.size_alloc] at h
  exact h
 have HC := hideH (checkP_any V F s c cap x vs vc fs fc ((w.alloc (.cells #[.int .i64 V, .int .i64 F, .slice s c.length cap] 24)).alloc (.cells #[.bool x.none, .slice vs x.vars.length vc, .slice fs x.flds.length fc] 28)) (hc.below hb0 (Nat.le_refl _)) (hx.below hb0 (Nat.le_refl _)) h1 h2)
 rw [hu] at HC
 have HNX := hideH hn
 have r0 : ¬ at_ < 0 := by omega
 have r1 : ¬ (c.length : Int) ≤ at_ := by omega
 clear hu hc hx hn hr
 go_enter Tryz.func5, Tryz.ntmps5
 go_wp2_with (go_at_call 17; fail)
 refine HC.out.mono ?_
 rintro e w1 ⟨rfl, hb1⟩
 generalize ((w.alloc (.cells #[.int .i64 V, .int .i64 F, .slice s c.length cap] 24)).alloc (.cells #[.bool x.none, .slice vs x.vars.length vc, .slice fs x.flds.length fc] 28)) = w0 at *
 have B1 := hb0.trans (hb1.mono hb0.size)
 have P1 := P0.call hb1
 have X1 := X0.call hb1
 clear P0 X0 hb0 hb1 HC
 have p2 := P1.1 2 _ rfl
 have x0 := X1.1 0 _ rfl
 rw [HNX.out] at x0
 go_wp2
 refine bodyPost_ret (v := .tuple #[.slice none 0 0, .bool false, .bool false, .int .i64 0]) (by simp [results, Tryz.results5, go_sem]) rfl ⟨⟨none, 0, rfl, EdsOn.nil⟩, B1⟩
theorem stepF_ok (V F : Int) (s : Option Addr) (c : List Ins) (cap : Nat) (at_ : Int) (x : Pic) (vs : Option Addr) (vc : Nat) (fs : Option Addr) (fc : Nat) (w : World) (hc : CodeAt w s c) (hx : PicAt w x vs fs) (h1 : x.vars.length ≤ vc ∧ vc ≤ maxLen) (h2 : x.flds.length ≤ fc ∧ fc ≤ maxLen) (hu : ckPics V F c [x] = 0) (hr : ¬ (at_ < 0 ∨ (c.length : Int) ≤ at_)) (hn : x.none = false) :
  Calls Tryz.prog 5 #[pv V F s c cap, .int .i64 at_, xv x vs vc fs fc] w fun e w' => StpE w.heap.size w' e (stepPic (insAt c at_) at_ x) 0 ∧ Below w.heap.size w w' := by
 obtain ⟨i, hi⟩ : ∃ i, i = insAt c at_ := ⟨_, rfl⟩
 rw [← hi]
 obtain ⟨k0, kx⟩ := ckPics_one hu
 have K : SCtx V F c x vc fc i at_ := ⟨k0, picOk_of kx hn, hi, by omega, by omega, h1, h2⟩
 obtain ⟨m, em⟩ := Int.eq_ofNat_of_zero_le K.a0
 have ha1 := K.a1
 have hm : m < c.length := by omega
 have hcm : c[m] = i := by rw [hi, em]; unfold insAt; simp [List.getD, hm]
 have HST : Hid (∀ sb wx, Cells wx sb (stpC i V F s c cap at_ x vs vc fs fc (.slice none 0 0) false false) → w.heap.size ≤ sb → Below w.heap.size w wx → Calls Tryz.prog 18 #[.pointer (some ⟨sb, 0, none⟩)] wx fun e w' => e = .returned (.tuple #[]) ∧ EdgAns sb w' (fun ev' => stpC i V F s c cap at_ x vs vc fs fc ev' (stepPic i at_ x).2.1 (stepPic i at_ x).2.2) [] (stepPic i at_ x).1 ∧ Below sb wx w') := fun sb wx hs hz hb => step_any sb i V F s c cap at_ x vs vc fs fc w wx hs hc hx hz hb K
 have HCA := hideH hc
 have r0 : ¬ at_ < 0 := by omega
 have r1 : ¬ (c.length : Int) ≤ at_ := by omega
 have n0 : (0 : Int) ≤ (m : Int) := by omega
 have n1 : (m : Int) < (c.length : Int) := by omega
 have HCM := hideH hcm
 have HNX := hideH hn
 have hb0 : Below w.heap.size w ((w.alloc (.cells #[.int .i64 V, .int .i64 F, .slice s c.length cap] 24)).alloc (.cells #[.bool x.none, .slice vs x.vars.length vc, .slice fs x.flds.length fc] 28)) := by go_grown
 have P0 : Cells ((w.alloc (.cells #[.int .i64 V, .int .i64 F, .slice s c.length cap] 24)).alloc (.cells #[.bool x.none, .slice vs x.vars.length vc, .slice fs x.flds.length fc] 28)) w.heap.size [.int .i64 V, .int .i64 F, .slice s c.length cap] := (Cells.new w 24 [.int .i64 V, .int .i64 F, .slice s c.length cap]).call (by go_grown)
 have X0 : Cells ((w.alloc (.cells #[.int .i64 V, .int .i64 F, .slice s c.length cap] 24)).alloc (.cells #[.bool x.none, .slice vs x.vars.length vc, .slice fs x.flds.length fc] 28)) (w.heap.size + 1) [.bool x.none, .slice vs x.vars.length vc, .slice fs x.flds.length fc] := by
  have h := Cells.new (w.alloc (.cells #[.int .i64 V, .int .i64 F, .slice s c.length cap] 24)) 28 [.bool x.none, .slice vs x.vars.length vc, .slice fs x.flds.length fc]
  rw [World.size_alloc] at h
  exact h
 have HC := hideH (checkP_any V F s c cap x vs vc fs fc ((w.alloc (.cells #[.int .i64 V, .int .i64 F, .slice s c.length cap] 24)).alloc (.cells #[.bool x.none, .slice vs x.vars.length vc, .slice fs x.flds.length fc] 28)) (hc.below hb0 (Nat.le_refl _)) (hx.below hb0 (Nat.le_refl _)) h1 h2)
 rw [hu] at HC
 clear hu hc hx hn hr hi hcm K kx k0 ha1
 obtain ⟨⟨SL, wr, fl⟩, hst⟩ : ∃ q, q = stepPic i at_ x := ⟨_, rfl⟩
 rw [← hst] at HST ⊢
 clear hst
 go_enter Tryz.func5, Tryz.ntmps5
 go_wp2_with (go_at_call 17; fail)
 refine HC.out.mono ?_
 rintro e w1 ⟨rfl, hb1⟩
 generalize ((w.alloc (.cells #[.int .i64 V, .int .i64 F, .slice s c.length cap] 24)).alloc (.cells #[.bool x.none, .slice vs x.vars.length vc, .slice fs x.flds.length fc] 28)) = w0 at *
 have B1 := hb0.trans (hb1.mono hb0.size)
 have P1 := P0.call hb1
 have X1 := X0.call hb1
 clear P0 X0 hb0 hb1 HC
 obtain ⟨cb0, co, es, hcb, hci⟩ := HCA.out.get m hm
 obtain ⟨j0, j1, j2, j3, j4, j5⟩ := (hci m hm).below B1 hcb
 rw [HCM.out] at j0 j1 j2 j3 j4 j5
 have p2 := P1.1 2 _ rfl
 have x0 := X1.1 0 _ rfl
 rw [HNX.out] at x0
 have hzz : w1.heap.size ≤ w1.drew.heap.size := (Below.refl w1.heap.size w1).drew.size
 have D1 : Below w1.heap.size w1 w1.drew := (Below.refl _ _).drew
 have P2 := P1.call D1
 have X2 := X1.call D1
 have B2 := B1.trans (D1.mono B1.size)
 rw [HNX.out] at X2
 have HKZ : Hid (∀ wx, Below w1.drew.heap.size w1.drew wx → (wx.cell? ⟨w.heap.size, 0, none⟩ = some (.int .i64 V) ∧ wx.cell? ⟨w.heap.size, 1, none⟩ = some (.int .i64 F) ∧ wx.cell? ⟨w.heap.size, 2, none⟩ = some (.slice (some ⟨cb0, co, none⟩) c.length cap)) ∧ (wx.cell? ⟨w.heap.size + 1, 0, none⟩ = some (.bool false) ∧ wx.cell? ⟨w.heap.size + 1, 1, none⟩ = some (.slice vs x.vars.length vc) ∧ wx.cell? ⟨w.heap.size + 1, 2, none⟩ = some (.slice fs x.flds.length fc)) ∧ (wx.cell? ⟨cb0, co + m * 6, none⟩ = some (.int .i64 i.k) ∧ wx.cell? ⟨cb0, co + m * 6 + 1, none⟩ = some (.int .i64 i.to) ∧ wx.cell? ⟨cb0, co + m * 6 + 2, none⟩ = some (.int .i64 i.a) ∧ wx.cell? ⟨cb0, co + m * 6 + 3, none⟩ = some (.int .i64 i.b) ∧ wx.cell? ⟨cb0, co + m * 6 + 4, none⟩ = some (.int .i64 i.n) ∧ wx.cell? ⟨cb0, co + m * 6 + 5, none⟩ = some (.int .i64 i.g))) := fun wx hb => by
  have p := P2.call hb
  have q := X2.call hb
  have bb := B2.trans (hb.mono B2.size)
  have pp := p.1 2 _ rfl
  rw [es] at pp
  refine ⟨⟨p.1 0 _ rfl, p.1 1 _ rfl, pp⟩, ⟨q.1 0 _ rfl, q.1 1 _ rfl, q.1 2 _ rfl⟩, ?_⟩
  have := (hci m hm).below bb hcb
  rw [HCM.out] at this
  exact this
 have HES := hideH es
 clear es hci j0 j1 j2 j3 j4 j5 P1 X1 D1 hzz
 subst em
 go_upto_region 8 with fail
 clear p2 x0 r0 r1
 refine wp_region_z (S := (fun wx => (wx.cell? ⟨w.heap.size, 0, none⟩ = some (.int .i64 V) ∧ wx.cell? ⟨w.heap.size, 1, none⟩ = some (.int .i64 F) ∧ wx.cell? ⟨w.heap.size, 2, none⟩ = some (.slice (some ⟨cb0, co, none⟩) c.length cap)) ∧ (wx.cell? ⟨w.heap.size + 1, 0, none⟩ = some (.bool false) ∧ wx.cell? ⟨w.heap.size + 1, 1, none⟩ = some (.slice vs x.vars.length vc) ∧ wx.cell? ⟨w.heap.size + 1, 2, none⟩ = some (.slice fs x.flds.length fc)) ∧ (wx.cell? ⟨cb0, co + m * 6, none⟩ = some (.int .i64 i.k) ∧ wx.cell? ⟨cb0, co + m * 6 + 1, none⟩ = some (.int .i64 i.to) ∧ wx.cell? ⟨cb0, co + m * 6 + 2, none⟩ = some (.int .i64 i.a) ∧ wx.cell? ⟨cb0, co + m * 6 + 3, none⟩ = some (.int .i64 i.b) ∧ wx.cell? ⟨cb0, co + m * 6 + 4, none⟩ = some (.int .i64 i.n) ∧ wx.cell? ⟨cb0, co + m * 6 + 5, none⟩ = some (.int .i64 i.g)))) [10] (by kernel_rfl) (HKZ.out _ (Below.refl _ _)) (fun hHeld => ?_)
 generalize w1.drew = w2 at *
 refine tZ 0 ?_ ?_;refine sm ?_
 refine tZ 1 ?_ ?_;refine sm ?_
 refine tZ 2 ?_ ?_;refine sm ?_
 refine tZ 3 ?_ ?_;refine sm ?_
 refine tZ 4 ?_ ?_;refine sm ?_
 refine tZ 5 ?_ ?_;refine sm ?_
 refine tZ 6 ?_ ?_;refine sm ?_
 refine tZ 7 ?_ ?_;refine sm ?_
 refine tZ 8 ?_ ?_;refine sm ?_
 refine wpAnyZ_one (i := 9) rfl (by kernel_rfl) (fun K hK => ?_)
 go_simp
 have hb3 : Below w2.heap.size w2 (w2.alloc (.cells #[.int .i64 0, .int .i64 0, .int .i64 0, .int .i64 0, .int .i64 0, .int .i64 0, .int .i64 0, .int .i64 0, .slice none 0 0, .int .i64 0, .bool false, .slice none 0 0, .slice none 0 0, .slice none 0 0, .bool false, .bool false] 53)) := by go_grown
 have S3 : Cells (w2.alloc (.cells #[.int .i64 0, .int .i64 0, .int .i64 0, .int .i64 0, .int .i64 0, .int .i64 0, .int .i64 0, .int .i64 0, .slice none 0 0, .int .i64 0, .bool false, .slice none 0 0, .slice none 0 0, .slice none 0 0, .bool false, .bool false] 53)) w2.heap.size [.int .i64 0, .int .i64 0, .int .i64 0, .int .i64 0, .int .i64 0, .int .i64 0, .int .i64 0, .int .i64 0, .slice none 0 0, .int .i64 0, .bool false, .slice none 0 0, .slice none 0 0, .slice none 0 0, .bool false, .bool false] := Cells.new w2 53 [.int .i64 0, .int .i64 0, .int .i64 0, .int .i64 0, .int .i64 0, .int .i64 0, .int .i64 0, .int .i64 0, .slice none 0 0, .int .i64 0, .bool false, .slice none 0 0, .slice none 0 0, .slice none 0 0, .bool false, .bool false]
 refine hK.out _ _ (HKZ.out _ hb3) (fun hHeld => ?_)
 clear hK K
 refine sm ?_
 generalize w2.alloc (.cells #[.int .i64 0, .int .i64 0, .int .i64 0, .int .i64 0, .int .i64 0, .int .i64 0, .int .i64 0, .int .i64 0, .slice none 0 0, .int .i64 0, .bool false, .slice none 0 0, .slice none 0 0, .slice none 0 0, .bool false, .bool false] 53) = w3 at *
 generalize eSB : w2.heap.size = sb at *
 refine wpAnyZ_last (i := 10) rfl (by kernel_rfl) (by kernel_rfl) (fun K hK => ?_)
 have r0 := S3.1 0 _ rfl
 have f0 := S3.2.2 0
 have r1 := S3.1 1 _ rfl
 have f1 := S3.2.2 1
 have r2 := S3.1 2 _ rfl
 have f2 := S3.2.2 2
 have r3 := S3.1 3 _ rfl
 have f3 := S3.2.2 3
 have r4 := S3.1 4 _ rfl
 have f4 := S3.2.2 4
 have r5 := S3.1 5 _ rfl
 have f5 := S3.2.2 5
 have r6 := S3.1 6 _ rfl
 have f6 := S3.2.2 6
 have r7 := S3.1 7 _ rfl
 have f7 := S3.2.2 7
 have r8 := S3.1 8 _ rfl
 have f8 := S3.2.2 8
 have r9 := S3.1 9 _ rfl
 have f9 := S3.2.2 9
 have r10 := S3.1 10 _ rfl
 have f10 := S3.2.2 10
 have r11 := S3.1 11 _ rfl
 have f11 := S3.2.2 11
 have r12 := S3.1 12 _ rfl
 have f12 := S3.2.2 12
 have r13 := S3.1 13 _ rfl
 have f13 := S3.2.2 13
 have r14 := S3.1 14 _ rfl
 have f14 := S3.2.2 14
 have r15 := S3.1 15 _ rfl
 have f15 := S3.2.2 15
 go_simp
 refine hK.out _ _ ?_
 clear hK K r0 f0 r1 f1 r2 f2 r3 f3 r4 f4 r5 f5 r6 f6 r7 f7 r8 f8 r9 f9 r10 f10 r11 f11 r12 f12 r13 f13 r14 f14 r15 f15
 refine sm ?_
 refine wpAnyZ_done (by kernel_rfl) ?_ _
 have hs2 : w2.heap.size ≤ sb := by omega
 have C4 : Cells ((((((((((((((((w3.setCell ⟨sb, 0, none⟩ (.int .i64 i.k)).setCell ⟨sb, 1, none⟩ (.int .i64 i.to)).setCell ⟨sb, 2, none⟩ (.int .i64 i.a)).setCell ⟨sb, 3, none⟩ (.int .i64 i.b)).setCell ⟨sb, 4, none⟩ (.int .i64 i.n)).setCell ⟨sb, 5, none⟩ (.int .i64 i.g)).setCell ⟨sb, 6, none⟩ (.int .i64 V)).setCell ⟨sb, 7, none⟩ (.int .i64 F)).setCell ⟨sb, 8, none⟩ (.slice (some ⟨cb0, co, none⟩) c.length cap)).setCell ⟨sb, 9, none⟩ (.int .i64 (m : Int))).setCell ⟨sb, 10, none⟩ (.bool false)).setCell ⟨sb, 11, none⟩ (.slice vs x.vars.length vc)).setCell ⟨sb, 12, none⟩ (.slice fs x.flds.length fc)).setCell ⟨sb, 13, none⟩ (.slice none 0 0)).setCell ⟨sb, 14, none⟩ (.bool false)).setCell ⟨sb, 15, none⟩ (.bool false)) sb (stpC i V F s c cap (m : Int) x vs vc fs fc (.slice none 0 0) false false) := by
  have h := ((((((((((((((((S3.put 0 (by simp only [List.length_set, List.length_cons, List.length_nil]; omega) (.int .i64 i.k)).put 1 (by simp only [List.length_set, List.length_cons, List.length_nil]; omega) (.int .i64 i.to)).put 2 (by simp only [List.length_set, List.length_cons, List.length_nil]; omega) (.int .i64 i.a)).put 3 (by simp only [List.length_set, List.length_cons, List.length_nil]; omega) (.int .i64 i.b)).put 4 (by simp only [List.length_set, List.length_cons, List.length_nil]; omega) (.int .i64 i.n)).put 5 (by simp only [List.length_set, List.length_cons, List.length_nil]; omega) (.int .i64 i.g)).put 6 (by simp only [List.length_set, List.length_cons, List.length_nil]; omega) (.int .i64 V)).put 7 (by simp only [List.length_set, List.length_cons, List.length_nil]; omega) (.int .i64 F)).put 8 (by simp only [List.length_set, List.length_cons, List.length_nil]; omega) (.slice (some ⟨cb0, co, none⟩) c.length cap)).put 9 (by simp only [List.length_set, List.length_cons, List.length_nil]; omega) (.int .i64 (m : Int))).put 10 (by simp only [List.length_set, List.length_cons, List.length_nil]; omega) (.bool false)).put 11 (by simp only [List.length_set, List.length_cons, List.length_nil]; omega) (.slice vs x.vars.length vc)).put 12 (by simp only [List.length_set, List.length_cons, List.length_nil]; omega) (.slice fs x.flds.length fc)).put 13 (by simp only [List.length_set, List.length_cons, List.length_nil]; omega) (.slice none 0 0)).put 14 (by simp only [List.length_set, List.length_cons, List.length_nil]; omega) (.bool false)).put 15 (by simp only [List.length_set, List.length_cons, List.length_nil]; omega) (.bool false))
  have e : stpC i V F s c cap (m : Int) x vs vc fs fc (.slice none 0 0) false false = [.int .i64 i.k, .int .i64 i.to, .int .i64 i.a, .int .i64 i.b, .int .i64 i.n, .int .i64 i.g, .int .i64 V, .int .i64 F, .slice (some ⟨cb0, co, none⟩) c.length cap, .int .i64 (m : Int), .bool false, .slice vs x.vars.length vc, .slice fs x.flds.length fc, .slice none 0 0, .bool false, .bool false] := by unfold stpC; rw [HNX.out, HES.out]
  rw [e]
  simp only [List.set_cons_zero, List.set_cons_succ] at h
  exact h
 have B4 : Below sb w2 ((((((((((((((((w3.setCell ⟨sb, 0, none⟩ (.int .i64 i.k)).setCell ⟨sb, 1, none⟩ (.int .i64 i.to)).setCell ⟨sb, 2, none⟩ (.int .i64 i.a)).setCell ⟨sb, 3, none⟩ (.int .i64 i.b)).setCell ⟨sb, 4, none⟩ (.int .i64 i.n)).setCell ⟨sb, 5, none⟩ (.int .i64 i.g)).setCell ⟨sb, 6, none⟩ (.int .i64 V)).setCell ⟨sb, 7, none⟩ (.int .i64 F)).setCell ⟨sb, 8, none⟩ (.slice (some ⟨cb0, co, none⟩) c.length cap)).setCell ⟨sb, 9, none⟩ (.int .i64 (m : Int))).setCell ⟨sb, 10, none⟩ (.bool false)).setCell ⟨sb, 11, none⟩ (.slice vs x.vars.length vc)).setCell ⟨sb, 12, none⟩ (.slice fs x.flds.length fc)).setCell ⟨sb, 13, none⟩ (.slice none 0 0)).setCell ⟨sb, 14, none⟩ (.bool false)).setCell ⟨sb, 15, none⟩ (.bool false)) := ((((((((((((((((hb3.setCell (Nat.le_refl _) _).setCell (Nat.le_refl _) _).setCell (Nat.le_refl _) _).setCell (Nat.le_refl _) _).setCell (Nat.le_refl _) _).setCell (Nat.le_refl _) _).setCell (Nat.le_refl _) _).setCell (Nat.le_refl _) _).setCell (Nat.le_refl _) _).setCell (Nat.le_refl _) _).setCell (Nat.le_refl _) _).setCell (Nat.le_refl _) _).setCell (Nat.le_refl _) _).setCell (Nat.le_refl _) _).setCell (Nat.le_refl _) _).setCell (Nat.le_refl _) _)
 have hsb : w.heap.size ≤ sb := by have := B2.size; omega
 have BB := B2.trans (B4.mono hsb)
 clear S3 hb3 B4 HKZ P2 X2
 generalize ((((((((((((((((w3.setCell ⟨sb, 0, none⟩ (.int .i64 i.k)).setCell ⟨sb, 1, none⟩ (.int .i64 i.to)).setCell ⟨sb, 2, none⟩ (.int .i64 i.a)).setCell ⟨sb, 3, none⟩ (.int .i64 i.b)).setCell ⟨sb, 4, none⟩ (.int .i64 i.n)).setCell ⟨sb, 5, none⟩ (.int .i64 i.g)).setCell ⟨sb, 6, none⟩ (.int .i64 V)).setCell ⟨sb, 7, none⟩ (.int .i64 F)).setCell ⟨sb, 8, none⟩ (.slice (some ⟨cb0, co, none⟩) c.length cap)).setCell ⟨sb, 9, none⟩ (.int .i64 (m : Int))).setCell ⟨sb, 10, none⟩ (.bool false)).setCell ⟨sb, 11, none⟩ (.slice vs x.vars.length vc)).setCell ⟨sb, 12, none⟩ (.slice fs x.flds.length fc)).setCell ⟨sb, 13, none⟩ (.slice none 0 0)).setCell ⟨sb, 14, none⟩ (.bool false)).setCell ⟨sb, 15, none⟩ (.bool false)) = w4 at *
 go_wp2_with (go_at_call 18; fail)
 refine (HST.out sb w4 C4 hsb BB).mono ?_
 rintro e w5 ⟨rfl, ⟨ev, QL, C5, E5, eq5⟩, hb5⟩
 rw [List.nil_append] at E5
 obtain ⟨es, ec, rfl, -, -⟩ := E5.form
 have hd : Below w5.heap.size w5 w5.drew := (Below.refl _ _).drew
 have CD := C5.call hd
 have ED := E5.call hd
 have BD := (BB.trans (hb5.mono hsb)).drew
 have HEQ := hideH eq5
 clear C5 E5 C4 HST eq5
 go_upto_region 10 with fail
 refine wp_region_z (S := (fun wx => wx.cell? ⟨sb, 13, none⟩ = some (.slice es QL.length ec) ∧ wx.cell? ⟨sb, 14, none⟩ = some (.bool wr) ∧ wx.cell? ⟨sb, 15, none⟩ = some (.bool fl))) [] (by kernel_rfl) ⟨CD.1 13 _ rfl, CD.1 14 _ rfl, CD.1 15 _ rfl⟩ (fun hHeld => ?_)
 refine tZ 0 ?_ ?_;refine sm ?_
 refine tZ 1 ?_ ?_;refine sm ?_
 refine tZ 2 ?_ ?_;refine sm ?_
 refine tZ 3 ?_ ?_;refine sm ?_
 refine tZ 4 ?_ ?_;refine sm ?_
 refine tZ 5 ?_ ?_;refine sm ?_
 refine tZ 6 ?_ ?_;refine sm ?_
 refine tZ 7 ?_ ?_;refine sm ?_
 refine tZ 8 ?_ ?_;refine sm ?_
 refine tZ 9 ?_ ?_;refine sm ?_
 refine wpAnyZ_done (by kernel_rfl) ?_ _
 go_wp2
 have hl : QL.length = SL.length := by rw [← HEQ.out]; simp
 refine bodyPost_ret (v := .tuple #[.slice es QL.length ec, .bool wr, .bool fl, .int .i64 0]) (by simp [results, Tryz.results5, go_sem]) rfl ⟨⟨es, ec, by rw [hl], ?_⟩, BD⟩
 have h := ED.eds
 rw [HEQ.out] at h
 exact h.mono fun b hb _ => by omega
/-- Step, whatever it is handed. -/
theorem stepF_any (V F : Int) (s : Option Addr) (c : List Ins) (cap : Nat) (at_ : Int) (x : Pic) (vs : Option Addr) (vc : Nat) (fs : Option Addr) (fc : Nat) (w : World) (hc : CodeAt w s c) (hx : PicAt w x vs fs) (h1 : x.vars.length ≤ vc ∧ vc ≤ maxLen) (h2 : x.flds.length ≤ fc ∧ fc ≤ maxLen) :
  Calls Tryz.prog 5 #[pv V F s c cap, .int .i64 at_, xv x vs vc fs fc] w fun e w' => StpE w.heap.size w' e (stepA V F c at_ x) (stepE V F c at_ x) ∧ Below w.heap.size w w' := by
 by_cases hu : ckPics V F c [x] = 0
 ·by_cases hr : at_ < 0 ∨ (c.length : Int) ≤ at_
  ·have e1 : stepE V F c at_ x = 5 := by unfold stepE; rw [if_pos hu, if_pos hr]
   have e2 : stepA V F c at_ x = ([], false, false) := by unfold stepA; rw [e1, if_neg (by decide)]
   rw [e1, e2]
   exact stepF_range V F s c cap at_ x vs vc fs fc w hc hx h1 h2 hu hr
  ·have e1 : stepE V F c at_ x = 0 := by unfold stepE; rw [if_pos hu, if_neg hr]
   have e2 : stepA V F c at_ x = stepPic (insAt c at_) at_ x := by unfold stepA; rw [e1, if_pos rfl]
   rw [e1, e2]
   by_cases hn : x.none = true
   ·have e3 : stepPic (insAt c at_) at_ x = ([], false, false) := by unfold stepPic; rw [if_pos hn]
    rw [e3]
    exact stepF_none V F s c cap at_ x vs vc fs fc w hc hx h1 h2 hu hr hn
   ·exact stepF_ok V F s c cap at_ x vs vc fs fc w hc hx h1 h2 hu hr (by simpa using hn)
 ·have e1 : stepE V F c at_ x = ckPics V F c [x] := by unfold stepE; rw [if_neg hu]
  have e2 : stepA V F c at_ x = ([], false, false) := by unfold stepA; rw [e1, if_neg hu]
  rw [e1, e2]
  exact stepF_err V F s c cap at_ x vs vc fs fc w hc hx h1 h2 hu
end
end Go.Proofs.YtmapdpcfanecdabGreat
