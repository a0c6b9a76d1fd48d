/- For every program, place and picture that the law StepSteps is handed, it returns true and leaves them as they were: Step of package step answers just what the document's own words ask, errors too. No condition. -/
import Derived.Test.YtmapdpcfanecdabGreatKstpxp43
import Derived.Test.YtmapdpcfanecdabGreatKstpxp54
import Derived.Test.YtmapdpcfanecdabGreatKstpxp07
import Derived.Test.YtmapdpcfanecdabGreatKstpxp08
import Derived.Deep.DeepCutAuto
import Derived.Test.YtmapdpcfanecdabGreatKstpxp45
import Derived.Test.YtmapdpcfanecdabGreatKstpxp22
import Derived.Deep.RegionHeld
import Derived.WalkKit
import Derived.WalkSpells
import Derived.WalkLawsBesides
import Derived.Handy
import Derived.Test.YtmapdpcfanecdabGreatRows
import Derived.Test.YtmapdpcfanecdabGreatKstpxp01
import Derived.Test.YtmapdpcfanecdabGreatKstpxp04
import Derived.ProofKit
import Derived.OpenShut
import Derived.Carry
import Derived.Deep.DeepHandedRow
import Derived.Deep.DeepWitnessRowRef
set_option linter.unusedSimpArgs false
set_option linter.unusedVariables false
namespace Go.Proofs.YtmapdpcfanecdabGreat
section
set_option maxHeartbeats 4000000
set_option maxRecDepth 10000
open Go.RowKit
attribute [local go_sem ↓] Go.wp_at_zero Go.wp_at_succ

theorem sameEdges_any {S1 S2 : Nat → Prop} (L : List Edg) (s1 : Option Addr) (c1 : Nat) (s2 : Option Addr) (c2 : Nat) (w : World) (hl : L.length ≤ maxLen) (h1 : EdsOn S1 w s1 L) (h2 : EdsOn S2 w s2 L) :
  Calls Tryz.prog 9 #[.slice s1 L.length c1, .slice s2 L.length c2] w fun e w' => e = .returned (.bool true) ∧ Below w.heap.size w w' := by
 have hm : maxLen ≤ 9223372036854775807 := by decide
 go_enter Tryz.func9, Tryz.ntmps9
 go_wp2
 go_loopw [5] (fun i wr => ∃ k : Nat, k ≤ L.length ∧ i = .int .i64 k ∧ Below w.heap.size w wr) (fun i _ => L.length - (intOf i).toNat)
 case atStart => exact ⟨0, Nat.zero_le _, rfl, Below.refl _ _⟩
 case round =>
  obtain ⟨k, hk, rfl, hbr⟩ := hrel
  by_cases hlt : k < L.length
  ·have n0 : (0 : Int) ≤ (k : Int) := by omega
   have n1 : (k : Int) < (L.length : Int) := by omega
   obtain ⟨b1, o1, rfl, -, zb1, v1, vc1, f1, fc1, ⟨a0, a1, a2, a3⟩, P1, q1, q2⟩ := h1.call hbr k hlt
   obtain ⟨b2, o2, rfl, -, zb2, v2, vc2, f2, fc2, ⟨e0, e1, e2, e3⟩, P2, q3, q4⟩ := h2.call hbr k hlt
   have hlp : LenPic L[k].pic := ⟨Nat.le_trans q1.1 q1.2, Nat.le_trans q2.1 q2.2⟩
   have HKZ : Hid (∀ wx, Below wr.heap.size wr wx → (wx.cell? ⟨b1, o1 + k * 4, none⟩ = some (.int .i64 L[k].to) ∧ wx.cell? ⟨b1, o1 + k * 4 + 1, none⟩ = some (.bool L[k].pic.none) ∧ wx.cell? ⟨b1, o1 + k * 4 + 2, none⟩ = some (.slice v1 L[k].pic.vars.length vc1) ∧ wx.cell? ⟨b1, o1 + k * 4 + 3, none⟩ = some (.slice f1 L[k].pic.flds.length fc1)) ∧ (wx.cell? ⟨b2, o2 + k * 4, none⟩ = some (.int .i64 L[k].to) ∧ wx.cell? ⟨b2, o2 + k * 4 + 1, none⟩ = some (.bool L[k].pic.none) ∧ wx.cell? ⟨b2, o2 + k * 4 + 2, none⟩ = some (.slice v2 L[k].pic.vars.length vc2) ∧ wx.cell? ⟨b2, o2 + k * 4 + 3, none⟩ = some (.slice f2 L[k].pic.flds.length fc2))) := fun wx hx => ⟨⟨by rw [hx.cell (by simp only; exact zb1)]; exact a0, by rw [hx.cell (by simp only; exact zb1)]; exact a1, by rw [hx.cell (by simp only; exact zb1)]; exact a2, by rw [hx.cell (by simp only; exact zb1)]; exact a3⟩, by rw [hx.cell (by simp only; exact zb2)]; exact e0, by rw [hx.cell (by simp only; exact zb2)]; exact e1, by rw [hx.cell (by simp only; exact zb2)]; exact e2, by rw [hx.cell (by simp only; exact zb2)]; exact e3⟩
   have HD : Below wr.heap.size wr wr.drew := (Below.refl _ _).drew
   clear a0 a1 a2 a3 e0 e1 e2 e3
   go_wp2
   refine wp_region_z (S := (fun wx => (wx.cell? ⟨b1, o1 + k * 4, none⟩ = some (.int .i64 L[k].to) ∧ wx.cell? ⟨b1, o1 + k * 4 + 1, none⟩ = some (.bool L[k].pic.none) ∧ wx.cell? ⟨b1, o1 + k * 4 + 2, none⟩ = some (.slice v1 L[k].pic.vars.length vc1) ∧ wx.cell? ⟨b1, o1 + k * 4 + 3, none⟩ = some (.slice f1 L[k].pic.flds.length fc1)) ∧ (wx.cell? ⟨b2, o2 + k * 4, none⟩ = some (.int .i64 L[k].to) ∧ wx.cell? ⟨b2, o2 + k * 4 + 1, none⟩ = some (.bool L[k].pic.none) ∧ wx.cell? ⟨b2, o2 + k * 4 + 2, none⟩ = some (.slice v2 L[k].pic.vars.length vc2) ∧ wx.cell? ⟨b2, o2 + k * 4 + 3, none⟩ = some (.slice f2 L[k].pic.flds.length fc2)))) [] (by kernel_rfl) (HKZ.out _ HD) (fun hHeld => ?_)
   refine tZ 0 ?_ ?_;refine sm ?_
   refine tZ 1 ?_ ?_;refine sm ?_
   refine tZ 2 ?_ ?_;refine sm ?_
   refine tZ 3 ?_ ?_;refine sm ?_
   refine tZ 4 ?_ ?_;refine sm ?_
   refine tZ 5 ?_ ?_;refine sm ?_
   refine tZ 6 ?_ ?_;refine sm ?_
   refine tZ 7 ?_ ?_;refine sm ?_
   refine tZ 8 ?_ ?_;refine sm ?_
   refine tZ 9 ?_ ?_;refine sm ?_
   refine wpAnyZ_take (i := 10) (v := .bool false) rfl (by kernel_rfl) (by kernel_rfl) (by kernel_rfl) (fun _ _ _ h => h) (Or.inl ⟨?_, ?_⟩) (by assumption) ?_
   ·rfl
   ·(intro w hSw; (try dsimp only at hSw); go_simp)
   refine sm ?_
   refine tZ 11 ?_ ?_;refine sm ?_
   refine tZ 12 ?_ ?_;refine sm ?_
   refine tZ 13 ?_ ?_;refine sm ?_
   refine tZ 14 ?_ ?_;refine sm ?_
   refine tZ 15 ?_ ?_;refine sm ?_
   refine tZ 16 ?_ ?_;refine sm ?_
   refine tZ 17 ?_ ?_;refine sm ?_
   refine tZ 18 ?_ ?_;refine sm ?_
   refine tZ 19 ?_ ?_;refine sm ?_
   refine tZ 20 ?_ ?_;refine sm ?_
   refine tZ 21 ?_ ?_;refine sm ?_
   refine wpAnyZ_one (i := 22) rfl (by kernel_rfl) (fun K hK => ?_)
   go_simp
   go_at_call 31
   refine (samePicture_any L[k].pic v1 vc1 f1 fc1 v2 vc2 f2 fc2 _ hlp (P1.at.call HD) (P2.at.call HD)).mono ?_
   rintro e w5 ⟨rfl, hb5⟩
   have HB5 : Below wr.heap.size wr w5 := HD.trans (hb5.mono HD.size)
   go_wp2_with fail
   refine hK.out _ _ (HKZ.out _ HB5) (fun hHeld => ?_)
   clear hK K
   refine sm ?_
   refine tZ 23 ?_ ?_;refine sm ?_
   refine tZ 24 ?_ ?_;refine sm ?_
   refine wpAnyZ_done (by kernel_rfl) ?_ _
   go_wp2
   go_roundw
   case rel => exact ⟨k + 1, by omega, by go_num, hbr.trans (HB5.mono hbr.size)⟩
   case measure => simp [intOf]; omega
  ·have n1 : ¬ (k : Int) < (L.length : Int) := by omega
   go_wp2
   go_ret
   exact ⟨rfl, hbr⟩
end
section
set_option maxHeartbeats 8000000
set_option maxRecDepth 20000
open Go.RowKit
attribute [local go_sem ↓] Go.wp_at_zero Go.wp_at_succ

theorem stepPic_len (i : Ins) (at_ : Int) (x : Pic) : (stepPic i at_ x).1.length ≤ 2 := by
 unfold stepPic
 repeat' split
 all_goals simp
 all_goals (repeat' split)
 all_goals simp
theorem stepA_len (V F : Int) (c : List Ins) (at_ : Int) (x : Pic) : (stepA V F c at_ x).1.length ≤ 2 := by
 unfold stepA
 split
 ·exact stepPic_len _ _ _
 ·exact Nat.zero_le _
theorem stepSteps_any (V F : Int) (s : Option Addr) (c : List Ins) (cap : Nat) (at_ : Int) (x : Pic) (vs : Option Addr) (vc : Nat) (fs : Option Addr) (fc : Nat) (w : World) (hcd : CodeAt w s c) (hx : PicAt w x vs fs) (h1 : x.vars.length ≤ vc ∧ vc ≤ maxLen) (h2 : x.flds.length ≤ fc ∧ fc ≤ maxLen) :
  Calls Tryz.prog 3 #[pv V F s c cap, .int .i64 at_, xv x vs vc fs fc] w fun e w' => e = .returned (.bool true) ∧ Below w.heap.size w w' := by
 obtain ⟨⟨l, ra, rb⟩, hr⟩ : ∃ r, r = stepA V F c at_ x := ⟨_, rfl⟩
 obtain ⟨er, her⟩ : ∃ q, q = stepE V F c at_ x := ⟨_, rfl⟩
 obtain ⟨u, hu⟩ : ∃ q, q = ckPics V F c [x] := ⟨_, rfl⟩
 have HLE : Hid (l.length ≤ maxLen) := by show _ ≤ _; have h := stepA_len V F c at_ x; rw [← hr] at h; have h : l.length ≤ 2 := h; unfold maxLen; omega
 have HSF : Hid (∀ wx, CodeAt wx s c → PicAt wx x vs fs → Calls Tryz.prog 5 #[pv V F s c cap, .int .i64 at_, xv x vs vc fs fc] wx fun e w' => (∃ es ec, e = .returned (.tuple #[.slice es l.length ec, .bool ra, .bool rb, .int .i64 er]) ∧ EdsOn (fun b => wx.heap.size ≤ b) w' es l) ∧ Below wx.heap.size wx w') := fun wx q1 q2 => by
  have h := stepF_any V F s c cap at_ x vs vc fs fc wx q1 q2 h1 h2
  rw [← hr, ← her] at h
  exact h
 have HCP : Hid (∀ wx ls, CodeAt wx s c → XsAt wx ls [x] → Calls Tryz.prog 6 #[pv V F s c cap, .slice ls 1 1] wx fun e w' => e = .returned (.int .i64 u) ∧ Below wx.heap.size wx w') := fun wx ls q1 q2 => by
  rw [hu]
  exact checkPictures_any V F s c cap ls [x] 1 wx q1 q2 (by simp)
 have HSP : Hid (er = 0 → ∀ wx, CodeAt wx s c → PicAt wx x vs fs → Calls Tryz.prog 7 #[pv V F s c cap, .int .i64 at_, xv x vs vc fs fc] wx fun e w' => (∃ es ec, e = .returned (.tuple #[.slice es l.length ec, .bool ra, .bool rb]) ∧ EdsOn (fun _ => True) w' es l) ∧ Below wx.heap.size wx w') := by
  show _ → _
  intro h0 wx q1 q2
  have e1 : stepE V F c at_ x = 0 := by rw [← her]; exact h0
  have hu0 : ckPics V F c [x] = 0 := by
   by_cases h : ckPics V F c [x] = 0
   ·exact h
   ·unfold stepE at e1; rw [if_neg h] at e1; exact absurd e1 h
  have hrg : ¬ (at_ < 0 ∨ (c.length : Int) ≤ at_) := fun h => by unfold stepE at e1; rw [if_pos hu0, if_pos h] at e1; cases e1
  obtain ⟨k0, k1⟩ := ckPics_one hu0
  have e2 : (l, ra, rb) = stepPic (insAt c at_) at_ x := by rw [hr]; unfold stepA; rw [if_pos e1]
  have h := stepP_any (fun _ => True) V F s c cap at_ x vs vc fs fc wx q1 (fun w2 h2 hz => q2.same (fun b hb => h2 b trivial hb) hz) k0 k1 (by omega) (by omega) h1 h2
  rw [← e2] at h
  refine h.mono ?_
  rintro e w' ⟨⟨es, ec, rfl, hE⟩, hb⟩
  exact ⟨⟨es, ec, rfl, hE.mono fun _ _ _ => trivial⟩, hb⟩
 have HR0 : Hid (er ≠ 0 → (l, ra, rb) = ([], false, false)) := fun h => by rw [hr]; unfold stepA; rw [if_neg (by rw [← her]; exact h)]
 have HER : Hid (er = if u = 0 then (if at_ < 0 ∨ (c.length : Int) ≤ at_ then 5 else 0) else u) := by show _ = _; rw [her, hu]; rfl
 clear hr her hu
 obtain ⟨bb, hbb⟩ : ∃ b, b = (decide (u = 0) && (decide (at_ < 0) || decide ((c.length : Int) ≤ at_))) := ⟨_, rfl⟩
 have HBB : Hid ((bb = true → er = 5) ∧ (bb = false → er = u)) := by
  show _ ∧ _
  rw [hbb, HER.out]
  by_cases e1 : u = 0
  ·by_cases e2 : at_ < 0 ∨ (c.length : Int) ≤ at_
   ·simp [e1, e2]
    try omega
   ·simp [e1, e2]
    try omega
  ·simp [e1]
 have HB := hideH hbb
 clear hbb
 have HXN := hideH (fun wx (q : PicAt wx x vs fs) => XsAt.new1 wx x vs vc fs fc q h1 h2)
 have B0 : Below w.heap.size w ((w.alloc (.cells #[.int .i64 V, .int .i64 F, .slice s c.length cap] 24)).alloc (.cells #[.bool x.none, .slice vs x.vars.length vc, .slice fs x.flds.length fc] 28)) := by go_grown
 have P0 := (PrAt.new w V F s c cap).call (w' := (w.alloc (.cells #[.int .i64 V, .int .i64 F, .slice s c.length cap] 24)).alloc (.cells #[.bool x.none, .slice vs x.vars.length vc, .slice fs x.flds.length fc] 28)) (by go_grown)
 have A0 := XAt.new (w.alloc (.cells #[.int .i64 V, .int .i64 F, .slice s c.length cap] 24)) x vs vc fs fc
 rw [World.size_alloc] at A0
 have C0 := hcd.below B0 (Nat.le_refl _)
 have X0 := hx.below B0 (Nat.le_refl _)
 clear hcd hx h1 h2
 go_enter Tryz.func3, Tryz.ntmps3
 go_upto_region 1 with fail
 generalize (w.alloc (.cells #[.int .i64 V, .int .i64 F, .slice s c.length cap] 24)).alloc (.cells #[.bool x.none, .slice vs x.vars.length vc, .slice fs x.flds.length fc] 28) = w0 at *
 obtain ⟨⟨p0, p1, p2⟩, pz⟩ := id P0
 obtain ⟨⟨a0, a1, a2⟩, az, -⟩ := id A0
 go_wp2_with (go_at_call 5; fail)
 refine (HSF.out w0 C0 X0).mono ?_
 rintro e w1 ⟨⟨es, ec, rfl, E1⟩, hb1⟩
 have B1 := B0.trans (hb1.mono B0.size)
 have P1 := P0.call hb1
 have A1 := A0.call hb1
 have C1 := C0.call hb1
 have X1 := X0.call hb1
 clear p0 p1 p2 pz a0 a1 a2 az B0 hb1 P0 A0 C0 X0
 have hba : Below w1.heap.size w1 (w1.alloc (.cells #[.bool x.none, .slice vs x.vars.length vc, .slice fs x.flds.length fc] 28)) := by go_grown
 have XS := HXN.out w1 X1
 obtain ⟨⟨p0, p1, p2⟩, pz⟩ := id P1
 obtain ⟨⟨a0, a1, a2⟩, az, -⟩ := id A1
 go_wp2_with (go_at_call 6; fail)
 refine (HCP.out _ _ (C1.call hba) XS).mono ?_
 rintro e w2 ⟨rfl, hbc⟩
 have hb2 := hba.trans (hbc.mono hba.size)
 clear p0 p1 p2 pz a0 a1 a2 az XS hba hbc
 have B2 := B1.trans (hb2.mono B1.size)
 have P2 := P1.call hb2
 have A2 := A1.call hb2
 have C2 := C1.call hb2
 have X2 := X1.call hb2
 have E2 := E1.call hb2
 clear B1 hb2 P1 A1 C1 X1 E1
 obtain ⟨⟨p0, p1, p2⟩, pz⟩ := id P2
 obtain ⟨⟨a0, a1, a2⟩, az, -⟩ := id A2
 go_upto_region 3 with fail
 go_cut [40] (fun t40 wc => t40 = .bool bb ∧ wc = w2)
 case first =>
  by_cases e1 : u = 0
  ·have f1 : (u == 0) = true := by simpa using e1
   by_cases e2 : at_ < 0
   ·have HE := hideH (And.intro e1 e2)
    clear e1
    go_wp2_with fail
    go_meet
    exact ⟨by rw [HB.out]; simp [HE.out.1, HE.out.2], rfl⟩
   ·by_cases e3 : (c.length : Int) ≤ at_
    ·have HE := hideH (And.intro e1 (And.intro e2 e3))
     clear e1
     go_wp2_with fail
     go_meet
     exact ⟨by rw [HB.out]; simp [HE.out.1, HE.out.2.2], rfl⟩
    ·have HE := hideH (And.intro e1 (And.intro e2 e3))
     clear e1
     go_wp2_with fail
     go_meet
     exact ⟨by rw [HB.out]; simp [HE.out.1, HE.out.2.1, HE.out.2.2], rfl⟩
  ·have f1 : (u == 0) = false := by simpa using e1
   have HE := hideH e1
   clear e1
   go_wp2_with fail
   go_meet
   exact ⟨by rw [HB.out]; simp [HE.out], rfl⟩
 obtain ⟨rfl, rfl⟩ := hcut
 go_upto_if 40 with fail
 generalize wc = wx at *
 clear wc
 go_cut [11] (fun t11 wc => t11 = .int .i64 er ∧ wc = wx)
 case first =>
  rcases Bool.eq_false_or_eq_true bb with hs0 | hs0
  ·refine wp_cond_split (congrArg Value.bool hs0) (fun _ => ?_) (fun h => by cases h)
   have HE := hideH hs0
   clear hs0
   go_wp2_with fail
   go_meet
   exact ⟨by rw [HBB.out.1 HE.out], rfl⟩
  ·refine wp_cond_split (congrArg Value.bool hs0) (fun h => by cases h) (fun _ => ?_)
   have HE := hideH hs0
   clear hs0
   go_wp2_with fail
   go_meet
   exact ⟨by rw [HBB.out.2 HE.out], rfl⟩
 obtain ⟨rfl, rfl⟩ := hcut
 clear p0 p1 p2 pz a0 a1 a2 az
 generalize wc = wy at *
 clear wc
 go_upto_if 42 with fail
 go_cut [12, 13, 14] (fun t12 t13 t14 wc => ∃ es2 ec2, t12 = .slice es2 l.length ec2 ∧ t13 = .bool ra ∧ t14 = .bool rb ∧ EdsOn (fun _ => True) wc es2 l ∧ Below wy.heap.size wy wc)
 case first =>
  rcases Bool.eq_false_or_eq_true (er == 0) with hs0 | hs0
  ·refine wp_cond_split (congrArg Value.bool hs0) (fun _ => ?_) (fun h => by cases h)
   have HS := hideH (HSP.out (by simpa using hs0) wy C2 X2)
   clear hs0
   obtain ⟨⟨p0, p1, p2⟩, pz⟩ := id P2
   obtain ⟨⟨a0, a1, a2⟩, az, -⟩ := id A2
   go_wp2_with (go_at_call 7; fail)
   refine HS.out.mono ?_
   rintro e w3 ⟨⟨es2, ec2, rfl, E3⟩, hb3⟩
   go_wp2_with fail
   go_meet
   exact ⟨es2, ec2, rfl, rfl, rfl, E3, hb3⟩
  ·refine wp_cond_split (congrArg Value.bool hs0) (fun h => by cases h) (fun _ => ?_)
   have HE := hideH (HR0.out (by simpa using hs0))
   clear hs0
   go_wp2_with fail
   go_meet
   have h := HE.out
   simp only [Prod.mk.injEq] at h
   obtain ⟨q1, q2, q3⟩ := h
   exact ⟨none, 0, by rw [q1]; rfl, by rw [q2], by rw [q3], by rw [q1]; exact EdsOn.nil, Below.refl _ _⟩
 obtain ⟨es2, ec2, rfl, rfl, rfl, E3, hb3⟩ := hcut
 have E4 := E2.call hb3
 have B3 := B2.trans (hb3.mono B2.size)
 clear E2 B2 P2 A2 C2 X2 hb3
 go_wp2_with (go_at_call 8; fail)
 refine (stepBegun_any wc).mono ?_
 rintro e w4 ⟨rfl, hb4⟩
 go_wp2_with (go_at_call 9; fail)
 refine (sameEdges_any l es ec es2 ec2 w4 HLE.out (E4.call hb4) (E3.call hb4)).mono ?_
 rintro e w5 ⟨rfl, hb5⟩
 go_wp2
 go_ret
 exact ⟨rfl, (B3.trans (hb4.mono B3.size)).trans (hb5.mono (B3.trans (hb4.mono B3.size)).size)⟩
end
section
set_option maxRecDepth 100000
open Go.ChangeShapes Go.WideShapes Go.ChangeAt Go.RowKit

namespace stepSteps
theorem ownS : ownKnob Tryz.prog.godebug = none := by kernel_rfl
theorem contract (H : Type) (enc : TypeId × Value → H) (W : World) (base : Nat) (args : Array Value) (ds gs : List (DataW H)) (before : List MemPlace)
  (hval : ∀ (j : Nat) t v, Tryz.f3.params[j]? = some t → args[j]? = some v → Value.okWide Tryz.prog W .any base t v)
  (hW : DataW.Whole enc Tryz.prog Tryz.f3.params.toList Rows.stepStepsSpec.vars false W args.toList ds gs before) :
  Calls Tryz.prog 3 args W fun e W' => ∃ v, e = .returned v ∧ Rows.stepStepsSpec.post enc Tryz.prog Tryz.f3 false true false false W args v W' := by
 have hlt := hW.lt
 have hW' := hW
 obtain ⟨p, q, hA0, hV, rfl, hfz, hnd⟩ := hW
 have hA : DataW.TrodAll enc Tryz.prog W 0 (fun _ => true) true Tryz.f3.params.toList args.toList ds p := hA0
 rw [Tryz.params3] at hA hval
 obtain ⟨v0, vs0, d0, ds0, p0, q0, e0, rfl, rfl, h0, hr0⟩ := trodAll_cons hA
 obtain ⟨v1, vs1, d1, ds1, p1, q1, e1, rfl, rfl, h1, hr1⟩ := trodAll_cons hr0
 obtain ⟨v2, vs2, d2, ds2, p2, q2, e2, rfl, rfl, h2, hr2⟩ := trodAll_cons hr1
 obtain ⟨rfl, rfl, rfl⟩ := trodAll_nil hr2
 subst e1
 subst e2
 have ea : args = #[v0, v1, v2] := by cases args; simp_all
 subst ea
 obtain ⟨rfl, rfl⟩ := trodVars_none hV
 obtain ⟨V, F, s, cap, c, rfl, hl, hm, hcd, _⟩ := open_program (hval 0 24 v0 rfl rfl) h0
 obtain ⟨at_, rfl, _⟩ := open_int Tryz.underlying3 (hval 1 3 v1 rfl rfl) h1
 obtain ⟨x, vs1, vc1, fs1, fc1, rfl, g1, g2, g3⟩ := open_picture (hval 2 28 v2 rfl rfl) h2
 refine (stepSteps_any V F s c cap at_ x vs1 vc1 fs1 fc1 W hcd g3 g1 g2).mono fun e W' ⟨he, hb⟩ => ?_
 subst he
 refine ⟨_, rfl, _, _, _, [], p0 ++ (p1 ++ (p2 ++ [])), [], hW', ?_, ?_, ?_, hb.frame _, fun h => by cases h⟩
 ·exact trodAll_mk1 (shut_bool Tryz.underlying4 _)
 ·rw [Tryz.params3]
  exact trodAll_cons_mk (Below.trod (by kernel_rfl) (by kernel_rfl) (of_decide_eq_true (by kernel_rfl)) h0 hb (fun x hx => hlt x (by simp [hx]))) (trodAll_cons_mk (Below.trod (by kernel_rfl) (by kernel_rfl) (of_decide_eq_true (by kernel_rfl)) h1 hb (fun x hx => hlt x (by simp [hx]))) (trodAll_cons_mk (Below.trod (by kernel_rfl) (by kernel_rfl) (of_decide_eq_true (by kernel_rfl)) h2 hb (fun x hx => hlt x (by simp [hx]))) (rfl)))
 ·rfl

theorem witness_row (os : Os) {H : Type} (enc : TypeId × Value → H) :
  (OpenSpec.ofChange Rows.stepStepsSpec).preRow enc Tryz.prog Tryz.f3 Rows.stepStepsRow.domain false Rows.stepStepsRow.laid ((World.settled Tryz.prog os).forCall (fun _ _ => 0) ⟨#[], #[.agg #[.int .i64 0, .int .i64 0, .slice none 0 0], .int .i64 0, .agg #[.bool false, .slice none 0 0, .slice none 0 0]], []⟩).memory #[.agg #[.int .i64 0, .int .i64 0, .slice none 0 0], .int .i64 0, .agg #[.bool false, .slice none 0 0, .slice none 0 0]] := by
 have hw : (DataW.whole enc Tryz.prog ((World.settled Tryz.prog os).forCall (fun _ _ => 0) ⟨#[], #[.agg #[.int .i64 0, .int .i64 0, .slice none 0 0], .int .i64 0, .agg #[.bool false, .slice none 0 0, .slice none 0 0]], []⟩).memory Tryz.f3.params.toList Rows.stepStepsSpec.vars false #[Value.agg #[.int .i64 0, .int .i64 0, .slice none 0 0], .int .i64 0, .agg #[.bool false, .slice none 0 0, .slice none 0 0]].toList 8).isSome = true := by kernel_rfl
 obtain ⟨x, hx⟩ := Option.isSome_iff_exists.1 hw
 exact OpenSpec.preRow_of_cond 8 hx rfl (fun k hk => by cases hk) (by kernel_rfl) ⟨[], rfl, List.nodup_nil, fun b off h => by cases h⟩

theorem lifted (os : Os) (started : os.Started) (H : Type) (enc : TypeId × Value → H) (F : Stop.Interp) :
  ReturnsInHanded {} Tryz.checked os 3 .any ((OpenSpec.ofChange Rows.stepStepsSpec).preRow enc Tryz.prog Tryz.f3 Rows.stepStepsRow.domain false Rows.stepStepsRow.laid) (((OpenSpec.ofChange Rows.stepStepsSpec).at F).post enc Tryz.prog Tryz.f3 false true false false) := by
 refine returnsInHanded_of_row (C := Tryz.checked) (s := OpenSpec.ofChange Rows.stepStepsSpec) ownS started (by kernel_rfl) Tryz.func3
  (witness_row_atRef (enc := enc) (C := Tryz.checked) false (World.settled Tryz.prog os) #[.agg #[.int .i64 0, .int .i64 0, .slice none 0 0], .int .i64 0, .agg #[.bool false, .slice none 0 0, .slice none 0 0]] rfl (by kernel_rfl) (by kernel_rfl) (by kernel_rfl) (witness_row os enc)) ?_
 intro W base args ds gs before hval hW _ _ _ hL hS _
 exact contract H enc W base args ds gs before hval hW
end stepSteps

theorem stepSteps_holds : Rows.StepStepsSaid :=
 OpenClaim.holds_of_cond 3 Tryz.f3 rfl rfl rfl rfl rfl rfl rfl ⟨rfl, rfl, rfl, rfl, rfl⟩ rfl rfl rfl rfl rfl (by kernel_rfl) Tryz.func3 (by kernel_rfl)
  (of_decide_eq_true (by kernel_rfl)) (by unfold Func.isWrapper; first | (rw [if_pos (by decide +kernel)]; kernel_rfl) | (rw [if_neg (by decide +kernel)]; exact ⟨rfl, rfl⟩))
  (fun os started H enc _ F => by rw [OpenClaim.pre_eq_preRow]; exact stepSteps.lifted os started H enc F)
end
end Go.Proofs.YtmapdpcfanecdabGreat
