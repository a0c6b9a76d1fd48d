/- The law StepSteps. -/
import Derived.Test.YtmapdpcfanecdabGreatKstpxp53
import Derived.Test.YtmapdpcfanecdabGreatKstpxp01
import Derived.Deep.RegionHeld
import Derived.WalkKit
import Derived.WalkSpells
import Derived.WalkLawsBesides
import Derived.Handy
import Derived.Deep.DeepCutAuto
import Derived.Test.YtmapdpcfanecdabGreatKstpxp28
import Derived.Test.YtmapdpcfanecdabGreatKstpxp35
import Derived.Test.YtmapdpcfanecdabGreatKstpxp47
import Derived.Test.YtmapdpcfanecdabGreatKstpxp52
import Derived.Test.YtmapdpcfanecdabGreatKstpxp32
set_option linter.unusedSimpArgs false
set_option linter.unusedVariables false
namespace Go.Proofs.YtmapdpcfanecdabGreat
section
set_option maxHeartbeats 4000000
set_option maxRecDepth 100000
open Go.RowKit
attribute [local go_sem ↓] Go.wp_at_zero Go.wp_at_succ

theorem step_11 (sb : Nat) (i : Ins) (V F : Int) (s : Option Addr) (c : List Ins) (cap : Nat) (at_ : Int) (x : Pic) (vs : Option Addr) (vc : Nat) (fs : Option Addr) (fc : Nat) (w0 w : World) (hS : Cells w sb (stpC i V F s c cap at_ x vs vc fs fc (.slice none 0 0) false false)) (hc0 : CodeAt w0 s c) (hx0 : PicAt w0 x vs fs) (hz0 : w0.heap.size ≤ sb) (hB0 : Below w0.heap.size w0 w) (K : SCtx V F c x vc fc i at_) (hk : i.k = 11) :
  Calls Tryz.prog 18 #[.pointer (some ⟨sb, 0, none⟩)] w fun e w' => e = .returned (.tuple #[]) ∧ EdgAns sb w' (fun ev' => stpC i V F s c cap at_ x vs vc fs fc ev' false false) [] ([⟨at_ + 1, (setVar (newPic at_ x) i.tgt ⟨false, ⟨true, 0, 0⟩, false, false, [at_]⟩)⟩]) ∧ Below sb w w' := by
 have hm : ∃ m : Nat, at_ = m ∧ m < x.flds.length := by
  obtain ⟨m, em⟩ := Int.eq_ofNat_of_zero_le K.a0
  have h1 := K.a1
  have h2 := K.kx.flds
  exact ⟨m, em, by omega⟩
 have HC := hideH (makeThing_of (setVar (newPic at_ x) i.tgt ⟨false, ⟨true, 0, 0⟩, false, false, [at_]⟩) [] none 0 sb i V F s c cap at_ x vs vc fs fc false false w0 w hS hc0 hx0 hz0 hB0 K (ERow.nil sb sb w) (by simp) (fun wx hb hs hp => ch_new sb sb _ i V F s c cap at_ x vs vc fs fc _ false false w.heap.size wx hs hp (K.varTo (by rw [hk]; rfl)) hm (Nat.le_of_lt (Nat.lt_of_lt_of_le hS.2.1 hb.size)) (fun b h => by cases h)))
 have s0 := hS.1 0 _ rfl
 rw [hk] at s0
 clear hS hc0 hx0 hB0 K hz0 hk
 go_enter Tryz.func18, Tryz.ntmps18
 go_wp2_with (go_at_call 44; fail)
 refine HC.out.mono ?_
 rintro e w1 ⟨rfl, HA0, hb1⟩
 have HA := hideH HA0
 clear HA0 HC s0
 go_wp2
 first | go_end0 | refine bodyPost_ret (results_none rfl _ _ _) rfl ?_
 exact ⟨rfl, HA.out, hb1⟩
theorem step_13 (sb : Nat) (i : Ins) (V F : Int) (s : Option Addr) (c : List Ins) (cap : Nat) (at_ : Int) (x : Pic) (vs : Option Addr) (vc : Nat) (fs : Option Addr) (fc : Nat) (w0 w : World) (hS : Cells w sb (stpC i V F s c cap at_ x vs vc fs fc (.slice none 0 0) false false)) (hc0 : CodeAt w0 s c) (hx0 : PicAt w0 x vs fs) (hz0 : w0.heap.size ≤ sb) (hB0 : Below w0.heap.size w0 w) (K : SCtx V F c x vc fc i at_) (hk : i.k = 13) :
  Calls Tryz.prog 18 #[.pointer (some ⟨sb, 0, none⟩)] w fun e w' => e = .returned (.tuple #[]) ∧ EdgAns sb w' (fun ev' => stpC i V F s c cap at_ x vs vc fs fc ev' (noThing (gAt x i.a)) false) [] (if (gAt x i.a).s.length = 0 then [] else [⟨at_ + 1, (putPic x i.n (gAt x i.b) (gAt x i.a).s)⟩]) ∧ Below sb w w' := by
 obtain ⟨LST, hlst⟩ : ∃ q : List Edg, q = if (gAt x i.a).s.length = 0 then [] else [⟨at_ + 1, (putPic x i.n (gAt x i.b) (gAt x i.a).s)⟩] := ⟨_, rfl⟩
 rw [← hlst]
 have HLS := hideH hlst
 clear hlst
 have hN : ∃ p : Nat, i.n = p ∧ (p : Int) < F := by
  have hn := (ckOne_parts K.one).2.2.2.2.1 (.inr hk)
  obtain ⟨p, ep⟩ := Int.eq_ofNat_of_zero_le hn.1
  exact ⟨p, ep, by omega⟩
 have HC := hideH (put_of (putPic x i.n (gAt x i.b) (gAt x i.a).s) [] none 0 sb i V F s c cap at_ x vs vc fs fc false false w0 w hS hc0 hx0 hz0 hB0 K (ERow.nil sb sb w) (by simp) (by rw [hk]; rfl) (fun wx ss gc tb hb hs hp hq hi => ch_put sb sb _ i V F s c cap at_ x vs vc fs fc _ _ false tb w.heap.size ss gc w0 wx hs hp hq hc0 hx0 hi hb K (by rw [hk]; rfl) (by rw [hk]; rfl) hN (Nat.le_of_lt hs.2.1) (fun b h => by cases h)))
 have s0 := hS.1 0 _ rfl
 rw [hk] at s0
 clear hS hc0 hx0 hB0 K hz0 hk
 go_enter Tryz.func18, Tryz.ntmps18
 go_wp2_with (go_at_call 45; fail)
 refine HC.out.mono ?_
 rintro e w1 ⟨rfl, HA0, hb1⟩
 have HA := hideH HA0
 clear HA0 HC s0
 go_wp2
 first | go_end0 | refine bodyPost_ret (results_none rfl _ _ _) rfl ?_
 exact ⟨rfl, by rw [HLS.out]; exact HA.out, hb1⟩
theorem step_15 (sb : Nat) (i : Ins) (V F : Int) (s : Option Addr) (c : List Ins) (cap : Nat) (at_ : Int) (x : Pic) (vs : Option Addr) (vc : Nat) (fs : Option Addr) (fc : Nat) (w0 w : World) (hS : Cells w sb (stpC i V F s c cap at_ x vs vc fs fc (.slice none 0 0) false false)) (hc0 : CodeAt w0 s c) (hx0 : PicAt w0 x vs fs) (hz0 : w0.heap.size ≤ sb) (hB0 : Below w0.heap.size w0 w) (K : SCtx V F c x vc fc i at_) (hk : i.k = 15) :
  Calls Tryz.prog 18 #[.pointer (some ⟨sb, 0, none⟩)] w fun e w' => e = .returned (.tuple #[]) ∧ EdgAns sb w' (fun ev' => stpC i V F s c cap at_ x vs vc fs fc ev' false false) [] ((if yesGs (gAt x i.a) then [⟨i.g, setVar x i.a (trueGs (gAt x i.a))⟩] else []) ++ (if noGs (gAt x i.a) then [⟨at_ + 1, setVar x i.a (falseGs (gAt x i.a))⟩] else [])) ∧ Below sb w w' := by
 obtain ⟨LST, hlst⟩ : ∃ q : List Edg, q = (if yesGs (gAt x i.a) then [⟨i.g, setVar x i.a (trueGs (gAt x i.a))⟩] else []) ++ (if noGs (gAt x i.a) then [⟨at_ + 1, setVar x i.a (falseGs (gAt x i.a))⟩] else []) := ⟨_, rfl⟩
 rw [← hlst]
 have HLS := hideH hlst
 clear hlst
 have ha0 := K.a0
 have ha1 : at_ ≤ 1000 := by have := K.a1; have := K.lens; omega
 have HC := hideH (onTrue_any i.g [] none 0 sb i V F s c cap at_ x vs vc fs fc false false w0 w hS hc0 hx0 hz0 hB0 K (ERow.nil sb sb w) (by simp) (by rw [hk]; rfl))
 have hA : nA i.k = true := by rw [hk]; rfl
 have s0 := hS.1 0 _ rfl
 rw [hk] at s0
 have s5 := hS.1 5 _ rfl
 have HH := hideH (And.intro hc0 (And.intro hx0 (And.intro hz0 (And.intro hB0 (And.intro K hA)))))
 clear hS hc0 hx0 hB0 K hz0 hk hA
 go_enter Tryz.func18, Tryz.ntmps18
 go_wp2_with (go_at_call 46; fail)
 refine HC.out.mono ?_
 rintro e w1 ⟨rfl, HA0, hb1⟩
 obtain ⟨hc0, hx0, hz0, hB0, K, hA⟩ := HH.out
 obtain ⟨ev, QL, C1, E1, eq1⟩ := HA0
 rw [List.nil_append] at E1
 obtain ⟨es, ec, rfl, -, -⟩ := E1.form
 have hq : QL.length ≤ 10 := by
  have h := congrArg List.length eq1
  rw [List.length_map] at h
  rw [h]
  split <;> simp
 have hB1 := hB0.trans (hb1.mono hz0)
 have HN := hideH (onFalse_any (at_ + 1) QL es ec sb i V F s c cap at_ x vs vc fs fc false false w0 w1 C1 hc0 hx0 hz0 hB1 K E1 hq hA)
 have HQ := hideH eq1
 have HC1 := hideH C1
 clear C1 E1 eq1 HC HH hc0 hx0 hz0 hB0 K hA hB1 hq s0 s5
 go_wp2_with (go_at_call 48; fail)
 refine (next_any sb at_ _ w1 HC1.out rfl ha0 ha1).mono ?_
 rintro e wz ⟨rfl, ew⟩
 rw [ew]
 clear ew wz
 go_wp2_with (go_at_call 47; fail)
 refine HN.out.mono ?_
 rintro e w2 ⟨rfl, ⟨ev2, QL2, C2, E2, eq2⟩, hb2⟩
 have HF : Hid (EdgAns sb w2 (fun ev' => stpC i V F s c cap at_ x vs vc fs fc ev' false false) [] ((if yesGs (gAt x i.a) then [⟨i.g, setVar x i.a (trueGs (gAt x i.a))⟩] else []) ++ (if noGs (gAt x i.a) then [⟨at_ + 1, setVar x i.a (falseGs (gAt x i.a))⟩] else []))) := ⟨ev2, QL ++ QL2, C2, by rw [List.nil_append]; exact E2, by rw [List.map_append, HQ.out, eq2]⟩
 clear C2 E2 eq2 HN HC1 HQ
 go_wp2
 first | go_end0 | refine bodyPost_ret (results_none rfl _ _ _) rfl ?_
 exact ⟨rfl, by rw [HLS.out]; exact HF.out, hb1.trans hb2⟩
theorem prf_2dd062 {p : Prop} (h : p := by
 go_wp2_with (go_at_call 49; fail)
 refine (HC.out w rfl).mono ?_
 rintro e w1 ⟨rfl, HA0, hb1⟩
 have HA := hideH HA0
 clear HA0 HC s0
 go_wp2
 first | go_end0 | refine bodyPost_ret (results_none rfl _ _ _) rfl ?_
 exact ⟨rfl, HA.out, hb1⟩) : p := h
theorem step_16 (sb : Nat) (i : Ins) (V F : Int) (s : Option Addr) (c : List Ins) (cap : Nat) (at_ : Int) (x : Pic) (vs : Option Addr) (vc : Nat) (fs : Option Addr) (fc : Nat) (w0 w : World) (hS : Cells w sb (stpC i V F s c cap at_ x vs vc fs fc (.slice none 0 0) false false)) (hc0 : CodeAt w0 s c) (hx0 : PicAt w0 x vs fs) (hz0 : w0.heap.size ≤ sb) (hB0 : Below w0.heap.size w0 w) (K : SCtx V F c x vc fc i at_) (hk : i.k = 16) :
  Calls Tryz.prog 18 #[.pointer (some ⟨sb, 0, none⟩)] w fun e w' => e = .returned (.tuple #[]) ∧ EdgAns sb w' (fun ev' => stpC i V F s c cap at_ x vs vc fs fc ev' false false) [] ([⟨i.g, x⟩]) ∧ Below sb w w' := by
 have HC : Hid (∀ wx, wx = w → Calls Tryz.prog 49 #[.pointer (some ⟨sb, 0, none⟩), .int .i64 (i.g), .func (.func 50) #[] #[]] wx fun e w' => e = .returned (.tuple #[]) ∧ EdgAns sb w' (fun ev' => stpC i V F s c cap at_ x vs vc fs fc ev' false false) [] [⟨i.g, x⟩] ∧ Below sb wx w') := fun wx hw => by
  subst hw
  refine (edge_goto sb (i.g) x [] none 0 sb i V F s c cap at_ x vs vc fs fc false false w0 wx hS hc0 hx0 hz0 hB0 K rfl (ERow.nil sb sb wx) (by simp) (ch_goto sb sb _ wx x)).mono ?_
  rintro e w' ⟨h1, ⟨ev', q, h2, h3, h4⟩, h5⟩
  exact ⟨h1, ⟨ev', [q], h2, h3, by simp [h4]⟩, h5⟩
 have s0 := hS.1 0 _ rfl
 rw [hk] at s0
 have s5 := hS.1 5 _ rfl
 clear hS hc0 hx0 hB0 K hz0 hk
 go_enter Tryz.func18, Tryz.ntmps18
 exact prf_2dd062
theorem step_17 (sb : Nat) (i : Ins) (V F : Int) (s : Option Addr) (c : List Ins) (cap : Nat) (at_ : Int) (x : Pic) (vs : Option Addr) (vc : Nat) (fs : Option Addr) (fc : Nat) (w0 w : World) (hS : Cells w sb (stpC i V F s c cap at_ x vs vc fs fc (.slice none 0 0) false false)) (hc0 : CodeAt w0 s c) (hx0 : PicAt w0 x vs fs) (hz0 : w0.heap.size ≤ sb) (hB0 : Below w0.heap.size w0 w) (K : SCtx V F c x vc fc i at_) (hk : i.k = 17) :
  Calls Tryz.prog 18 #[.pointer (some ⟨sb, 0, none⟩)] w fun e w' => e = .returned (.tuple #[]) ∧ EdgAns sb w' (fun ev' => stpC i V F s c cap at_ x vs vc fs fc ev' false (noGs (gAt x i.a))) [] ((if yesGs (gAt x i.a) then [⟨at_ + 1, setVar x i.a (trueGs (gAt x i.a))⟩] else [])) ∧ Below sb w w' := by
 obtain ⟨LST, hlst⟩ : ∃ q : List Edg, q = (if yesGs (gAt x i.a) then [⟨at_ + 1, setVar x i.a (trueGs (gAt x i.a))⟩] else []) := ⟨_, rfl⟩
 rw [← hlst]
 have HLS := hideH hlst
 clear hlst
 have ha0 := K.a0
 have ha1 : at_ ≤ 1000 := by have := K.a1; have := K.lens; omega
 have HC := hideH (onTrue_any (at_ + 1) [] none 0 sb i V F s c cap at_ x vs vc fs fc false false w0 w hS hc0 hx0 hz0 hB0 K (ERow.nil sb sb w) (by simp) (by rw [hk]; rfl))
 have hA : nA i.k = true := by rw [hk]; rfl
 have s0 := hS.1 0 _ rfl
 rw [hk] at s0
 have HSS := hideH hS
 have HH := hideH (And.intro hc0 (And.intro hx0 (And.intro hz0 (And.intro hB0 (And.intro K hA)))))
 clear hS hc0 hx0 hB0 K hz0 hk hA
 go_enter Tryz.func18, Tryz.ntmps18
 go_wp2_with (go_at_call 48; fail)
 refine (next_any sb at_ _ w HSS.out rfl ha0 ha1).mono ?_
 rintro e wz ⟨rfl, ew⟩
 rw [ew]
 clear ew wz
 go_wp2_with (go_at_call 46; fail)
 refine HC.out.mono ?_
 rintro e w1 ⟨rfl, HA0, hb1⟩
 obtain ⟨hc0, hx0, hz0, hB0, K, hA⟩ := HH.out
 obtain ⟨ev, QL, C1, E1, eq1⟩ := HA0
 rw [List.nil_append] at E1
 obtain ⟨es, ec, rfl, -, -⟩ := E1.form
 have hq : QL.length ≤ 10 := by
  have h := congrArg List.length eq1
  rw [List.length_map] at h
  rw [h]
  split <;> simp
 have hB1 := hB0.trans (hb1.mono hz0)
 have HT := hideH (truthS_any sb i V F s c cap at_ x vs vc fs fc _ false false w1 C1 (hc0.below hB1 (Nat.le_refl _)) (hx0.below hB1 (Nat.le_refl _)) K hA)
 have HQ := hideH eq1
 have HCE := hideH (And.intro C1 E1)
 clear C1 E1 eq1 HC HH hc0 hx0 hz0 hB0 K hA hB1 hq s0 HSS
 go_wp2_with (go_at_call 51; fail)
 refine HT.out.mono ?_
 rintro e w2 ⟨rfl, hb2⟩
 have C2 := HCE.out.1.call hb2
 have E2 := HCE.out.2.call hb2
 have s15 := C2.1 15 _ rfl
 have f15 := C2.2.2 15
 have HF : Hid (EdgAns sb (w2.setCell ⟨sb, 15, none⟩ (.bool (noGs (gAt x i.a)))) (fun ev' => stpC i V F s c cap at_ x vs vc fs fc ev' false (noGs (gAt x i.a))) [] (if yesGs (gAt x i.a) then [⟨at_ + 1, setVar x i.a (trueGs (gAt x i.a))⟩] else [])) := ⟨_, QL, C2.put 15 (by simp [stpC]) _, by rw [List.nil_append]; exact E2.same (fun b _ hne _ => Below.heap_setCell _ _ _ _ hne) (by simp [World.setCell]), HQ.out⟩
 have hbf : Below sb w (w2.setCell ⟨sb, 15, none⟩ (.bool (noGs (gAt x i.a)))) := (hb1.trans (hb2.mono (Nat.le_of_lt HCE.out.1.2.1))).setCell (Nat.le_refl _) _
 clear C2 E2 HT HCE HQ
 go_wp2
 first | go_end0 | refine bodyPost_ret (results_none rfl _ _ _) rfl ?_
 exact ⟨rfl, by rw [HLS.out]; exact HF.out, hbf⟩
theorem step_18 (sb : Nat) (i : Ins) (V F : Int) (s : Option Addr) (c : List Ins) (cap : Nat) (at_ : Int) (x : Pic) (vs : Option Addr) (vc : Nat) (fs : Option Addr) (fc : Nat) (w0 w : World) (hS : Cells w sb (stpC i V F s c cap at_ x vs vc fs fc (.slice none 0 0) false false)) (hc0 : CodeAt w0 s c) (hx0 : PicAt w0 x vs fs) (hz0 : w0.heap.size ≤ sb) (hB0 : Below w0.heap.size w0 w) (K : SCtx V F c x vc fc i at_) (hk : i.k = 18) :
  Calls Tryz.prog 18 #[.pointer (some ⟨sb, 0, none⟩)] w fun e w' => e = .returned (.tuple #[]) ∧ EdgAns sb w' (fun ev' => stpC i V F s c cap at_ x vs vc fs fc ev' false false) [] ([⟨at_ + 1, x⟩]) ∧ Below sb w w' := by
 have ha0 := K.a0
 have ha1 : at_ ≤ 1000 := by have := K.a1; have := K.lens; omega
 have HC : Hid (∀ wx, wx = w → Calls Tryz.prog 49 #[.pointer (some ⟨sb, 0, none⟩), .int .i64 (at_ + 1), .func (.func 52) #[] #[]] wx fun e w' => e = .returned (.tuple #[]) ∧ EdgAns sb w' (fun ev' => stpC i V F s c cap at_ x vs vc fs fc ev' false false) [] [⟨at_ + 1, x⟩] ∧ Below sb wx w') := fun wx hw => by
  subst hw
  refine (edge_print sb (at_ + 1) x [] none 0 sb i V F s c cap at_ x vs vc fs fc false false w0 wx hS hc0 hx0 hz0 hB0 K rfl (ERow.nil sb sb wx) (by simp) (ch_print sb sb _ wx x)).mono ?_
  rintro e w' ⟨h1, ⟨ev', q, h2, h3, h4⟩, h5⟩
  exact ⟨h1, ⟨ev', [q], h2, h3, by simp [h4]⟩, h5⟩
 have s0 := hS.1 0 _ rfl
 rw [hk] at s0
 have HSS := hideH hS
 clear hS hc0 hx0 hB0 K hz0 hk
 go_enter Tryz.func18, Tryz.ntmps18
 go_wp2_with (go_at_call 48; fail)
 refine (next_any sb at_ _ w HSS.out rfl ha0 ha1).mono ?_
 rintro e wz ⟨rfl, ew⟩
 rw [ew]
 clear ew wz
 exact prf_2dd062
theorem step_19 (sb : Nat) (i : Ins) (V F : Int) (s : Option Addr) (c : List Ins) (cap : Nat) (at_ : Int) (x : Pic) (vs : Option Addr) (vc : Nat) (fs : Option Addr) (fc : Nat) (w0 w : World) (hS : Cells w sb (stpC i V F s c cap at_ x vs vc fs fc (.slice none 0 0) false false)) (hc0 : CodeAt w0 s c) (hx0 : PicAt w0 x vs fs) (hz0 : w0.heap.size ≤ sb) (hB0 : Below w0.heap.size w0 w) (K : SCtx V F c x vc fc i at_) (hk : i.k = 19) :
  Calls Tryz.prog 18 #[.pointer (some ⟨sb, 0, none⟩)] w fun e w' => e = .returned (.tuple #[]) ∧ EdgAns sb w' (fun ev' => stpC i V F s c cap at_ x vs vc fs fc ev' false false) [] ([]) ∧ Below sb w w' := by
 have HA : Hid (EdgAns sb w (fun ev' => stpC i V F s c cap at_ x vs vc fs fc ev' false false) [] []) := ⟨_, [], hS, ERow.nil sb sb w, rfl⟩
 have s0 := hS.1 0 _ rfl
 rw [hk] at s0
 clear hS hc0 hx0 hB0 K hz0 hk
 go_enter Tryz.func18, Tryz.ntmps18
 go_wp2
 first | go_end0 | refine bodyPost_ret (results_none rfl _ _ _) rfl ?_
 exact ⟨rfl, HA.out, Below.refl _ _⟩
end
section
set_option maxHeartbeats 4000000
set_option maxRecDepth 10000
open Go.RowKit
attribute [local go_sem ↓] Go.wp_at_zero Go.wp_at_succ

theorem comes_any (sb : Nat) (i : Ins) (V F : Int) (s : Option Addr) (c : List Ins) (cap : Nat) (at_ : Int) (x : Pic) (vs : Option Addr) (vc : Nat) (fs : Option Addr) (fc : Nat) (ev : Value) (fl : Bool) (w0 w : World) (hS : Cells w sb (stpC i V F s c cap at_ x vs vc fs fc ev false fl)) (hc0 : CodeAt w0 s c) (hx0 : PicAt w0 x vs fs) (hz0 : w0.heap.size ≤ sb) (hB0 : Below w0.heap.size w0 w) (K : SCtx V F c x vc fc i at_) (hT : nTo i.k = true) (h11 : i.k ≠ 11) :
  Calls Tryz.prog 54 #[.pointer (some ⟨sb, 0, none⟩)] w fun e w' => CmAns w.heap.size sb w' e (comesGs i at_ x).1 (stpC i V F s c cap at_ x vs vc fs fc ev (comesGs i at_ x).2 fl) ∧ ModS sb w w' := by
 have h : i.k = 1 ∨ i.k = 2 ∨ i.k = 3 ∨ (4 ≤ i.k ∧ i.k ≤ 10) ∨ i.k = 12 ∨ i.k = 14 := by
  unfold nTo btw at hT
  simp at hT
  omega
 rcases h with h | h | h | h | h | h
 ·exact comes_1 sb i V F s c cap at_ x vs vc fs fc ev fl w0 w hS hc0 hx0 hz0 hB0 K h
 ·exact comes_2 sb i V F s c cap at_ x vs vc fs fc ev fl w0 w hS hc0 hx0 hz0 hB0 K h
 ·exact comes_3 sb i V F s c cap at_ x vs vc fs fc ev fl w0 w hS hc0 hx0 hz0 hB0 K h
 ·exact comes_do sb i V F s c cap at_ x vs vc fs fc ev fl w0 w hS hc0 hx0 hz0 hB0 K h.1 h.2
 ·exact comes_12 sb i V F s c cap at_ x vs vc fs fc ev fl w0 w hS hc0 hx0 hz0 hB0 K h
 ·exact comes_14 sb i V F s c cap at_ x vs vc fs fc ev fl w0 w hS hc0 hx0 hz0 hB0 K h
theorem step_set (sb : Nat) (i : Ins) (V F : Int) (s : Option Addr) (c : List Ins) (cap : Nat) (at_ : Int) (x : Pic) (vs : Option Addr) (vc : Nat) (fs : Option Addr) (fc : Nat) (w0 w : World) (hS : Cells w sb (stpC i V F s c cap at_ x vs vc fs fc (.slice none 0 0) false false)) (hc0 : CodeAt w0 s c) (hx0 : PicAt w0 x vs fs) (hz0 : w0.heap.size ≤ sb) (hB0 : Below w0.heap.size w0 w) (K : SCtx V F c x vc fc i at_) (hT : nTo i.k = true) (h11 : i.k ≠ 11) :
  Calls Tryz.prog 18 #[.pointer (some ⟨sb, 0, none⟩)] w fun e w' => e = .returned (.tuple #[]) ∧ EdgAns sb w' (fun ev' => stpC i V F s c cap at_ x vs vc fs fc ev' (comesGs i at_ x).2 false) [] (if nothingGs (comesGs i at_ x).1 then [] else [⟨at_ + 1, setVar x i.tgt (comesGs i at_ x).1⟩]) ∧ Below sb w w' := by
 obtain ⟨LST, hlst⟩ : ∃ q : List Edg, q = if nothingGs (comesGs i at_ x).1 then [] else [⟨at_ + 1, setVar x i.tgt (comesGs i at_ x).1⟩] := ⟨_, rfl⟩
 rw [← hlst]
 have HLS := hideH hlst
 clear hlst
 have HC := hideH (comes_any sb i V F s c cap at_ x vs vc fs fc _ false w0 w hS hc0 hx0 hz0 hB0 K hT h11)
 have hck : ckGs c (comesGs i at_ x).1 = 0 := by
  have h := comesGs_ck (progOk_of K.h0) K.kx K.a0 K.a1
  rw [← K.hi] at h
  exact h
 have s0 := hS.1 0 _ rfl
 have HSB := hideH hS.2.1
 have hr : i.k = 1 ∨ i.k = 2 ∨ i.k = 3 ∨ (4 ≤ i.k ∧ i.k ≤ 10) ∨ i.k = 12 ∨ i.k = 14 := by
  have h := hT
  unfold nTo btw at h
  simp at h
  omega
 have q11 : (i.k == 11) = false := by simp; omega
 have q13 : (i.k == 13) = false := by simp; omega
 have q15 : (i.k == 15) = false := by simp; omega
 have q16 : (i.k == 16) = false := by simp; omega
 have q17 : (i.k == 17) = false := by simp; omega
 have q18 : (i.k == 18) = false := by simp; omega
 have q19 : (i.k == 19) = false := by simp; omega
 have HH := hideH (And.intro hc0 (And.intro hx0 (And.intro hz0 (And.intro hB0 (And.intro K hT)))))
 clear hS hc0 hx0 hB0 K hz0 hr h11 hT
 obtain ⟨⟨g, wr⟩, hg⟩ : ∃ q, q = comesGs i at_ x := ⟨_, rfl⟩
 rw [← hg] at HC hck ⊢
 have HGE := hideH hg
 clear hg
 go_enter Tryz.func18, Tryz.ntmps18
 go_wp2_with (go_at_call 54; fail)
 clear s0 q11 q13 q15 q16 q17 q18 q19
 refine HC.out.mono ?_
 rintro e w1 ⟨⟨⟨ss, gc, rfl, JI, J1, J2⟩, C1⟩, M1⟩
 obtain ⟨hc0, hx0, hz0, hB0, K, hT⟩ := HH.out
 have HN := hideH (set_any g ss gc [] none 0 sb i V F s c cap at_ x vs vc fs fc wr false w0 w1 C1 hc0 hx0 hz0 (hB0.trans (M1.1.mono hz0)) K (ERow.nil sb sb w1) (by simp) (JI.mono fun b hb _ => ⟨by have := HSB.out; omega, by have := HSB.out; omega, fun h => by cases h⟩) J1 J2 hck hT)
 clear HC HH hc0 hx0 hz0 hB0 K hT JI J1 J2 C1 hck
 go_wp2_with (go_at_call 53; fail)
 refine HN.out.mono ?_
 rintro e w2 ⟨rfl, HA0, hb2⟩
 have HA := hideH HA0
 clear HA0 HN
 go_wp2
 first | go_end0 | refine bodyPost_ret (results_none rfl _ _ _) rfl ?_
 exact ⟨rfl, by rw [HLS.out, ← HGE.out]; exact HA.out, M1.1.trans hb2⟩
/-- What a stepper does, whatever its instruction. -/
theorem step_any (sb : Nat) (i : Ins) (V F : Int) (s : Option Addr) (c : List Ins) (cap : Nat) (at_ : Int) (x : Pic) (vs : Option Addr) (vc : Nat) (fs : Option Addr) (fc : Nat) (w0 w : World) (hS : Cells w sb (stpC i V F s c cap at_ x vs vc fs fc (.slice none 0 0) false false)) (hc0 : CodeAt w0 s c) (hx0 : PicAt w0 x vs fs) (hz0 : w0.heap.size ≤ sb) (hB0 : Below w0.heap.size w0 w) (K : SCtx V F c x vc fc i at_) :
  Calls Tryz.prog 18 #[.pointer (some ⟨sb, 0, none⟩)] w fun e w' => e = .returned (.tuple #[]) ∧ EdgAns sb w' (fun ev' => stpC i V F s c cap at_ x vs vc fs fc ev' (stepPic i at_ x).2.1 (stepPic i at_ x).2.2) [] ((stepPic i at_ x).1) ∧ Below sb w w' := by
 have hn := K.kx.none
 have hk := (ckOne_parts K.one).1
 unfold btw at hk
 simp only [Bool.and_eq_true, decide_eq_true_eq] at hk
 by_cases h11 : i.k = 11
 ·have e : stepPic i at_ x = ([⟨at_ + 1, (setVar (newPic at_ x) i.tgt ⟨false, ⟨true, 0, 0⟩, false, false, [at_]⟩)⟩], false, false) := by simp [stepPic, hn, h11, comesGs, nothingGs, otherGs]
  rw [e]
  exact step_11 sb i V F s c cap at_ x vs vc fs fc w0 w hS hc0 hx0 hz0 hB0 K h11
 by_cases h13 : i.k = 13
 ·have e : stepPic i at_ x = (if (gAt x i.a).s.length = 0 then [] else [⟨at_ + 1, (putPic x i.n (gAt x i.b) (gAt x i.a).s)⟩], noThing (gAt x i.a), false) := by
   simp only [stepPic, hn, h13]
   simp only [Bool.false_eq_true, if_false]
   by_cases h : (gAt x i.a).s.length = 0
   ·simp [h]
   ·simp [h]
  rw [e]
  exact step_13 sb i V F s c cap at_ x vs vc fs fc w0 w hS hc0 hx0 hz0 hB0 K h13
 by_cases h15 : i.k = 15
 ·have e : stepPic i at_ x = ((if yesGs (gAt x i.a) then [⟨i.g, setVar x i.a (trueGs (gAt x i.a))⟩] else []) ++ (if noGs (gAt x i.a) then [⟨at_ + 1, setVar x i.a (falseGs (gAt x i.a))⟩] else []), false, false) := by simp [stepPic, hn, h15]
  rw [e]
  exact step_15 sb i V F s c cap at_ x vs vc fs fc w0 w hS hc0 hx0 hz0 hB0 K h15
 by_cases h16 : i.k = 16
 ·have e : stepPic i at_ x = ([⟨i.g, x⟩], false, false) := by simp [stepPic, hn, h16]
  rw [e]
  exact step_16 sb i V F s c cap at_ x vs vc fs fc w0 w hS hc0 hx0 hz0 hB0 K h16
 by_cases h17 : i.k = 17
 ·have e : stepPic i at_ x = ((if yesGs (gAt x i.a) then [⟨at_ + 1, setVar x i.a (trueGs (gAt x i.a))⟩] else []), false, noGs (gAt x i.a)) := by simp [stepPic, hn, h17]
  rw [e]
  exact step_17 sb i V F s c cap at_ x vs vc fs fc w0 w hS hc0 hx0 hz0 hB0 K h17
 by_cases h18 : i.k = 18
 ·have e : stepPic i at_ x = ([⟨at_ + 1, x⟩], false, false) := by simp [stepPic, hn, h18]
  rw [e]
  exact step_18 sb i V F s c cap at_ x vs vc fs fc w0 w hS hc0 hx0 hz0 hB0 K h18
 by_cases h19 : i.k = 19
 ·have e : stepPic i at_ x = ([], false, false) := by simp [stepPic, hn, h19]
  rw [e]
  exact step_19 sb i V F s c cap at_ x vs vc fs fc w0 w hS hc0 hx0 hz0 hB0 K h19
 have hT : nTo i.k = true := by
  unfold nTo btw
  simp
  omega
 have e : stepPic i at_ x = (if nothingGs (comesGs i at_ x).1 then [] else [⟨at_ + 1, setVar x i.tgt (comesGs i at_ x).1⟩], (comesGs i at_ x).2, false) := by
  simp only [stepPic, hn, h11, h13, h15, h16, h17, h18, h19, Bool.false_eq_true, if_false]
  split <;> rfl
 rw [e]
 exact step_set sb i V F s c cap at_ x vs vc fs fc w0 w hS hc0 hx0 hz0 hB0 K hT h11
end
section
set_option maxHeartbeats 8000000
set_option maxRecDepth 20000
open Go.RowKit
attribute [local go_sem ↓] Go.wp_at_zero Go.wp_at_succ

/-- What a step of a picture answers first: an errno. -/
def stepE (V F : Int) (c : List Ins) (at_ : Int) (x : Pic) : Int := if ckPics V F c [x] = 0 then (if at_ < 0 ∨ (c.length : Int) ≤ at_ then 5 else 0) else ckPics V F c [x]
def stepA (V F : Int) (c : List Ins) (at_ : Int) (x : Pic) : List Edg × Bool × Bool := if stepE V F c at_ x = 0 then stepPic (insAt c at_) at_ x else ([], false, false)
/-- What Step answers. -/
def StpE (B : Nat) (w' : World) (e : Ending) (r : List Edg × Bool × Bool) (er : Int) : Prop := ∃ es ec, e = .returned (.tuple #[.slice es r.1.length ec, .bool r.2.1, .bool r.2.2, .int .i64 er]) ∧ EdsOn (fun b => B ≤ b) w' es r.1
theorem ckPics_one {V F : Int} {c : List Ins} {x : Pic} (h : ckPics V F c [x] = 0) : ckProg V F c = 0 ∧ ckPic V F c x = 0 := by
 unfold ckPics at h
 by_cases h0 : ckProg V F c = 0
 ·rw [if_pos h0] at h
  unfold ckPicL at h
  by_cases h1 : ckPic V F c x = 0
  ·exact ⟨h0, h1⟩
  ·rw [if_neg h1] at h; exact absurd h h1
 ·rw [if_neg h0] at h; exact absurd h h0
theorem stepF_err (V F : Int) (s : Option Addr) (c : List Ins) (cap : Nat) (at_ : Int) (x : Pic) (vs : Option Addr) (vc : Nat) (fs : Option Addr) (fc : Nat) (w : World) (hc : CodeAt w s c) (hx : PicAt w x vs fs) (h1 : x.vars.length ≤ vc ∧ vc ≤ maxLen) (h2 : x.flds.length ≤ fc ∧ fc ≤ maxLen) (hu : ckPics V F c [x] ≠ 0) :
  Calls Tryz.prog 5 #[pv V F s c cap, .int .i64 at_, xv x vs vc fs fc] w fun e w' => StpE w.heap.size w' e ([], false, false) (ckPics V F c [x]) ∧ Below w.heap.size w w' := by
 have hb0 : Below w.heap.size w ((w.alloc (.cells #[.int .i64 V, .int .i64 F, .slice s c.length cap] 24)).alloc (.cells #[.bool x.none, .slice vs x.vars.length vc, .slice fs x.flds.length fc] 28)) := by go_grown
 have P0 : Cells ((w.alloc (.cells #[.int .i64 V, .int .i64 F, .slice s c.length cap] 24)).alloc (.cells #[.bool x.none, .slice vs x.vars.length vc, .slice fs x.flds.length fc] 28)) w.heap.size [.int .i64 V, .int .i64 F, .slice s c.length cap] := (Cells.new w 24 [.int .i64 V, .int .i64 F, .slice s c.length cap]).call (by go_grown)
 have X0 : Cells ((w.alloc (.cells #[.int .i64 V, .int .i64 F, .slice s c.length cap] 24)).alloc (.cells #[.bool x.none, .slice vs x.vars.length vc, .slice fs x.flds.length fc] 28)) (w.heap.size + 1) [.bool x.none, .slice vs x.vars.length vc, .slice fs x.flds.length fc] := by
  have h := Cells.new (w.alloc (.cells #[.int .i64 V, .int .i64 F, .slice s c.length cap] 24)) 28 [.bool x.none, .slice vs x.vars.length vc, .slice fs x.flds.length fc]
  rw [World.size_alloc] at h
  exact h
 have HC := hideH (checkP_any V F s c cap x vs vc fs fc ((w.alloc (.cells #[.int .i64 V, .int .i64 F, .slice s c.length cap] 24)).alloc (.cells #[.bool x.none, .slice vs x.vars.length vc, .slice fs x.flds.length fc] 28)) (hc.below hb0 (Nat.le_refl _)) (hx.below hb0 (Nat.le_refl _)) h1 h2)
 generalize ckPics V F c [x] = u at *
 have hub : (u != 0) = true := by simpa using hu
 clear hu hc hx
 go_enter Tryz.func5, Tryz.ntmps5
 go_wp2_with (go_at_call 17; fail)
 refine HC.out.mono ?_
 rintro e w1 ⟨rfl, hb1⟩
 generalize ((w.alloc (.cells #[.int .i64 V, .int .i64 F, .slice s c.length cap] 24)).alloc (.cells #[.bool x.none, .slice vs x.vars.length vc, .slice fs x.flds.length fc] 28)) = w0 at *
 have B1 := hb0.trans (hb1.mono hb0.size)
 have P1 := P0.call hb1
 have X1 := X0.call hb1
 clear P0 X0 hb0 hb1 HC
 go_wp2
 refine bodyPost_ret (v := .tuple #[.slice none 0 0, .bool false, .bool false, .int .i64 u]) (by simp [results, Tryz.results5, go_sem]) rfl ⟨⟨none, 0, rfl, EdsOn.nil⟩, B1⟩
theorem stepF_range (V F : Int) (s : Option Addr) (c : List Ins) (cap : Nat) (at_ : Int) (x : Pic) (vs : Option Addr) (vc : Nat) (fs : Option Addr) (fc : Nat) (w : World) (hc : CodeAt w s c) (hx : PicAt w x vs fs) (h1 : x.vars.length ≤ vc ∧ vc ≤ maxLen) (h2 : x.flds.length ≤ fc ∧ fc ≤ maxLen) (hu : ckPics V F c [x] = 0) (hr : at_ < 0 ∨ (c.length : Int) ≤ at_) :
  Calls Tryz.prog 5 #[pv V F s c cap, .int .i64 at_, xv x vs vc fs fc] w fun e w' => StpE w.heap.size w' e ([], false, false) 5 ∧ Below w.heap.size w w' := by
 have hb0 : Below w.heap.size w ((w.alloc (.cells #[.int .i64 V, .int .i64 F, .slice s c.length cap] 24)).alloc (.cells #[.bool x.none, .slice vs x.vars.length vc, .slice fs x.flds.length fc] 28)) := by go_grown
 have P0 : Cells ((w.alloc (.cells #[.int .i64 V, .int .i64 F, .slice s c.length cap] 24)).alloc (.cells #[.bool x.none, .slice vs x.vars.length vc, .slice fs x.flds.length fc] 28)) w.heap.size [.int .i64 V, .int .i64 F, .slice s c.length cap] := (Cells.new w 24 [.int .i64 V, .int .i64 F, .slice s c.length cap]).call (by go_grown)
 have X0 : Cells ((w.alloc (.cells #[.int .i64 V, .int .i64 F, .slice s c.length cap] 24)).alloc (.cells #[.bool x.none, .slice vs x.vars.length vc, .slice fs x.flds.length fc] 28)) (w.heap.size + 1) [.bool x.none, .slice vs x.vars.length vc, .slice fs x.flds.length fc] := by
  have h := Cells.new (w.alloc (.cells #[.int .i64 V, .int .i64 F, .slice s c.length cap] 24)) 28 [.bool x.none, .slice vs x.vars.length vc, .slice fs x.flds.length fc]
  rw [World.size_alloc] at h
  exact h
 have HC := hideH (checkP_any V F s c cap x vs vc fs fc ((w.alloc (.cells #[.int .i64 V, .int .i64 F, .slice s c.length cap] 24)).alloc (.cells #[.bool x.none, .slice vs x.vars.length vc, .slice fs x.flds.length fc] 28)) (hc.below hb0 (Nat.le_refl _)) (hx.below hb0 (Nat.le_refl _)) h1 h2)
 rw [hu] at HC
 clear hu hc hx
 go_enter Tryz.func5, Tryz.ntmps5
 go_wp2_with (go_at_call 17; fail)
 refine HC.out.mono ?_
 rintro e w1 ⟨rfl, hb1⟩
 generalize ((w.alloc (.cells #[.int .i64 V, .int .i64 F, .slice s c.length cap] 24)).alloc (.cells #[.bool x.none, .slice vs x.vars.length vc, .slice fs x.flds.length fc] 28)) = w0 at *
 have B1 := hb0.trans (hb1.mono hb0.size)
 have P1 := P0.call hb1
 have X1 := X0.call hb1
 clear P0 X0 hb0 hb1 HC
 have p2 := P1.1 2 _ rfl
 by_cases h0 : at_ < 0
 ·clear hr
  go_wp2
  refine bodyPost_ret (v := .tuple #[.slice none 0 0, .bool false, .bool false, .int .i64 5]) (by simp [results, Tryz.results5, go_sem]) rfl ⟨⟨none, 0, rfl, EdsOn.nil⟩, B1⟩
 ·have h3 : (c.length : Int) ≤ at_ := by omega
  clear hr
  go_wp2
  refine bodyPost_ret (v := .tuple #[.slice none 0 0, .bool false, .bool false, .int .i64 5]) (by simp [results, Tryz.results5, go_sem]) rfl ⟨⟨none, 0, rfl, EdsOn.nil⟩, B1⟩
theorem stepF_none (V F : Int) (s : Option Addr) (c : List Ins) (cap : Nat) (at_ : Int) (x : Pic) (vs : Option Addr) (vc : Nat) (fs : Option Addr) (fc : Nat) (w : World) (hc : CodeAt w s c) (hx : PicAt w x vs fs) (h1 : x.vars.length ≤ vc ∧ vc ≤ maxLen) (h2 : x.flds.length ≤ fc ∧ fc ≤ maxLen) (hu : ckPics V F c [x] = 0) (hr : ¬ (at_ < 0 ∨ (c.length : Int) ≤ at_)) (hn : x.none = true) :
  Calls Tryz.prog 5 #[pv V F s c cap, .int .i64 at_, xv x vs vc fs fc] w fun e w' => StpE w.heap.size w' e ([], false, false) 0 ∧ Below w.heap.size w w' := by
 have hb0 : Below w.heap.size w ((w.alloc (.cells #[.int .i64 V, .int .i64 F, .slice s c.length cap] 24)).alloc (.cells #[.bool x.none, .slice vs x.vars.length vc, .slice fs x.flds.length fc] 28)) := by go_grown
 have P0 : Cells ((w.alloc (.cells #[.int .i64 V, .int .i64 F, .slice s c.length cap] 24)).alloc (.cells #[.bool x.none, .slice vs x.vars.length vc, .slice fs x.flds.length fc] 28)) w.heap.size [.int .i64 V, .int .i64 F, .slice s c.length cap] := (Cells.new w 24 [.int .i64 V, .int .i64 F, .slice s c.length cap]).call (by go_grown)
 have X0 : Cells ((w.alloc (.cells #[.int .i64 V, .int .i64 F, .slice s c.length cap] 24)).alloc (.cells #[.bool x.none, .slice vs x.vars.length vc, .slice fs x.flds.length fc] 28)) (w.heap.size + 1) [.bool x.none, .slice vs x.vars.length vc, .slice fs x.flds.length fc] := by
  have h := Cells.new (w.alloc (.cells #[.int .i64 V, .int .i64 F, .slice s c.length cap] 24)) 28 [.bool x.none, .slice vs x.vars.length vc, .slice fs x.flds.length fc]
  rw [World.size_alloc] at h
  exact h
 have HC := hideH (checkP_any V F s c cap x vs vc fs fc ((w.alloc (.cells #[.int .i64 V, .int .i64 F, .slice s c.length cap] 24)).alloc (.cells #[.bool x.none, .slice vs x.vars.length vc, .slice fs x.flds.length fc] 28)) (hc.below hb0 (Nat.le_refl _)) (hx.below hb0 (Nat.le_refl _)) h1 h2)
 rw [hu] at HC
 have HNX := hideH hn
 have r0 : ¬ at_ < 0 := by omega
 have r1 : ¬ (c.length : Int) ≤ at_ := by omega
 clear hu hc hx hn hr
 go_enter Tryz.func5, Tryz.ntmps5
 go_wp2_with (go_at_call 17; fail)
 refine HC.out.mono ?_
 rintro e w1 ⟨rfl, hb1⟩
 generalize ((w.alloc (.cells #[.int .i64 V, .int .i64 F, .slice s c.length cap] 24)).alloc (.cells #[.bool x.none, .slice vs x.vars.length vc, .slice fs x.flds.length fc] 28)) = w0 at *
 have B1 := hb0.trans (hb1.mono hb0.size)
 have P1 := P0.call hb1
 have X1 := X0.call hb1
 clear P0 X0 hb0 hb1 HC
 have p2 := P1.1 2 _ rfl
 have x0 := X1.1 0 _ rfl
 rw [HNX.out] at x0
 go_wp2
 refine bodyPost_ret (v := .tuple #[.slice none 0 0, .bool false, .bool false, .int .i64 0]) (by simp [results, Tryz.results5, go_sem]) rfl ⟨⟨none, 0, rfl, EdsOn.nil⟩, B1⟩
theorem stepF_ok (V F : Int) (s : Option Addr) (c : List Ins) (cap : Nat) (at_ : Int) (x : Pic) (vs : Option Addr) (vc : Nat) (fs : Option Addr) (fc : Nat) (w : World) (hc : CodeAt w s c) (hx : PicAt w x vs fs) (h1 : x.vars.length ≤ vc ∧ vc ≤ maxLen) (h2 : x.flds.length ≤ fc ∧ fc ≤ maxLen) (hu : ckPics V F c [x] = 0) (hr : ¬ (at_ < 0 ∨ (c.length : Int) ≤ at_)) (hn : x.none = false) :
  Calls Tryz.prog 5 #[pv V F s c cap, .int .i64 at_, xv x vs vc fs fc] w fun e w' => StpE w.heap.size w' e (stepPic (insAt c at_) at_ x) 0 ∧ Below w.heap.size w w' := by
 obtain ⟨i, hi⟩ : ∃ i, i = insAt c at_ := ⟨_, rfl⟩
 rw [← hi]
 obtain ⟨k0, kx⟩ := ckPics_one hu
 have K : SCtx V F c x vc fc i at_ := ⟨k0, picOk_of kx hn, hi, by omega, by omega, h1, h2⟩
 obtain ⟨m, em⟩ := Int.eq_ofNat_of_zero_le K.a0
 have ha1 := K.a1
 have hm : m < c.length := by omega
 have hcm : c[m] = i := by rw [hi, em]; unfold insAt; simp [List.getD, hm]
 have HST : Hid (∀ sb wx, Cells wx sb (stpC i V F s c cap at_ x vs vc fs fc (.slice none 0 0) false false) → w.heap.size ≤ sb → Below w.heap.size w wx → Calls Tryz.prog 18 #[.pointer (some ⟨sb, 0, none⟩)] wx fun e w' => e = .returned (.tuple #[]) ∧ EdgAns sb w' (fun ev' => stpC i V F s c cap at_ x vs vc fs fc ev' (stepPic i at_ x).2.1 (stepPic i at_ x).2.2) [] (stepPic i at_ x).1 ∧ Below sb wx w') := fun sb wx hs hz hb => step_any sb i V F s c cap at_ x vs vc fs fc w wx hs hc hx hz hb K
 have HCA := hideH hc
 have r0 : ¬ at_ < 0 := by omega
 have r1 : ¬ (c.length : Int) ≤ at_ := by omega
 have n0 : (0 : Int) ≤ (m : Int) := by omega
 have n1 : (m : Int) < (c.length : Int) := by omega
 have HCM := hideH hcm
 have HNX := hideH hn
 have hb0 : Below w.heap.size w ((w.alloc (.cells #[.int .i64 V, .int .i64 F, .slice s c.length cap] 24)).alloc (.cells #[.bool x.none, .slice vs x.vars.length vc, .slice fs x.flds.length fc] 28)) := by go_grown
 have P0 : Cells ((w.alloc (.cells #[.int .i64 V, .int .i64 F, .slice s c.length cap] 24)).alloc (.cells #[.bool x.none, .slice vs x.vars.length vc, .slice fs x.flds.length fc] 28)) w.heap.size [.int .i64 V, .int .i64 F, .slice s c.length cap] := (Cells.new w 24 [.int .i64 V, .int .i64 F, .slice s c.length cap]).call (by go_grown)
 have X0 : Cells ((w.alloc (.cells #[.int .i64 V, .int .i64 F, .slice s c.length cap] 24)).alloc (.cells #[.bool x.none, .slice vs x.vars.length vc, .slice fs x.flds.length fc] 28)) (w.heap.size + 1) [.bool x.none, .slice vs x.vars.length vc, .slice fs x.flds.length fc] := by
  have h := Cells.new (w.alloc (.cells #[.int .i64 V, .int .i64 F, .slice s c.length cap] 24)) 28 [.bool x.none, .slice vs x.vars.length vc, .slice fs x.flds.length fc]
  rw [World.size_alloc] at h
  exact h
 have HC := hideH (checkP_any V F s c cap x vs vc fs fc ((w.alloc (.cells #[.int .i64 V, .int .i64 F, .slice s c.length cap] 24)).alloc (.cells #[.bool x.none, .slice vs x.vars.length vc, .slice fs x.flds.length fc] 28)) (hc.below hb0 (Nat.le_refl _)) (hx.below hb0 (Nat.le_refl _)) h1 h2)
 rw [hu] at HC
 clear hu hc hx hn hr hi hcm K kx k0 ha1
 obtain ⟨⟨SL, wr, fl⟩, hst⟩ : ∃ q, q = stepPic i at_ x := ⟨_, rfl⟩
 rw [← hst] at HST ⊢
 clear hst
 go_enter Tryz.func5, Tryz.ntmps5
 go_wp2_with (go_at_call 17; fail)
 refine HC.out.mono ?_
 rintro e w1 ⟨rfl, hb1⟩
 generalize ((w.alloc (.cells #[.int .i64 V, .int .i64 F, .slice s c.length cap] 24)).alloc (.cells #[.bool x.none, .slice vs x.vars.length vc, .slice fs x.flds.length fc] 28)) = w0 at *
 have B1 := hb0.trans (hb1.mono hb0.size)
 have P1 := P0.call hb1
 have X1 := X0.call hb1
 clear P0 X0 hb0 hb1 HC
 obtain ⟨cb0, co, es, hcb, hci⟩ := HCA.out.get m hm
 obtain ⟨j0, j1, j2, j3, j4, j5⟩ := (hci m hm).below B1 hcb
 rw [HCM.out] at j0 j1 j2 j3 j4 j5
 have p2 := P1.1 2 _ rfl
 have x0 := X1.1 0 _ rfl
 rw [HNX.out] at x0
 have hzz : w1.heap.size ≤ w1.drew.heap.size := (Below.refl w1.heap.size w1).drew.size
 have D1 : Below w1.heap.size w1 w1.drew := (Below.refl _ _).drew
 have P2 := P1.call D1
 have X2 := X1.call D1
 have B2 := B1.trans (D1.mono B1.size)
 rw [HNX.out] at X2
 have HKZ : Hid (∀ wx, Below w1.drew.heap.size w1.drew wx → (wx.cell? ⟨w.heap.size, 0, none⟩ = some (.int .i64 V) ∧ wx.cell? ⟨w.heap.size, 1, none⟩ = some (.int .i64 F) ∧ wx.cell? ⟨w.heap.size, 2, none⟩ = some (.slice (some ⟨cb0, co, none⟩) c.length cap)) ∧ (wx.cell? ⟨w.heap.size + 1, 0, none⟩ = some (.bool false) ∧ wx.cell? ⟨w.heap.size + 1, 1, none⟩ = some (.slice vs x.vars.length vc) ∧ wx.cell? ⟨w.heap.size + 1, 2, none⟩ = some (.slice fs x.flds.length fc)) ∧ (wx.cell? ⟨cb0, co + m * 6, none⟩ = some (.int .i64 i.k) ∧ wx.cell? ⟨cb0, co + m * 6 + 1, none⟩ = some (.int .i64 i.tgt) ∧ wx.cell? ⟨cb0, co + m * 6 + 2, none⟩ = some (.int .i64 i.a) ∧ wx.cell? ⟨cb0, co + m * 6 + 3, none⟩ = some (.int .i64 i.b) ∧ wx.cell? ⟨cb0, co + m * 6 + 4, none⟩ = some (.int .i64 i.n) ∧ wx.cell? ⟨cb0, co + m * 6 + 5, none⟩ = some (.int .i64 i.g))) := fun wx hb => by
  have p := P2.call hb
  have q := X2.call hb
  have bb := B2.trans (hb.mono B2.size)
  have pp := p.1 2 _ rfl
  rw [es] at pp
  refine ⟨⟨p.1 0 _ rfl, p.1 1 _ rfl, pp⟩, ⟨q.1 0 _ rfl, q.1 1 _ rfl, q.1 2 _ rfl⟩, ?_⟩
  have := (hci m hm).below bb hcb
  rw [HCM.out] at this
  exact this
 have HES := hideH es
 clear es hci j0 j1 j2 j3 j4 j5 P1 X1 D1 hzz
 subst em
 go_upto_region 8 with fail
 clear p2 x0 r0 r1
 refine wp_region_z (S := (fun wx => (wx.cell? ⟨w.heap.size, 0, none⟩ = some (.int .i64 V) ∧ wx.cell? ⟨w.heap.size, 1, none⟩ = some (.int .i64 F) ∧ wx.cell? ⟨w.heap.size, 2, none⟩ = some (.slice (some ⟨cb0, co, none⟩) c.length cap)) ∧ (wx.cell? ⟨w.heap.size + 1, 0, none⟩ = some (.bool false) ∧ wx.cell? ⟨w.heap.size + 1, 1, none⟩ = some (.slice vs x.vars.length vc) ∧ wx.cell? ⟨w.heap.size + 1, 2, none⟩ = some (.slice fs x.flds.length fc)) ∧ (wx.cell? ⟨cb0, co + m * 6, none⟩ = some (.int .i64 i.k) ∧ wx.cell? ⟨cb0, co + m * 6 + 1, none⟩ = some (.int .i64 i.tgt) ∧ wx.cell? ⟨cb0, co + m * 6 + 2, none⟩ = some (.int .i64 i.a) ∧ wx.cell? ⟨cb0, co + m * 6 + 3, none⟩ = some (.int .i64 i.b) ∧ wx.cell? ⟨cb0, co + m * 6 + 4, none⟩ = some (.int .i64 i.n) ∧ wx.cell? ⟨cb0, co + m * 6 + 5, none⟩ = some (.int .i64 i.g)))) [10] (by kernel_rfl) (HKZ.out _ (Below.refl _ _)) (fun hHeld => ?_)
 generalize w1.drew = w2 at *
 refine tZ 0 ?_ ?_;refine sm ?_
 refine tZ 1 ?_ ?_;refine sm ?_
 refine tZ 2 ?_ ?_;refine sm ?_
 refine tZ 3 ?_ ?_;refine sm ?_
 refine tZ 4 ?_ ?_;refine sm ?_
 refine tZ 5 ?_ ?_;refine sm ?_
 refine tZ 6 ?_ ?_;refine sm ?_
 refine tZ 7 ?_ ?_;refine sm ?_
 refine tZ 8 ?_ ?_;refine sm ?_
 refine wpAnyZ_one (i := 9) rfl (by kernel_rfl) (fun K hK => ?_)
 go_simp
 have hb3 : Below w2.heap.size w2 (w2.alloc (.cells #[.int .i64 0, .int .i64 0, .int .i64 0, .int .i64 0, .int .i64 0, .int .i64 0, .int .i64 0, .int .i64 0, .slice none 0 0, .int .i64 0, .bool false, .slice none 0 0, .slice none 0 0, .slice none 0 0, .bool false, .bool false] 53)) := by go_grown
 have S3 : Cells (w2.alloc (.cells #[.int .i64 0, .int .i64 0, .int .i64 0, .int .i64 0, .int .i64 0, .int .i64 0, .int .i64 0, .int .i64 0, .slice none 0 0, .int .i64 0, .bool false, .slice none 0 0, .slice none 0 0, .slice none 0 0, .bool false, .bool false] 53)) w2.heap.size [.int .i64 0, .int .i64 0, .int .i64 0, .int .i64 0, .int .i64 0, .int .i64 0, .int .i64 0, .int .i64 0, .slice none 0 0, .int .i64 0, .bool false, .slice none 0 0, .slice none 0 0, .slice none 0 0, .bool false, .bool false] := Cells.new w2 53 [.int .i64 0, .int .i64 0, .int .i64 0, .int .i64 0, .int .i64 0, .int .i64 0, .int .i64 0, .int .i64 0, .slice none 0 0, .int .i64 0, .bool false, .slice none 0 0, .slice none 0 0, .slice none 0 0, .bool false, .bool false]
 refine hK.out _ _ (HKZ.out _ hb3) (fun hHeld => ?_)
 clear hK K
 refine sm ?_
 generalize w2.alloc (.cells #[.int .i64 0, .int .i64 0, .int .i64 0, .int .i64 0, .int .i64 0, .int .i64 0, .int .i64 0, .int .i64 0, .slice none 0 0, .int .i64 0, .bool false, .slice none 0 0, .slice none 0 0, .slice none 0 0, .bool false, .bool false] 53) = w3 at *
 generalize eSB : w2.heap.size = sb at *
 refine wpAnyZ_last (i := 10) rfl (by kernel_rfl) (by kernel_rfl) (fun K hK => ?_)
 have r0 := S3.1 0 _ rfl
 have f0 := S3.2.2 0
 have r1 := S3.1 1 _ rfl
 have f1 := S3.2.2 1
 have r2 := S3.1 2 _ rfl
 have f2 := S3.2.2 2
 have r3 := S3.1 3 _ rfl
 have f3 := S3.2.2 3
 have r4 := S3.1 4 _ rfl
 have f4 := S3.2.2 4
 have r5 := S3.1 5 _ rfl
 have f5 := S3.2.2 5
 have r6 := S3.1 6 _ rfl
 have f6 := S3.2.2 6
 have r7 := S3.1 7 _ rfl
 have f7 := S3.2.2 7
 have r8 := S3.1 8 _ rfl
 have f8 := S3.2.2 8
 have r9 := S3.1 9 _ rfl
 have f9 := S3.2.2 9
 have r10 := S3.1 10 _ rfl
 have f10 := S3.2.2 10
 have r11 := S3.1 11 _ rfl
 have f11 := S3.2.2 11
 have r12 := S3.1 12 _ rfl
 have f12 := S3.2.2 12
 have r13 := S3.1 13 _ rfl
 have f13 := S3.2.2 13
 have r14 := S3.1 14 _ rfl
 have f14 := S3.2.2 14
 have r15 := S3.1 15 _ rfl
 have f15 := S3.2.2 15
 go_simp
 refine hK.out _ _ ?_
 clear hK K r0 f0 r1 f1 r2 f2 r3 f3 r4 f4 r5 f5 r6 f6 r7 f7 r8 f8 r9 f9 r10 f10 r11 f11 r12 f12 r13 f13 r14 f14 r15 f15
 refine sm ?_
 refine wpAnyZ_done (by kernel_rfl) ?_ _
 have hs2 : w2.heap.size ≤ sb := by omega
 have C4 : Cells ((((((((((((((((w3.setCell ⟨sb, 0, none⟩ (.int .i64 i.k)).setCell ⟨sb, 1, none⟩ (.int .i64 i.tgt)).setCell ⟨sb, 2, none⟩ (.int .i64 i.a)).setCell ⟨sb, 3, none⟩ (.int .i64 i.b)).setCell ⟨sb, 4, none⟩ (.int .i64 i.n)).setCell ⟨sb, 5, none⟩ (.int .i64 i.g)).setCell ⟨sb, 6, none⟩ (.int .i64 V)).setCell ⟨sb, 7, none⟩ (.int .i64 F)).setCell ⟨sb, 8, none⟩ (.slice (some ⟨cb0, co, none⟩) c.length cap)).setCell ⟨sb, 9, none⟩ (.int .i64 (m : Int))).setCell ⟨sb, 10, none⟩ (.bool false)).setCell ⟨sb, 11, none⟩ (.slice vs x.vars.length vc)).setCell ⟨sb, 12, none⟩ (.slice fs x.flds.length fc)).setCell ⟨sb, 13, none⟩ (.slice none 0 0)).setCell ⟨sb, 14, none⟩ (.bool false)).setCell ⟨sb, 15, none⟩ (.bool false)) sb (stpC i V F s c cap (m : Int) x vs vc fs fc (.slice none 0 0) false false) := by
  have h := ((((((((((((((((S3.put 0 (by simp only [List.length_set, List.length_cons, List.length_nil]; omega) (.int .i64 i.k)).put 1 (by simp only [List.length_set, List.length_cons, List.length_nil]; omega) (.int .i64 i.tgt)).put 2 (by simp only [List.length_set, List.length_cons, List.length_nil]; omega) (.int .i64 i.a)).put 3 (by simp only [List.length_set, List.length_cons, List.length_nil]; omega) (.int .i64 i.b)).put 4 (by simp only [List.length_set, List.length_cons, List.length_nil]; omega) (.int .i64 i.n)).put 5 (by simp only [List.length_set, List.length_cons, List.length_nil]; omega) (.int .i64 i.g)).put 6 (by simp only [List.length_set, List.length_cons, List.length_nil]; omega) (.int .i64 V)).put 7 (by simp only [List.length_set, List.length_cons, List.length_nil]; omega) (.int .i64 F)).put 8 (by simp only [List.length_set, List.length_cons, List.length_nil]; omega) (.slice (some ⟨cb0, co, none⟩) c.length cap)).put 9 (by simp only [List.length_set, List.length_cons, List.length_nil]; omega) (.int .i64 (m : Int))).put 10 (by simp only [List.length_set, List.length_cons, List.length_nil]; omega) (.bool false)).put 11 (by simp only [List.length_set, List.length_cons, List.length_nil]; omega) (.slice vs x.vars.length vc)).put 12 (by simp only [List.length_set, List.length_cons, List.length_nil]; omega) (.slice fs x.flds.length fc)).put 13 (by simp only [List.length_set, List.length_cons, List.length_nil]; omega) (.slice none 0 0)).put 14 (by simp only [List.length_set, List.length_cons, List.length_nil]; omega) (.bool false)).put 15 (by simp only [List.length_set, List.length_cons, List.length_nil]; omega) (.bool false))
  have e : stpC i V F s c cap (m : Int) x vs vc fs fc (.slice none 0 0) false false = [.int .i64 i.k, .int .i64 i.tgt, .int .i64 i.a, .int .i64 i.b, .int .i64 i.n, .int .i64 i.g, .int .i64 V, .int .i64 F, .slice (some ⟨cb0, co, none⟩) c.length cap, .int .i64 (m : Int), .bool false, .slice vs x.vars.length vc, .slice fs x.flds.length fc, .slice none 0 0, .bool false, .bool false] := by unfold stpC; rw [HNX.out, HES.out]
  rw [e]
  simp only [List.set_cons_zero, List.set_cons_succ] at h
  exact h
 have B4 : Below sb w2 ((((((((((((((((w3.setCell ⟨sb, 0, none⟩ (.int .i64 i.k)).setCell ⟨sb, 1, none⟩ (.int .i64 i.tgt)).setCell ⟨sb, 2, none⟩ (.int .i64 i.a)).setCell ⟨sb, 3, none⟩ (.int .i64 i.b)).setCell ⟨sb, 4, none⟩ (.int .i64 i.n)).setCell ⟨sb, 5, none⟩ (.int .i64 i.g)).setCell ⟨sb, 6, none⟩ (.int .i64 V)).setCell ⟨sb, 7, none⟩ (.int .i64 F)).setCell ⟨sb, 8, none⟩ (.slice (some ⟨cb0, co, none⟩) c.length cap)).setCell ⟨sb, 9, none⟩ (.int .i64 (m : Int))).setCell ⟨sb, 10, none⟩ (.bool false)).setCell ⟨sb, 11, none⟩ (.slice vs x.vars.length vc)).setCell ⟨sb, 12, none⟩ (.slice fs x.flds.length fc)).setCell ⟨sb, 13, none⟩ (.slice none 0 0)).setCell ⟨sb, 14, none⟩ (.bool false)).setCell ⟨sb, 15, none⟩ (.bool false)) := ((((((((((((((((hb3.setCell (Nat.le_refl _) _).setCell (Nat.le_refl _) _).setCell (Nat.le_refl _) _).setCell (Nat.le_refl _) _).setCell (Nat.le_refl _) _).setCell (Nat.le_refl _) _).setCell (Nat.le_refl _) _).setCell (Nat.le_refl _) _).setCell (Nat.le_refl _) _).setCell (Nat.le_refl _) _).setCell (Nat.le_refl _) _).setCell (Nat.le_refl _) _).setCell (Nat.le_refl _) _).setCell (Nat.le_refl _) _).setCell (Nat.le_refl _) _).setCell (Nat.le_refl _) _)
 have hsb : w.heap.size ≤ sb := by have := B2.size; omega
 have BB := B2.trans (B4.mono hsb)
 clear S3 hb3 B4 HKZ P2 X2
 generalize ((((((((((((((((w3.setCell ⟨sb, 0, none⟩ (.int .i64 i.k)).setCell ⟨sb, 1, none⟩ (.int .i64 i.tgt)).setCell ⟨sb, 2, none⟩ (.int .i64 i.a)).setCell ⟨sb, 3, none⟩ (.int .i64 i.b)).setCell ⟨sb, 4, none⟩ (.int .i64 i.n)).setCell ⟨sb, 5, none⟩ (.int .i64 i.g)).setCell ⟨sb, 6, none⟩ (.int .i64 V)).setCell ⟨sb, 7, none⟩ (.int .i64 F)).setCell ⟨sb, 8, none⟩ (.slice (some ⟨cb0, co, none⟩) c.length cap)).setCell ⟨sb, 9, none⟩ (.int .i64 (m : Int))).setCell ⟨sb, 10, none⟩ (.bool false)).setCell ⟨sb, 11, none⟩ (.slice vs x.vars.length vc)).setCell ⟨sb, 12, none⟩ (.slice fs x.flds.length fc)).setCell ⟨sb, 13, none⟩ (.slice none 0 0)).setCell ⟨sb, 14, none⟩ (.bool false)).setCell ⟨sb, 15, none⟩ (.bool false)) = w4 at *
 go_wp2_with (go_at_call 18; fail)
 refine (HST.out sb w4 C4 hsb BB).mono ?_
 rintro e w5 ⟨rfl, ⟨ev, QL, C5, E5, eq5⟩, hb5⟩
 rw [List.nil_append] at E5
 obtain ⟨es, ec, rfl, -, -⟩ := E5.form
 have hd : Below w5.heap.size w5 w5.drew := (Below.refl _ _).drew
 have CD := C5.call hd
 have ED := E5.call hd
 have BD := (BB.trans (hb5.mono hsb)).drew
 have HEQ := hideH eq5
 clear C5 E5 C4 HST eq5
 go_upto_region 10 with fail
 refine wp_region_z (S := (fun wx => wx.cell? ⟨sb, 13, none⟩ = some (.slice es QL.length ec) ∧ wx.cell? ⟨sb, 14, none⟩ = some (.bool wr) ∧ wx.cell? ⟨sb, 15, none⟩ = some (.bool fl))) [] (by kernel_rfl) ⟨CD.1 13 _ rfl, CD.1 14 _ rfl, CD.1 15 _ rfl⟩ (fun hHeld => ?_)
 refine tZ 0 ?_ ?_;refine sm ?_
 refine tZ 1 ?_ ?_;refine sm ?_
 refine tZ 2 ?_ ?_;refine sm ?_
 refine tZ 3 ?_ ?_;refine sm ?_
 refine tZ 4 ?_ ?_;refine sm ?_
 refine tZ 5 ?_ ?_;refine sm ?_
 refine tZ 6 ?_ ?_;refine sm ?_
 refine tZ 7 ?_ ?_;refine sm ?_
 refine tZ 8 ?_ ?_;refine sm ?_
 refine tZ 9 ?_ ?_;refine sm ?_
 refine wpAnyZ_done (by kernel_rfl) ?_ _
 go_wp2
 have hl : QL.length = SL.length := by rw [← HEQ.out]; simp
 refine bodyPost_ret (v := .tuple #[.slice es QL.length ec, .bool wr, .bool fl, .int .i64 0]) (by simp [results, Tryz.results5, go_sem]) rfl ⟨⟨es, ec, by rw [hl], ?_⟩, BD⟩
 have h := ED.eds
 rw [HEQ.out] at h
 exact h.mono fun b hb _ => by omega
/-- Step, whatever it is handed. -/
theorem stepF_any (V F : Int) (s : Option Addr) (c : List Ins) (cap : Nat) (at_ : Int) (x : Pic) (vs : Option Addr) (vc : Nat) (fs : Option Addr) (fc : Nat) (w : World) (hc : CodeAt w s c) (hx : PicAt w x vs fs) (h1 : x.vars.length ≤ vc ∧ vc ≤ maxLen) (h2 : x.flds.length ≤ fc ∧ fc ≤ maxLen) :
  Calls Tryz.prog 5 #[pv V F s c cap, .int .i64 at_, xv x vs vc fs fc] w fun e w' => StpE w.heap.size w' e (stepA V F c at_ x) (stepE V F c at_ x) ∧ Below w.heap.size w w' := by
 by_cases hu : ckPics V F c [x] = 0
 ·by_cases hr : at_ < 0 ∨ (c.length : Int) ≤ at_
  ·have e1 : stepE V F c at_ x = 5 := by unfold stepE; rw [if_pos hu, if_pos hr]
   have e2 : stepA V F c at_ x = ([], false, false) := by unfold stepA; rw [e1, if_neg (by decide)]
   rw [e1, e2]
   exact stepF_range V F s c cap at_ x vs vc fs fc w hc hx h1 h2 hu hr
  ·have e1 : stepE V F c at_ x = 0 := by unfold stepE; rw [if_pos hu, if_neg hr]
   have e2 : stepA V F c at_ x = stepPic (insAt c at_) at_ x := by unfold stepA; rw [e1, if_pos rfl]
   rw [e1, e2]
   by_cases hn : x.none = true
   ·have e3 : stepPic (insAt c at_) at_ x = ([], false, false) := by unfold stepPic; rw [if_pos hn]
    rw [e3]
    exact stepF_none V F s c cap at_ x vs vc fs fc w hc hx h1 h2 hu hr hn
   ·exact stepF_ok V F s c cap at_ x vs vc fs fc w hc hx h1 h2 hu hr (by simpa using hn)
 ·have e1 : stepE V F c at_ x = ckPics V F c [x] := by unfold stepE; rw [if_neg hu]
  have e2 : stepA V F c at_ x = ([], false, false) := by unfold stepA; rw [e1, if_neg hu]
  rw [e1, e2]
  exact stepF_err V F s c cap at_ x vs vc fs fc w hc hx h1 h2 hu
end
section
set_option maxHeartbeats 8000000
set_option maxRecDepth 20000
open Go.RowKit
attribute [local go_sem ↓] Go.wp_at_zero Go.wp_at_succ

def begQ : Pic := ⟨false, [nullG], [[], []]⟩
theorem begunBeginS (b : Nat) (w : World) (hc : CodeAt w (some ⟨b, 0, none⟩) smallC) :
  Calls Tryz.prog 29 #[pv 1 0 (some ⟨b, 0, none⟩) smallC 2] w fun e w' => ∃ vs vc fs fc, e = .returned (.tuple #[(.agg #[.bool false, .slice vs 1 vc, .slice fs 2 fc]), .int .i64 0]) ∧ PicAt w' begQ vs fs ∧ (1 ≤ vc ∧ vc ≤ maxLen) ∧ (2 ≤ fc ∧ fc ≤ maxLen) ∧ Below w.heap.size w w' := by
 have h := beginPU 1 0 (some ⟨b, 0, none⟩) smallC 2 w hc
 have e0 : ckProg 1 0 smallC = 0 := by decide +kernel
 rw [e0, if_pos rfl, show firstPic 1 0 smallC = begQ from rfl] at h
 refine h.mono ?_
 rintro e w' ⟨⟨vs, vc, fs, fc, rfl, hp, h2, h3⟩, hb⟩
 exact ⟨vs, vc, fs, fc, rfl, hp.at, h2, h3, hb⟩
/-- The one edge of the small program's first step, cell by cell. -/
def EdgeS (w : World) (es : Option Addr) : Prop := ∃ b off, es = some ⟨b, off, none⟩ ∧ ∃ vs vc vb vo, w.cell? ⟨b, off, none⟩ = some (.int .i64 1) ∧ w.cell? ⟨b, off + 2, none⟩ = some (.slice vs 1 vc) ∧ vs = some ⟨vb, vo, none⟩ ∧ w.cell? ⟨vb, vo + 1, none⟩ = some (.bool false) ∧ w.cell? ⟨vb, vo + 2, none⟩ = some (.int .i64 5) ∧ w.cell? ⟨vb, vo + 3, none⟩ = some (.int .i64 5)
theorem begunStep (b : Nat) (vs : Option Addr) (vc : Nat) (fs : Option Addr) (fc : Nat) (w : World) (hc : CodeAt w (some ⟨b, 0, none⟩) smallC) (hp : PicAt w begQ vs fs) (h1 : 1 ≤ vc ∧ vc ≤ maxLen) (h2 : 2 ≤ fc ∧ fc ≤ maxLen) :
  Calls Tryz.prog 5 #[pv 1 0 (some ⟨b, 0, none⟩) smallC 2, .int .i64 0, (.agg #[.bool false, .slice vs 1 vc, .slice fs 2 fc])] w fun e w' => (∃ es ec, e = .returned (.tuple #[.slice es 1 ec, .bool false, .bool false, .int .i64 0]) ∧ EdgeS w' es) ∧ Below w.heap.size w w' := by
 have h := stepF_any 1 0 (some ⟨b, 0, none⟩) smallC 2 0 begQ vs vc fs fc w hc hp h1 h2
 have e0 : stepE 1 0 smallC 0 begQ = 0 := by decide +kernel
 have e1 : stepA 1 0 smallC 0 begQ = ([⟨1, ⟨false, [⟨false, ⟨false, 5, 5⟩, false, false, []⟩], [[], []]⟩⟩], false, false) := by unfold stepA; rw [e0, if_pos rfl]; rfl
 rw [e0, e1] at h
 refine h.mono ?_
 rintro e w' ⟨⟨es, ec, rfl, hE⟩, hb⟩
 refine ⟨⟨es, ec, rfl, ?_⟩, hb⟩
 obtain ⟨b, off, e1, _, _, us, uc, gs, gc, ⟨c0, c1, c2, c3⟩, hP, _⟩ := hE 0 (by simp)
 obtain ⟨vb, vo, e2, ss, sc, ⟨⟨d0, d1, d2, d3, _⟩, _⟩, _⟩ := hP.at.1 0 (by simp)
 simp only [Nat.zero_mul, Nat.add_zero] at c0 c2 d1 d2 d3
 exact ⟨b, off, e1, us, uc, vb, vo, c0, c2, e2, d1, d2, d3⟩
theorem stepBegun_any (w : World) : Calls Tryz.prog 8 #[] w fun e w' => e = .returned (.bool true) ∧ Below w.heap.size w w' := by
 go_enter Tryz.func8, Tryz.ntmps8
 go_wp2_with (go_at_call 30; fail)
 refine (small_any _).mono ?_
 rintro e w1 ⟨b1, rfl, C1, hb1⟩
 go_wp2_with (go_at_call 29; fail)
 refine (begunBeginS _ _ C1).mono ?_
 rintro e w2 ⟨vs, vc, fs, fc, rfl, PX2, hv, hf, hb2⟩
 have B2 := hb1.trans (hb2.mono hb1.size)
 have hb3 : Below w2.heap.size w2 (w2.alloc (.cells #[.bool false, .slice vs 1 vc, .slice fs 2 fc] 28)) := by go_grown
 have X3' := X3.new w2 28 (.bool false) (.slice vs 1 vc) (.slice fs 2 fc)
 have PX3 := PX2.call hb3
 have B3 := B2.trans (hb3.mono B2.size)
 clear hb1 hb2 C1 PX2 B2 hb3
 go_upto_region 2 with fail
 generalize w2.alloc (.cells #[.bool false, .slice vs 1 vc, .slice fs 2 fc] 28) = w3 at *
 generalize w2.heap.size = xb at *
 have X4 : X3 w3.drew xb (.bool false) (.slice vs 1 vc) (.slice fs 2 fc) := X3'
 have PX4 : PicAt w3.drew begQ vs fs := PX3
 have B4 := B3.drew
 refine wp_region_held_drew (S := (fun wx => (wx.cell? ⟨xb, 0, none⟩ = some (.bool false) ∧ wx.cell? ⟨xb, 1, none⟩ = some (.slice vs 1 vc) ∧ wx.cell? ⟨xb, 2, none⟩ = some (.slice fs 2 fc)))) (by kernel_rfl) X4.1 (fun hHeld => ?_)
 clear X3' PX3 B3
 generalize w3.drew = w4 at *
 refine tH 1 ?_ ?_;refine sm ?_
 refine wpAnyH_ready (rs := [0]) (by kernel_rfl) (by simp) ?_
 refine AllReadyH.cons rfl (fun K hK => ?_) AllReadyH.nil
 go_simp
 refine (small_any _).mono ?_
 rintro e w5 ⟨b5, rfl, C5, hb5⟩
 have X5 := X4.call hb5
 have PX5 := PX4.call hb5
 have B5 := B4.trans (hb5.mono (B4.size))
 refine hK.out _ _ (X5.1) (fun hHeld5 => ?_)
 clear hK K hb5 X4 PX4 B4
 refine sm ?_
 refine wpAnyH_ready (rs := [2]) (by kernel_rfl) (by simp) ?_
 refine AllReadyH.cons rfl (fun K hK => ?_) AllReadyH.nil
 go_simp
 refine (begunStep _ vs vc fs fc w5 C5 PX5 hv hf).mono ?_
 rintro e w6 ⟨⟨es, ec, rfl, ES⟩, hb6⟩
 have X6 := X5.call hb6
 have PX6 := PX5.call hb6
 have C6 := C5.call hb6
 have B6 := B5.trans (hb6.mono (B5.size))
 refine hK.out _ _ (X6.1) (fun hHeld6 => ?_)
 clear hK K hb6 X5 PX5 C5 B5
 refine sm ?_
 refine tH 3 ?_ ?_;refine sm ?_
 refine tH 4 ?_ ?_;refine sm ?_
 refine tH 5 ?_ ?_;refine sm ?_
 refine tH 6 ?_ ?_;refine sm ?_
 refine tH 7 ?_ ?_;refine sm ?_
 refine tH 8 ?_ ?_;refine sm ?_
 refine tH 9 ?_ ?_;refine sm ?_
 refine tH 10 ?_ ?_;refine sm ?_
 refine tH 11 ?_ ?_;refine sm ?_
 refine wpAnyH_done (by kernel_rfl) ?_ _
 obtain ⟨eb, eo, rfl, us, uc, vb, vo, k0, k2, rfl, d1, d2, d3⟩ := ES
 go_wp2
 refine bodyPost_ret (v := .bool true) (by kernel_rfl) rfl ⟨rfl, B6⟩
end
section
set_option maxHeartbeats 8000000
set_option maxRecDepth 20000
open Go.RowKit
attribute [local go_sem ↓] Go.wp_at_zero Go.wp_at_succ

theorem stepPic_len (i : Ins) (at_ : Int) (x : Pic) : (stepPic i at_ x).1.length ≤ 2 := by
 unfold stepPic
 repeat' split
 all_goals simp
 all_goals (repeat' split)
 all_goals simp
theorem stepA_len (V F : Int) (c : List Ins) (at_ : Int) (x : Pic) : (stepA V F c at_ x).1.length ≤ 2 := by
 unfold stepA
 split
 ·exact stepPic_len _ _ _
 ·exact Nat.zero_le _
theorem stepSteps_any (V F : Int) (s : Option Addr) (c : List Ins) (cap : Nat) (at_ : Int) (x : Pic) (vs : Option Addr) (vc : Nat) (fs : Option Addr) (fc : Nat) (w : World) (hcd : CodeAt w s c) (hx : PicAt w x vs fs) (h1 : x.vars.length ≤ vc ∧ vc ≤ maxLen) (h2 : x.flds.length ≤ fc ∧ fc ≤ maxLen) :
  Calls Tryz.prog 3 #[pv V F s c cap, .int .i64 at_, xv x vs vc fs fc] w fun e w' => e = .returned (.bool true) ∧ Below w.heap.size w w' := by
 obtain ⟨⟨l, ra, rb⟩, hr⟩ : ∃ r, r = stepA V F c at_ x := ⟨_, rfl⟩
 obtain ⟨er, her⟩ : ∃ q, q = stepE V F c at_ x := ⟨_, rfl⟩
 obtain ⟨u, hu⟩ : ∃ q, q = ckPics V F c [x] := ⟨_, rfl⟩
 have HLE : Hid (l.length ≤ maxLen) := by show _ ≤ _; have h := stepA_len V F c at_ x; rw [← hr] at h; have h : l.length ≤ 2 := h; unfold maxLen; omega
 have HSF : Hid (∀ wx, CodeAt wx s c → PicAt wx x vs fs → Calls Tryz.prog 5 #[pv V F s c cap, .int .i64 at_, xv x vs vc fs fc] wx fun e w' => (∃ es ec, e = .returned (.tuple #[.slice es l.length ec, .bool ra, .bool rb, .int .i64 er]) ∧ EdsOn (fun b => wx.heap.size ≤ b) w' es l) ∧ Below wx.heap.size wx w') := fun wx q1 q2 => by
  have h := stepF_any V F s c cap at_ x vs vc fs fc wx q1 q2 h1 h2
  rw [← hr, ← her] at h
  exact h
 have HCP : Hid (∀ wx ls, CodeAt wx s c → XsAt wx ls [x] → Calls Tryz.prog 6 #[pv V F s c cap, .slice ls 1 1] wx fun e w' => e = .returned (.int .i64 u) ∧ Below wx.heap.size wx w') := fun wx ls q1 q2 => by
  rw [hu]
  exact checkPictures_any V F s c cap ls [x] 1 wx q1 q2 (by simp)
 have HSP : Hid (er = 0 → ∀ wx, CodeAt wx s c → PicAt wx x vs fs → Calls Tryz.prog 7 #[pv V F s c cap, .int .i64 at_, xv x vs vc fs fc] wx fun e w' => (∃ es ec, e = .returned (.tuple #[.slice es l.length ec, .bool ra, .bool rb]) ∧ EdsOn (fun _ => True) w' es l) ∧ Below wx.heap.size wx w') := by
  show _ → _
  intro h0 wx q1 q2
  have e1 : stepE V F c at_ x = 0 := by rw [← her]; exact h0
  have hu0 : ckPics V F c [x] = 0 := by
   by_cases h : ckPics V F c [x] = 0
   ·exact h
   ·unfold stepE at e1; rw [if_neg h] at e1; exact absurd e1 h
  have hrg : ¬ (at_ < 0 ∨ (c.length : Int) ≤ at_) := fun h => by unfold stepE at e1; rw [if_pos hu0, if_pos h] at e1; cases e1
  obtain ⟨k0, k1⟩ := ckPics_one hu0
  have e2 : (l, ra, rb) = stepPic (insAt c at_) at_ x := by rw [hr]; unfold stepA; rw [if_pos e1]
  have h := stepP_any (fun _ => True) V F s c cap at_ x vs vc fs fc wx q1 (fun w2 h2 hz => q2.same (fun b hb => h2 b trivial hb) hz) k0 k1 (by omega) (by omega) h1 h2
  rw [← e2] at h
  refine h.mono ?_
  rintro e w' ⟨⟨es, ec, rfl, hE⟩, hb⟩
  exact ⟨⟨es, ec, rfl, hE.mono fun _ _ _ => trivial⟩, hb⟩
 have HR0 : Hid (er ≠ 0 → (l, ra, rb) = ([], false, false)) := fun h => by rw [hr]; unfold stepA; rw [if_neg (by rw [← her]; exact h)]
 have HER : Hid (er = if u = 0 then (if at_ < 0 ∨ (c.length : Int) ≤ at_ then 5 else 0) else u) := by show _ = _; rw [her, hu]; rfl
 clear hr her hu
 obtain ⟨bb, hbb⟩ : ∃ b, b = (decide (u = 0) && (decide (at_ < 0) || decide ((c.length : Int) ≤ at_))) := ⟨_, rfl⟩
 have HBB : Hid ((bb = true → er = 5) ∧ (bb = false → er = u)) := by
  show _ ∧ _
  rw [hbb, HER.out]
  by_cases e1 : u = 0
  ·by_cases e2 : at_ < 0 ∨ (c.length : Int) ≤ at_
   ·simp [e1, e2]
    try omega
   ·simp [e1, e2]
    try omega
  ·simp [e1]
 have HB := hideH hbb
 clear hbb
 have HXN := hideH (fun wx (q : PicAt wx x vs fs) => XsAt.new1 wx x vs vc fs fc q h1 h2)
 have B0 : Below w.heap.size w ((w.alloc (.cells #[.int .i64 V, .int .i64 F, .slice s c.length cap] 24)).alloc (.cells #[.bool x.none, .slice vs x.vars.length vc, .slice fs x.flds.length fc] 28)) := by go_grown
 have P0 := (PrAt.new w V F s c cap).call (w' := (w.alloc (.cells #[.int .i64 V, .int .i64 F, .slice s c.length cap] 24)).alloc (.cells #[.bool x.none, .slice vs x.vars.length vc, .slice fs x.flds.length fc] 28)) (by go_grown)
 have A0 := XAt.new (w.alloc (.cells #[.int .i64 V, .int .i64 F, .slice s c.length cap] 24)) x vs vc fs fc
 rw [World.size_alloc] at A0
 have C0 := hcd.below B0 (Nat.le_refl _)
 have X0 := hx.below B0 (Nat.le_refl _)
 clear hcd hx h1 h2
 go_enter Tryz.func3, Tryz.ntmps3
 go_upto_region 1 with fail
 generalize (w.alloc (.cells #[.int .i64 V, .int .i64 F, .slice s c.length cap] 24)).alloc (.cells #[.bool x.none, .slice vs x.vars.length vc, .slice fs x.flds.length fc] 28) = w0 at *
 obtain ⟨⟨p0, p1, p2⟩, pz⟩ := id P0
 obtain ⟨⟨a0, a1, a2⟩, az, -⟩ := id A0
 go_wp2_with (go_at_call 5; fail)
 refine (HSF.out w0 C0 X0).mono ?_
 rintro e w1 ⟨⟨es, ec, rfl, E1⟩, hb1⟩
 have B1 := B0.trans (hb1.mono B0.size)
 have P1 := P0.call hb1
 have A1 := A0.call hb1
 have C1 := C0.call hb1
 have X1 := X0.call hb1
 clear p0 p1 p2 pz a0 a1 a2 az B0 hb1 P0 A0 C0 X0
 have hba : Below w1.heap.size w1 (w1.alloc (.cells #[.bool x.none, .slice vs x.vars.length vc, .slice fs x.flds.length fc] 28)) := by go_grown
 have XS := HXN.out w1 X1
 obtain ⟨⟨p0, p1, p2⟩, pz⟩ := id P1
 obtain ⟨⟨a0, a1, a2⟩, az, -⟩ := id A1
 go_wp2_with (go_at_call 6; fail)
 refine (HCP.out _ _ (C1.call hba) XS).mono ?_
 rintro e w2 ⟨rfl, hbc⟩
 have hb2 := hba.trans (hbc.mono hba.size)
 clear p0 p1 p2 pz a0 a1 a2 az XS hba hbc
 have B2 := B1.trans (hb2.mono B1.size)
 have P2 := P1.call hb2
 have A2 := A1.call hb2
 have C2 := C1.call hb2
 have X2 := X1.call hb2
 have E2 := E1.call hb2
 clear B1 hb2 P1 A1 C1 X1 E1
 obtain ⟨⟨p0, p1, p2⟩, pz⟩ := id P2
 obtain ⟨⟨a0, a1, a2⟩, az, -⟩ := id A2
 go_upto_region 3 with fail
 go_cut [40] (fun t40 wc => t40 = .bool bb ∧ wc = w2)
 case first =>
  by_cases e1 : u = 0
  ·have f1 : (u == 0) = true := by simpa using e1
   by_cases e2 : at_ < 0
   ·have HE := hideH (And.intro e1 e2)
    clear e1
    go_wp2_with fail
    go_meet
    exact ⟨by rw [HB.out]; simp [HE.out.1, HE.out.2], rfl⟩
   ·by_cases e3 : (c.length : Int) ≤ at_
    ·have HE := hideH (And.intro e1 (And.intro e2 e3))
     clear e1
     go_wp2_with fail
     go_meet
     exact ⟨by rw [HB.out]; simp [HE.out.1, HE.out.2.2], rfl⟩
    ·have HE := hideH (And.intro e1 (And.intro e2 e3))
     clear e1
     go_wp2_with fail
     go_meet
     exact ⟨by rw [HB.out]; simp [HE.out.1, HE.out.2.1, HE.out.2.2], rfl⟩
  ·have f1 : (u == 0) = false := by simpa using e1
   have HE := hideH e1
   clear e1
   go_wp2_with fail
   go_meet
   exact ⟨by rw [HB.out]; simp [HE.out], rfl⟩
 obtain ⟨rfl, rfl⟩ := hcut
 go_upto_if 40 with fail
 generalize wc = wx at *
 clear wc
 go_cut [11] (fun t11 wc => t11 = .int .i64 er ∧ wc = wx)
 case first =>
  rcases Bool.eq_false_or_eq_true bb with hs0 | hs0
  ·refine wp_cond_split (congrArg Value.bool hs0) (fun _ => ?_) (fun h => by cases h)
   have HE := hideH hs0
   clear hs0
   go_wp2_with fail
   go_meet
   exact ⟨by rw [HBB.out.1 HE.out], rfl⟩
  ·refine wp_cond_split (congrArg Value.bool hs0) (fun h => by cases h) (fun _ => ?_)
   have HE := hideH hs0
   clear hs0
   go_wp2_with fail
   go_meet
   exact ⟨by rw [HBB.out.2 HE.out], rfl⟩
 obtain ⟨rfl, rfl⟩ := hcut
 clear p0 p1 p2 pz a0 a1 a2 az
 generalize wc = wy at *
 clear wc
 go_upto_if 42 with fail
 go_cut [12, 13, 14] (fun t12 t13 t14 wc => ∃ es2 ec2, t12 = .slice es2 l.length ec2 ∧ t13 = .bool ra ∧ t14 = .bool rb ∧ EdsOn (fun _ => True) wc es2 l ∧ Below wy.heap.size wy wc)
 case first =>
  rcases Bool.eq_false_or_eq_true (er == 0) with hs0 | hs0
  ·refine wp_cond_split (congrArg Value.bool hs0) (fun _ => ?_) (fun h => by cases h)
   have HS := hideH (HSP.out (by simpa using hs0) wy C2 X2)
   clear hs0
   obtain ⟨⟨p0, p1, p2⟩, pz⟩ := id P2
   obtain ⟨⟨a0, a1, a2⟩, az, -⟩ := id A2
   go_wp2_with (go_at_call 7; fail)
   refine HS.out.mono ?_
   rintro e w3 ⟨⟨es2, ec2, rfl, E3⟩, hb3⟩
   go_wp2_with fail
   go_meet
   exact ⟨es2, ec2, rfl, rfl, rfl, E3, hb3⟩
  ·refine wp_cond_split (congrArg Value.bool hs0) (fun h => by cases h) (fun _ => ?_)
   have HE := hideH (HR0.out (by simpa using hs0))
   clear hs0
   go_wp2_with fail
   go_meet
   have h := HE.out
   simp only [Prod.mk.injEq] at h
   obtain ⟨q1, q2, q3⟩ := h
   exact ⟨none, 0, by rw [q1]; rfl, by rw [q2], by rw [q3], by rw [q1]; exact EdsOn.nil, Below.refl _ _⟩
 obtain ⟨es2, ec2, rfl, rfl, rfl, E3, hb3⟩ := hcut
 have E4 := E2.call hb3
 have B3 := B2.trans (hb3.mono B2.size)
 clear E2 B2 P2 A2 C2 X2 hb3
 go_wp2_with (go_at_call 8; fail)
 refine (stepBegun_any wc).mono ?_
 rintro e w4 ⟨rfl, hb4⟩
 go_wp2_with (go_at_call 9; fail)
 refine (sameEdges_any l es ec es2 ec2 w4 HLE.out (E4.call hb4) (E3.call hb4)).mono ?_
 rintro e w5 ⟨rfl, hb5⟩
 go_wp2
 go_ret
 exact ⟨rfl, (B3.trans (hb4.mono B3.size)).trans (hb5.mono (B3.trans (hb4.mono B3.size)).size)⟩
end
end Go.Proofs.YtmapdpcfanecdabGreat
