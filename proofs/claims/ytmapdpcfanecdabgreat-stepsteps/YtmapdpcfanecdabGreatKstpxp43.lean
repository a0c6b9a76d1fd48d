/- Edges as the document's step answers them; what a picture lies on, told cell by cell. -/
import Derived.Test.YtmapdpcfanecdabGreatKstpxp42
import Derived.Test.YtmapdpcfanecdabGreatKstpxp07
import Derived.Deep.RegionHeld
import Derived.WalkKit
import Derived.WalkSpells
import Derived.WalkLawsBesides
import Derived.Handy
import Derived.Deep.DeepCutAuto
import Derived.Test.YtmapdpcfanecdabGreatKstpxp01
import Derived.Deep.AppendLies
import Derived.Test.YtmapdpcfanecdabGreatKstpxp06
import Derived.Test.YtmapdpcfanecdabGreatKstpxp13
import Derived.Test.YtmapdpcfanecdabGreatKstpxp20
import Derived.OwnWalk
import Derived.Deep.DrawnRows
set_option linter.unusedSimpArgs false
set_option linter.unusedVariables false
namespace Go.Proofs.YtmapdpcfanecdabGreat
section
set_option maxHeartbeats 4000000
set_option maxRecDepth 100000
open Go.RowKit
attribute [local go_sem ↓] Go.wp_at_zero Go.wp_at_succ

theorem step_11 (sb : Nat) (i : Ins) (V F : Int) (s : Option Addr) (c : List Ins) (cap : Nat) (at_ : Int) (x : Pic) (vs : Option Addr) (vc : Nat) (fs : Option Addr) (fc : Nat) (w0 w : World) (hS : Cells w sb (stpC i V F s c cap at_ x vs vc fs fc (.slice none 0 0) false false)) (hc0 : CodeAt w0 s c) (hx0 : PicAt w0 x vs fs) (hz0 : w0.heap.size ≤ sb) (hB0 : Below w0.heap.size w0 w) (K : SCtx V F c x vc fc i at_) (hk : i.k = 11) :
  Calls Tryz.prog 18 #[.pointer (some ⟨sb, 0, none⟩)] w fun e w' => e = .returned (.tuple #[]) ∧ EdgAns sb w' (fun ev' => stpC i V F s c cap at_ x vs vc fs fc ev' false false) [] ([⟨at_ + 1, (setVar (newPic at_ x) i.to ⟨false, ⟨true, 0, 0⟩, false, false, [at_]⟩)⟩]) ∧ Below sb w w' := by
 have hm : ∃ m : Nat, at_ = m ∧ m < x.flds.length := by
  obtain ⟨m, em⟩ := Int.eq_ofNat_of_zero_le K.a0
  have h1 := K.a1
  have h2 := K.kx.flds
  exact ⟨m, em, by omega⟩
 have HC := hideH (makeThing_of (setVar (newPic at_ x) i.to ⟨false, ⟨true, 0, 0⟩, false, false, [at_]⟩) [] none 0 sb i V F s c cap at_ x vs vc fs fc false false w0 w hS hc0 hx0 hz0 hB0 K (ERow.nil sb sb w) (by simp) (fun wx hb hs hp => ch_new sb sb _ i V F s c cap at_ x vs vc fs fc _ false false w.heap.size wx hs hp (K.varTo (by rw [hk]; rfl)) hm (Nat.le_of_lt (Nat.lt_of_lt_of_le hS.2.1 hb.size)) (fun b h => by cases h)))
 have s0 := hS.1 0 _ rfl
 rw [hk] at s0
 clear hS hc0 hx0 hB0 K hz0 hk
 go_enter Tryz.func18, Tryz.ntmps18
 go_wp2_with (go_at_call 44; fail)
 refine HC.out.mono ?_
 rintro e w1 ⟨rfl, HA0, hb1⟩
 have HA := hideH HA0
 clear HA0 HC s0
 go_wp2
 first | go_end0 | refine bodyPost_ret (results_none rfl _ _ _) rfl ?_
 exact ⟨rfl, HA.out, hb1⟩
theorem step_13 (sb : Nat) (i : Ins) (V F : Int) (s : Option Addr) (c : List Ins) (cap : Nat) (at_ : Int) (x : Pic) (vs : Option Addr) (vc : Nat) (fs : Option Addr) (fc : Nat) (w0 w : World) (hS : Cells w sb (stpC i V F s c cap at_ x vs vc fs fc (.slice none 0 0) false false)) (hc0 : CodeAt w0 s c) (hx0 : PicAt w0 x vs fs) (hz0 : w0.heap.size ≤ sb) (hB0 : Below w0.heap.size w0 w) (K : SCtx V F c x vc fc i at_) (hk : i.k = 13) :
  Calls Tryz.prog 18 #[.pointer (some ⟨sb, 0, none⟩)] w fun e w' => e = .returned (.tuple #[]) ∧ EdgAns sb w' (fun ev' => stpC i V F s c cap at_ x vs vc fs fc ev' (noThing (gAt x i.a)) false) [] (if (gAt x i.a).s.length = 0 then [] else [⟨at_ + 1, (putPic x i.n (gAt x i.b) (gAt x i.a).s)⟩]) ∧ Below sb w w' := by
 obtain ⟨LST, hlst⟩ : ∃ q : List Edg, q = if (gAt x i.a).s.length = 0 then [] else [⟨at_ + 1, (putPic x i.n (gAt x i.b) (gAt x i.a).s)⟩] := ⟨_, rfl⟩
 rw [← hlst]
 have HLS := hideH hlst
 clear hlst
 have hN : ∃ p : Nat, i.n = p ∧ (p : Int) < F := by
  have hn := (ckOne_parts K.one).2.2.2.2.1 (.inr hk)
  obtain ⟨p, ep⟩ := Int.eq_ofNat_of_zero_le hn.1
  exact ⟨p, ep, by omega⟩
 have HC := hideH (put_of (putPic x i.n (gAt x i.b) (gAt x i.a).s) [] none 0 sb i V F s c cap at_ x vs vc fs fc false false w0 w hS hc0 hx0 hz0 hB0 K (ERow.nil sb sb w) (by simp) (by rw [hk]; rfl) (fun wx ss gc tb hb hs hp hq hi => ch_put sb sb _ i V F s c cap at_ x vs vc fs fc _ _ false tb w.heap.size ss gc w0 wx hs hp hq hc0 hx0 hi hb K (by rw [hk]; rfl) (by rw [hk]; rfl) hN (Nat.le_of_lt hs.2.1) (fun b h => by cases h)))
 have s0 := hS.1 0 _ rfl
 rw [hk] at s0
 clear hS hc0 hx0 hB0 K hz0 hk
 go_enter Tryz.func18, Tryz.ntmps18
 go_wp2_with (go_at_call 45; fail)
 refine HC.out.mono ?_
 rintro e w1 ⟨rfl, HA0, hb1⟩
 have HA := hideH HA0
 clear HA0 HC s0
 go_wp2
 first | go_end0 | refine bodyPost_ret (results_none rfl _ _ _) rfl ?_
 exact ⟨rfl, by rw [HLS.out]; exact HA.out, hb1⟩
theorem step_15 (sb : Nat) (i : Ins) (V F : Int) (s : Option Addr) (c : List Ins) (cap : Nat) (at_ : Int) (x : Pic) (vs : Option Addr) (vc : Nat) (fs : Option Addr) (fc : Nat) (w0 w : World) (hS : Cells w sb (stpC i V F s c cap at_ x vs vc fs fc (.slice none 0 0) false false)) (hc0 : CodeAt w0 s c) (hx0 : PicAt w0 x vs fs) (hz0 : w0.heap.size ≤ sb) (hB0 : Below w0.heap.size w0 w) (K : SCtx V F c x vc fc i at_) (hk : i.k = 15) :
  Calls Tryz.prog 18 #[.pointer (some ⟨sb, 0, none⟩)] w fun e w' => e = .returned (.tuple #[]) ∧ EdgAns sb w' (fun ev' => stpC i V F s c cap at_ x vs vc fs fc ev' false false) [] ((if yesGs (gAt x i.a) then [⟨i.g, setVar x i.a (trueGs (gAt x i.a))⟩] else []) ++ (if noGs (gAt x i.a) then [⟨at_ + 1, setVar x i.a (falseGs (gAt x i.a))⟩] else [])) ∧ Below sb w w' := by
 obtain ⟨LST, hlst⟩ : ∃ q : List Edg, q = (if yesGs (gAt x i.a) then [⟨i.g, setVar x i.a (trueGs (gAt x i.a))⟩] else []) ++ (if noGs (gAt x i.a) then [⟨at_ + 1, setVar x i.a (falseGs (gAt x i.a))⟩] else []) := ⟨_, rfl⟩
 rw [← hlst]
 have HLS := hideH hlst
 clear hlst
 have ha0 := K.a0
 have ha1 : at_ ≤ 1000 := by have := K.a1; have := K.lens; omega
 have HC := hideH (onTrue_any i.g [] none 0 sb i V F s c cap at_ x vs vc fs fc false false w0 w hS hc0 hx0 hz0 hB0 K (ERow.nil sb sb w) (by simp) (by rw [hk]; rfl))
 have hA : nA i.k = true := by rw [hk]; rfl
 have s0 := hS.1 0 _ rfl
 rw [hk] at s0
 have s5 := hS.1 5 _ rfl
 have HH := hideH (And.intro hc0 (And.intro hx0 (And.intro hz0 (And.intro hB0 (And.intro K hA)))))
 clear hS hc0 hx0 hB0 K hz0 hk hA
 go_enter Tryz.func18, Tryz.ntmps18
 go_wp2_with (go_at_call 46; fail)
 refine HC.out.mono ?_
 rintro e w1 ⟨rfl, HA0, hb1⟩
 obtain ⟨hc0, hx0, hz0, hB0, K, hA⟩ := HH.out
 obtain ⟨ev, QL, C1, E1, eq1⟩ := HA0
 rw [List.nil_append] at E1
 obtain ⟨es, ec, rfl, -, -⟩ := E1.form
 have hq : QL.length ≤ 10 := by
  have h := congrArg List.length eq1
  rw [List.length_map] at h
  rw [h]
  split <;> simp
 have hB1 := hB0.trans (hb1.mono hz0)
 have HN := hideH (onFalse_any (at_ + 1) QL es ec sb i V F s c cap at_ x vs vc fs fc false false w0 w1 C1 hc0 hx0 hz0 hB1 K E1 hq hA)
 have HQ := hideH eq1
 have HC1 := hideH C1
 clear C1 E1 eq1 HC HH hc0 hx0 hz0 hB0 K hA hB1 hq s0 s5
 go_wp2_with (go_at_call 48; fail)
 refine (next_any sb at_ _ w1 HC1.out rfl ha0 ha1).mono ?_
 rintro e wz ⟨rfl, ew⟩
 rw [ew]
 clear ew wz
 go_wp2_with (go_at_call 47; fail)
 refine HN.out.mono ?_
 rintro e w2 ⟨rfl, ⟨ev2, QL2, C2, E2, eq2⟩, hb2⟩
 have HF : Hid (EdgAns sb w2 (fun ev' => stpC i V F s c cap at_ x vs vc fs fc ev' false false) [] ((if yesGs (gAt x i.a) then [⟨i.g, setVar x i.a (trueGs (gAt x i.a))⟩] else []) ++ (if noGs (gAt x i.a) then [⟨at_ + 1, setVar x i.a (falseGs (gAt x i.a))⟩] else []))) := ⟨ev2, QL ++ QL2, C2, by rw [List.nil_append]; exact E2, by rw [List.map_append, HQ.out, eq2]⟩
 clear C2 E2 eq2 HN HC1 HQ
 go_wp2
 first | go_end0 | refine bodyPost_ret (results_none rfl _ _ _) rfl ?_
 exact ⟨rfl, by rw [HLS.out]; exact HF.out, hb1.trans hb2⟩
theorem prf_2dd062 {p : Prop} (h : p := by
 go_wp2_with (go_at_call 49; fail)
 refine (HC.out w rfl).mono ?_
 rintro e w1 ⟨rfl, HA0, hb1⟩
 have HA := hideH HA0
 clear HA0 HC s0
 go_wp2
 first | go_end0 | refine bodyPost_ret (results_none rfl _ _ _) rfl ?_
 exact ⟨rfl, HA.out, hb1⟩) : p := h
theorem step_16 (sb : Nat) (i : Ins) (V F : Int) (s : Option Addr) (c : List Ins) (cap : Nat) (at_ : Int) (x : Pic) (vs : Option Addr) (vc : Nat) (fs : Option Addr) (fc : Nat) (w0 w : World) (hS : Cells w sb (stpC i V F s c cap at_ x vs vc fs fc (.slice none 0 0) false false)) (hc0 : CodeAt w0 s c) (hx0 : PicAt w0 x vs fs) (hz0 : w0.heap.size ≤ sb) (hB0 : Below w0.heap.size w0 w) (K : SCtx V F c x vc fc i at_) (hk : i.k = 16) :
  Calls Tryz.prog 18 #[.pointer (some ⟨sb, 0, none⟩)] w fun e w' => e = .returned (.tuple #[]) ∧ EdgAns sb w' (fun ev' => stpC i V F s c cap at_ x vs vc fs fc ev' false false) [] ([⟨i.g, x⟩]) ∧ Below sb w w' := by
 have HC : Hid (∀ wx, wx = w → Calls Tryz.prog 49 #[.pointer (some ⟨sb, 0, none⟩), .int .i64 (i.g), .func (.func 50) #[] #[]] wx fun e w' => e = .returned (.tuple #[]) ∧ EdgAns sb w' (fun ev' => stpC i V F s c cap at_ x vs vc fs fc ev' false false) [] [⟨i.g, x⟩] ∧ Below sb wx w') := fun wx hw => by
  subst hw
  refine (edge_goto sb (i.g) x [] none 0 sb i V F s c cap at_ x vs vc fs fc false false w0 wx hS hc0 hx0 hz0 hB0 K rfl (ERow.nil sb sb wx) (by simp) (ch_goto sb sb _ wx x)).mono ?_
  rintro e w' ⟨h1, ⟨ev', q, h2, h3, h4⟩, h5⟩
  exact ⟨h1, ⟨ev', [q], h2, h3, by simp [h4]⟩, h5⟩
 have s0 := hS.1 0 _ rfl
 rw [hk] at s0
 have s5 := hS.1 5 _ rfl
 clear hS hc0 hx0 hB0 K hz0 hk
 go_enter Tryz.func18, Tryz.ntmps18
 exact prf_2dd062
theorem step_17 (sb : Nat) (i : Ins) (V F : Int) (s : Option Addr) (c : List Ins) (cap : Nat) (at_ : Int) (x : Pic) (vs : Option Addr) (vc : Nat) (fs : Option Addr) (fc : Nat) (w0 w : World) (hS : Cells w sb (stpC i V F s c cap at_ x vs vc fs fc (.slice none 0 0) false false)) (hc0 : CodeAt w0 s c) (hx0 : PicAt w0 x vs fs) (hz0 : w0.heap.size ≤ sb) (hB0 : Below w0.heap.size w0 w) (K : SCtx V F c x vc fc i at_) (hk : i.k = 17) :
  Calls Tryz.prog 18 #[.pointer (some ⟨sb, 0, none⟩)] w fun e w' => e = .returned (.tuple #[]) ∧ EdgAns sb w' (fun ev' => stpC i V F s c cap at_ x vs vc fs fc ev' false (noGs (gAt x i.a))) [] ((if yesGs (gAt x i.a) then [⟨at_ + 1, setVar x i.a (trueGs (gAt x i.a))⟩] else [])) ∧ Below sb w w' := by
 obtain ⟨LST, hlst⟩ : ∃ q : List Edg, q = (if yesGs (gAt x i.a) then [⟨at_ + 1, setVar x i.a (trueGs (gAt x i.a))⟩] else []) := ⟨_, rfl⟩
 rw [← hlst]
 have HLS := hideH hlst
 clear hlst
 have ha0 := K.a0
 have ha1 : at_ ≤ 1000 := by have := K.a1; have := K.lens; omega
 have HC := hideH (onTrue_any (at_ + 1) [] none 0 sb i V F s c cap at_ x vs vc fs fc false false w0 w hS hc0 hx0 hz0 hB0 K (ERow.nil sb sb w) (by simp) (by rw [hk]; rfl))
 have hA : nA i.k = true := by rw [hk]; rfl
 have s0 := hS.1 0 _ rfl
 rw [hk] at s0
 have HSS := hideH hS
 have HH := hideH (And.intro hc0 (And.intro hx0 (And.intro hz0 (And.intro hB0 (And.intro K hA)))))
 clear hS hc0 hx0 hB0 K hz0 hk hA
 go_enter Tryz.func18, Tryz.ntmps18
 go_wp2_with (go_at_call 48; fail)
 refine (next_any sb at_ _ w HSS.out rfl ha0 ha1).mono ?_
 rintro e wz ⟨rfl, ew⟩
 rw [ew]
 clear ew wz
 go_wp2_with (go_at_call 46; fail)
 refine HC.out.mono ?_
 rintro e w1 ⟨rfl, HA0, hb1⟩
 obtain ⟨hc0, hx0, hz0, hB0, K, hA⟩ := HH.out
 obtain ⟨ev, QL, C1, E1, eq1⟩ := HA0
 rw [List.nil_append] at E1
 obtain ⟨es, ec, rfl, -, -⟩ := E1.form
 have hq : QL.length ≤ 10 := by
  have h := congrArg List.length eq1
  rw [List.length_map] at h
  rw [h]
  split <;> simp
 have hB1 := hB0.trans (hb1.mono hz0)
 have HT := hideH (truthS_any sb i V F s c cap at_ x vs vc fs fc _ false false w1 C1 (hc0.below hB1 (Nat.le_refl _)) (hx0.below hB1 (Nat.le_refl _)) K hA)
 have HQ := hideH eq1
 have HCE := hideH (And.intro C1 E1)
 clear C1 E1 eq1 HC HH hc0 hx0 hz0 hB0 K hA hB1 hq s0 HSS
 go_wp2_with (go_at_call 51; fail)
 refine HT.out.mono ?_
 rintro e w2 ⟨rfl, hb2⟩
 have C2 := HCE.out.1.call hb2
 have E2 := HCE.out.2.call hb2
 have s15 := C2.1 15 _ rfl
 have f15 := C2.2.2 15
 have HF : Hid (EdgAns sb (w2.setCell ⟨sb, 15, none⟩ (.bool (noGs (gAt x i.a)))) (fun ev' => stpC i V F s c cap at_ x vs vc fs fc ev' false (noGs (gAt x i.a))) [] (if yesGs (gAt x i.a) then [⟨at_ + 1, setVar x i.a (trueGs (gAt x i.a))⟩] else [])) := ⟨_, QL, C2.put 15 (by simp [stpC]) _, by rw [List.nil_append]; exact E2.same (fun b _ hne _ => Below.heap_setCell _ _ _ _ hne) (by simp [World.setCell]), HQ.out⟩
 have hbf : Below sb w (w2.setCell ⟨sb, 15, none⟩ (.bool (noGs (gAt x i.a)))) := (hb1.trans (hb2.mono (Nat.le_of_lt HCE.out.1.2.1))).setCell (Nat.le_refl _) _
 clear C2 E2 HT HCE HQ
 go_wp2
 first | go_end0 | refine bodyPost_ret (results_none rfl _ _ _) rfl ?_
 exact ⟨rfl, by rw [HLS.out]; exact HF.out, hbf⟩
theorem step_18 (sb : Nat) (i : Ins) (V F : Int) (s : Option Addr) (c : List Ins) (cap : Nat) (at_ : Int) (x : Pic) (vs : Option Addr) (vc : Nat) (fs : Option Addr) (fc : Nat) (w0 w : World) (hS : Cells w sb (stpC i V F s c cap at_ x vs vc fs fc (.slice none 0 0) false false)) (hc0 : CodeAt w0 s c) (hx0 : PicAt w0 x vs fs) (hz0 : w0.heap.size ≤ sb) (hB0 : Below w0.heap.size w0 w) (K : SCtx V F c x vc fc i at_) (hk : i.k = 18) :
  Calls Tryz.prog 18 #[.pointer (some ⟨sb, 0, none⟩)] w fun e w' => e = .returned (.tuple #[]) ∧ EdgAns sb w' (fun ev' => stpC i V F s c cap at_ x vs vc fs fc ev' false false) [] ([⟨at_ + 1, x⟩]) ∧ Below sb w w' := by
 have ha0 := K.a0
 have ha1 : at_ ≤ 1000 := by have := K.a1; have := K.lens; omega
 have HC : Hid (∀ wx, wx = w → Calls Tryz.prog 49 #[.pointer (some ⟨sb, 0, none⟩), .int .i64 (at_ + 1), .func (.func 52) #[] #[]] wx fun e w' => e = .returned (.tuple #[]) ∧ EdgAns sb w' (fun ev' => stpC i V F s c cap at_ x vs vc fs fc ev' false false) [] [⟨at_ + 1, x⟩] ∧ Below sb wx w') := fun wx hw => by
  subst hw
  refine (edge_print sb (at_ + 1) x [] none 0 sb i V F s c cap at_ x vs vc fs fc false false w0 wx hS hc0 hx0 hz0 hB0 K rfl (ERow.nil sb sb wx) (by simp) (ch_print sb sb _ wx x)).mono ?_
  rintro e w' ⟨h1, ⟨ev', q, h2, h3, h4⟩, h5⟩
  exact ⟨h1, ⟨ev', [q], h2, h3, by simp [h4]⟩, h5⟩
 have s0 := hS.1 0 _ rfl
 rw [hk] at s0
 have HSS := hideH hS
 clear hS hc0 hx0 hB0 K hz0 hk
 go_enter Tryz.func18, Tryz.ntmps18
 go_wp2_with (go_at_call 48; fail)
 refine (next_any sb at_ _ w HSS.out rfl ha0 ha1).mono ?_
 rintro e wz ⟨rfl, ew⟩
 rw [ew]
 clear ew wz
 exact prf_2dd062
theorem step_19 (sb : Nat) (i : Ins) (V F : Int) (s : Option Addr) (c : List Ins) (cap : Nat) (at_ : Int) (x : Pic) (vs : Option Addr) (vc : Nat) (fs : Option Addr) (fc : Nat) (w0 w : World) (hS : Cells w sb (stpC i V F s c cap at_ x vs vc fs fc (.slice none 0 0) false false)) (hc0 : CodeAt w0 s c) (hx0 : PicAt w0 x vs fs) (hz0 : w0.heap.size ≤ sb) (hB0 : Below w0.heap.size w0 w) (K : SCtx V F c x vc fc i at_) (hk : i.k = 19) :
  Calls Tryz.prog 18 #[.pointer (some ⟨sb, 0, none⟩)] w fun e w' => e = .returned (.tuple #[]) ∧ EdgAns sb w' (fun ev' => stpC i V F s c cap at_ x vs vc fs fc ev' false false) [] ([]) ∧ Below sb w w' := by
 have HA : Hid (EdgAns sb w (fun ev' => stpC i V F s c cap at_ x vs vc fs fc ev' false false) [] []) := ⟨_, [], hS, ERow.nil sb sb w, rfl⟩
 have s0 := hS.1 0 _ rfl
 rw [hk] at s0
 clear hS hc0 hx0 hB0 K hz0 hk
 go_enter Tryz.func18, Tryz.ntmps18
 go_wp2
 first | go_end0 | refine bodyPost_ret (results_none rfl _ _ _) rfl ?_
 exact ⟨rfl, HA.out, Below.refl _ _⟩
end
section
set_option maxHeartbeats 4000000
set_option maxRecDepth 10000
open Go.RowKit
attribute [local go_sem ↓] Go.wp_at_zero Go.wp_at_succ

theorem comes_any (sb : Nat) (i : Ins) (V F : Int) (s : Option Addr) (c : List Ins) (cap : Nat) (at_ : Int) (x : Pic) (vs : Option Addr) (vc : Nat) (fs : Option Addr) (fc : Nat) (ev : Value) (fl : Bool) (w0 w : World) (hS : Cells w sb (stpC i V F s c cap at_ x vs vc fs fc ev false fl)) (hc0 : CodeAt w0 s c) (hx0 : PicAt w0 x vs fs) (hz0 : w0.heap.size ≤ sb) (hB0 : Below w0.heap.size w0 w) (K : SCtx V F c x vc fc i at_) (hT : nTo i.k = true) (h11 : i.k ≠ 11) :
  Calls Tryz.prog 54 #[.pointer (some ⟨sb, 0, none⟩)] w fun e w' => CmAns w.heap.size sb w' e (comesGs i at_ x).1 (stpC i V F s c cap at_ x vs vc fs fc ev (comesGs i at_ x).2 fl) ∧ ModS sb w w' := by
 have h : i.k = 1 ∨ i.k = 2 ∨ i.k = 3 ∨ (4 ≤ i.k ∧ i.k ≤ 10) ∨ i.k = 12 ∨ i.k = 14 := by
  unfold nTo btw at hT
  simp at hT
  omega
 rcases h with h | h | h | h | h | h
 ·exact comes_1 sb i V F s c cap at_ x vs vc fs fc ev fl w0 w hS hc0 hx0 hz0 hB0 K h
 ·exact comes_2 sb i V F s c cap at_ x vs vc fs fc ev fl w0 w hS hc0 hx0 hz0 hB0 K h
 ·exact comes_3 sb i V F s c cap at_ x vs vc fs fc ev fl w0 w hS hc0 hx0 hz0 hB0 K h
 ·exact comes_do sb i V F s c cap at_ x vs vc fs fc ev fl w0 w hS hc0 hx0 hz0 hB0 K h.1 h.2
 ·exact comes_12 sb i V F s c cap at_ x vs vc fs fc ev fl w0 w hS hc0 hx0 hz0 hB0 K h
 ·exact comes_14 sb i V F s c cap at_ x vs vc fs fc ev fl w0 w hS hc0 hx0 hz0 hB0 K h
theorem step_set (sb : Nat) (i : Ins) (V F : Int) (s : Option Addr) (c : List Ins) (cap : Nat) (at_ : Int) (x : Pic) (vs : Option Addr) (vc : Nat) (fs : Option Addr) (fc : Nat) (w0 w : World) (hS : Cells w sb (stpC i V F s c cap at_ x vs vc fs fc (.slice none 0 0) false false)) (hc0 : CodeAt w0 s c) (hx0 : PicAt w0 x vs fs) (hz0 : w0.heap.size ≤ sb) (hB0 : Below w0.heap.size w0 w) (K : SCtx V F c x vc fc i at_) (hT : nTo i.k = true) (h11 : i.k ≠ 11) :
  Calls Tryz.prog 18 #[.pointer (some ⟨sb, 0, none⟩)] w fun e w' => e = .returned (.tuple #[]) ∧ EdgAns sb w' (fun ev' => stpC i V F s c cap at_ x vs vc fs fc ev' (comesGs i at_ x).2 false) [] (if nothingGs (comesGs i at_ x).1 then [] else [⟨at_ + 1, setVar x i.to (comesGs i at_ x).1⟩]) ∧ Below sb w w' := by
 obtain ⟨LST, hlst⟩ : ∃ q : List Edg, q = if nothingGs (comesGs i at_ x).1 then [] else [⟨at_ + 1, setVar x i.to (comesGs i at_ x).1⟩] := ⟨_, rfl⟩
 rw [← hlst]
 have HLS := hideH hlst
 clear hlst
 have HC := hideH (comes_any sb i V F s c cap at_ x vs vc fs fc _ false w0 w hS hc0 hx0 hz0 hB0 K hT h11)
 have hck : ckGs c (comesGs i at_ x).1 = 0 := by
  have h := comesGs_ck (progOk_of K.h0) K.kx K.a0 K.a1
  rw [← K.hi] at h
  exact h
 have s0 := hS.1 0 _ rfl
 have HSB := hideH hS.2.1
 have hr : i.k = 1 ∨ i.k = 2 ∨ i.k = 3 ∨ (4 ≤ i.k ∧ i.k ≤ 10) ∨ i.k = 12 ∨ i.k = 14 := by
  have h := hT
  unfold nTo btw at h
  simp at h
  omega
 have q11 : (i.k == 11) = false := by simp; omega
 have q13 : (i.k == 13) = false := by simp; omega
 have q15 : (i.k == 15) = false := by simp; omega
 have q16 : (i.k == 16) = false := by simp; omega
 have q17 : (i.k == 17) = false := by simp; omega
 have q18 : (i.k == 18) = false := by simp; omega
 have q19 : (i.k == 19) = false := by simp; omega
 have HH := hideH (And.intro hc0 (And.intro hx0 (And.intro hz0 (And.intro hB0 (And.intro K hT)))))
 clear hS hc0 hx0 hB0 K hz0 hr h11 hT
 obtain ⟨⟨g, wr⟩, hg⟩ : ∃ q, q = comesGs i at_ x := ⟨_, rfl⟩
 rw [← hg] at HC hck ⊢
 have HGE := hideH hg
 clear hg
 go_enter Tryz.func18, Tryz.ntmps18
 go_wp2_with (go_at_call 54; fail)
 clear s0 q11 q13 q15 q16 q17 q18 q19
 refine HC.out.mono ?_
 rintro e w1 ⟨⟨⟨ss, gc, rfl, JI, J1, J2⟩, C1⟩, M1⟩
 obtain ⟨hc0, hx0, hz0, hB0, K, hT⟩ := HH.out
 have HN := hideH (set_any g ss gc [] none 0 sb i V F s c cap at_ x vs vc fs fc wr false w0 w1 C1 hc0 hx0 hz0 (hB0.trans (M1.1.mono hz0)) K (ERow.nil sb sb w1) (by simp) (JI.mono fun b hb _ => ⟨by have := HSB.out; omega, by have := HSB.out; omega, fun h => by cases h⟩) J1 J2 hck hT)
 clear HC HH hc0 hx0 hz0 hB0 K hT JI J1 J2 C1 hck
 go_wp2_with (go_at_call 53; fail)
 refine HN.out.mono ?_
 rintro e w2 ⟨rfl, HA0, hb2⟩
 have HA := hideH HA0
 clear HA0 HN
 go_wp2
 first | go_end0 | refine bodyPost_ret (results_none rfl _ _ _) rfl ?_
 exact ⟨rfl, by rw [HLS.out, ← HGE.out]; exact HA.out, M1.1.trans hb2⟩
/-- What a stepper does, whatever its instruction. -/
theorem step_any (sb : Nat) (i : Ins) (V F : Int) (s : Option Addr) (c : List Ins) (cap : Nat) (at_ : Int) (x : Pic) (vs : Option Addr) (vc : Nat) (fs : Option Addr) (fc : Nat) (w0 w : World) (hS : Cells w sb (stpC i V F s c cap at_ x vs vc fs fc (.slice none 0 0) false false)) (hc0 : CodeAt w0 s c) (hx0 : PicAt w0 x vs fs) (hz0 : w0.heap.size ≤ sb) (hB0 : Below w0.heap.size w0 w) (K : SCtx V F c x vc fc i at_) :
  Calls Tryz.prog 18 #[.pointer (some ⟨sb, 0, none⟩)] w fun e w' => e = .returned (.tuple #[]) ∧ EdgAns sb w' (fun ev' => stpC i V F s c cap at_ x vs vc fs fc ev' (stepPic i at_ x).2.1 (stepPic i at_ x).2.2) [] ((stepPic i at_ x).1) ∧ Below sb w w' := by
 have hn := K.kx.none
 have hk := (ckOne_parts K.one).1
 unfold btw at hk
 simp only [Bool.and_eq_true, decide_eq_true_eq] at hk
 by_cases h11 : i.k = 11
 ·have e : stepPic i at_ x = ([⟨at_ + 1, (setVar (newPic at_ x) i.to ⟨false, ⟨true, 0, 0⟩, false, false, [at_]⟩)⟩], false, false) := by simp [stepPic, hn, h11, comesGs, nothingGs, otherGs]
  rw [e]
  exact step_11 sb i V F s c cap at_ x vs vc fs fc w0 w hS hc0 hx0 hz0 hB0 K h11
 by_cases h13 : i.k = 13
 ·have e : stepPic i at_ x = (if (gAt x i.a).s.length = 0 then [] else [⟨at_ + 1, (putPic x i.n (gAt x i.b) (gAt x i.a).s)⟩], noThing (gAt x i.a), false) := by
   simp only [stepPic, hn, h13]
   simp only [Bool.false_eq_true, if_false]
   by_cases h : (gAt x i.a).s.length = 0
   ·simp [h]
   ·simp [h]
  rw [e]
  exact step_13 sb i V F s c cap at_ x vs vc fs fc w0 w hS hc0 hx0 hz0 hB0 K h13
 by_cases h15 : i.k = 15
 ·have e : stepPic i at_ x = ((if yesGs (gAt x i.a) then [⟨i.g, setVar x i.a (trueGs (gAt x i.a))⟩] else []) ++ (if noGs (gAt x i.a) then [⟨at_ + 1, setVar x i.a (falseGs (gAt x i.a))⟩] else []), false, false) := by simp [stepPic, hn, h15]
  rw [e]
  exact step_15 sb i V F s c cap at_ x vs vc fs fc w0 w hS hc0 hx0 hz0 hB0 K h15
 by_cases h16 : i.k = 16
 ·have e : stepPic i at_ x = ([⟨i.g, x⟩], false, false) := by simp [stepPic, hn, h16]
  rw [e]
  exact step_16 sb i V F s c cap at_ x vs vc fs fc w0 w hS hc0 hx0 hz0 hB0 K h16
 by_cases h17 : i.k = 17
 ·have e : stepPic i at_ x = ((if yesGs (gAt x i.a) then [⟨at_ + 1, setVar x i.a (trueGs (gAt x i.a))⟩] else []), false, noGs (gAt x i.a)) := by simp [stepPic, hn, h17]
  rw [e]
  exact step_17 sb i V F s c cap at_ x vs vc fs fc w0 w hS hc0 hx0 hz0 hB0 K h17
 by_cases h18 : i.k = 18
 ·have e : stepPic i at_ x = ([⟨at_ + 1, x⟩], false, false) := by simp [stepPic, hn, h18]
  rw [e]
  exact step_18 sb i V F s c cap at_ x vs vc fs fc w0 w hS hc0 hx0 hz0 hB0 K h18
 by_cases h19 : i.k = 19
 ·have e : stepPic i at_ x = ([], false, false) := by simp [stepPic, hn, h19]
  rw [e]
  exact step_19 sb i V F s c cap at_ x vs vc fs fc w0 w hS hc0 hx0 hz0 hB0 K h19
 have hT : nTo i.k = true := by
  unfold nTo btw
  simp
  omega
 have e : stepPic i at_ x = (if nothingGs (comesGs i at_ x).1 then [] else [⟨at_ + 1, setVar x i.to (comesGs i at_ x).1⟩], (comesGs i at_ x).2, false) := by
  simp only [stepPic, hn, h11, h13, h15, h16, h17, h18, h19, Bool.false_eq_true, if_false]
  split <;> rfl
 rw [e]
 exact step_set sb i V F s c cap at_ x vs vc fs fc w0 w hS hc0 hx0 hz0 hB0 K hT h11
end
section
open Go.RowKit

theorem Tryz.info_int : (Tryz.prog.info? 3).map (fun i => (i.zero, i.size, i.bytes)) = some (some (.int .i64 0), 1, 8) := by kernel_rfl
end
section
set_option maxHeartbeats 4000000
set_option maxRecDepth 10000
open Go.RowKit
attribute [local go_sem ↓] Go.wp_at_zero Go.wp_at_succ

theorem IntsAt.news {w : World} {ss : Option Addr} {l : List Int} (h : IntsAt w ss l) : ∀ ad, ss = some ad → ∀ j u, (l.map (Value.int .i64))[j]? = some u → w.cell? (ad.add j) = some u := by
 intro ad e j u hj
 obtain ⟨hjl, rfl⟩ := List.getElem?_eq_some_iff.1 hj
 rw [List.length_map] at hjl
 rcases h with h | ⟨b, off, e', hb, hc⟩
 ·rw [h] at hjl; simp at hjl
 ·rw [e'] at e
  cases e
  rw [Addr.add_lit, hc j hjl]
  simp
theorem copyOne_any (g : Gs) (ss : Option Addr) (gc : Nat) (w : World) (hI : IntsAt w ss g.s) (hl : g.s.length ≤ 1000000) :
  Calls Tryz.prog 57 #[gv g ss gc] w fun e w' => (∃ js jc, e = .returned (gv g js jc) ∧ IntsAt w' js g.s ∧ g.s.length ≤ jc ∧ jc ≤ maxLen ∧ ∀ a, js = some a → w.heap.size ≤ a.block) ∧ Below w.heap.size w w' := by
 obtain ⟨ti, hi, hz0, hz1, hz2⟩ := info_parts Tryz.info_int
 have hb0 : Below w.heap.size w ((w.alloc (.cells #[.bool g.n, .bool g.sp.n, .int .i64 g.sp.lo, .int .i64 g.sp.hi, .bool g.t, .bool g.f, .slice ss g.s.length gc] 61)).alloc (.cells #[.bool false, .bool false, .int .i64 0, .int .i64 0, .bool false, .bool false, .slice none 0 0] 61)) := by go_grown
 have G0 : Cells ((w.alloc (.cells #[.bool g.n, .bool g.sp.n, .int .i64 g.sp.lo, .int .i64 g.sp.hi, .bool g.t, .bool g.f, .slice ss g.s.length gc] 61)).alloc (.cells #[.bool false, .bool false, .int .i64 0, .int .i64 0, .bool false, .bool false, .slice none 0 0] 61)) w.heap.size [.bool g.n, .bool g.sp.n, .int .i64 g.sp.lo, .int .i64 g.sp.hi, .bool g.t, .bool g.f, .slice ss g.s.length gc] := (Cells.new w 61 [.bool g.n, .bool g.sp.n, .int .i64 g.sp.lo, .int .i64 g.sp.hi, .bool g.t, .bool g.f, .slice ss g.s.length gc]).call (by go_grown)
 have Z0 : Cells ((w.alloc (.cells #[.bool g.n, .bool g.sp.n, .int .i64 g.sp.lo, .int .i64 g.sp.hi, .bool g.t, .bool g.f, .slice ss g.s.length gc] 61)).alloc (.cells #[.bool false, .bool false, .int .i64 0, .int .i64 0, .bool false, .bool false, .slice none 0 0] 61)) (w.heap.size + 1) [.bool false, .bool false, .int .i64 0, .int .i64 0, .bool false, .bool false, .slice none 0 0] := by
  have h := Cells.new (w.alloc (.cells #[.bool g.n, .bool g.sp.n, .int .i64 g.sp.lo, .int .i64 g.sp.hi, .bool g.t, .bool g.f, .slice ss g.s.length gc] 61)) 61 [.bool false, .bool false, .int .i64 0, .int .i64 0, .bool false, .bool false, .slice none 0 0]
  rw [World.size_alloc] at h
  exact h
 have I0 := hI.call hb0
 have hsz : ((w.alloc (.cells #[.bool g.n, .bool g.sp.n, .int .i64 g.sp.lo, .int .i64 g.sp.hi, .bool g.t, .bool g.f, .slice ss g.s.length gc] 61)).alloc (.cells #[.bool false, .bool false, .int .i64 0, .int .i64 0, .bool false, .bool false, .slice none 0 0] 61)).heap.size = w.heap.size + 1 + 1 := by simp
 have HSZ := hideH hsz
 clear hI hsz
 go_enter Tryz.func57, Tryz.ntmps57
 go_upto_region 1 with fail
 generalize ((w.alloc (.cells #[.bool g.n, .bool g.sp.n, .int .i64 g.sp.lo, .int .i64 g.sp.hi, .bool g.t, .bool g.f, .slice ss g.s.length gc] 61)).alloc (.cells #[.bool false, .bool false, .int .i64 0, .int .i64 0, .bool false, .bool false, .slice none 0 0] 61)) = w1 at *
 have OWE := World.ownsRow_made w1 (e := 3) (size := 1) #[] 0 (Nat.le_refl _) (Nat.zero_le _) rfl
 have I1 := I0.call (w' := w1.alloc (.cells #[] 3)) (by go_grown)
 have G1 := G0.call (w' := w1.alloc (.cells #[] 3)) (by go_grown)
 have Z1 := Z0.call (w' := w1.alloc (.cells #[] 3)) (by go_grown)
 have c4 := G1.1 6 _ rfl
 have hlt : w.heap.size < w1.heap.size := G0.2.1
 go_wp2_with (at_builtin; refine wpList_append_any _ rfl _ _ 59 rfl w1.heap.size 3 ti (.int .i64 0) 1 8 Tryz.underlying59 hi hz0 hz1 hz2 rfl (by decide) _ _ _ rfl OWE ss g.s.length gc (g.s.map (.int .i64)) rfl ?qc1 ?qc0 ?qc2 ?qc3 ?qc4 ?qc5 ?qc6 ?_)
 case qc1 => simp
 case qc0 => intro e; rcases I0 with h | ⟨b, off, e', _⟩; · rw [h]; rfl
       ·rw [e'] at e; cases e
 case qc2 => exact I1.news
 case qc3 => intro u hu; obtain ⟨x, -, rfl⟩ := List.mem_map.1 hu; rfl
 case qc4 => unfold maxLen; omega
 case qc5 => omega
 case qc6 => first | omega | (rw [World.size_alloc]; omega) | (simp; omega) | simp
 intro v' w2 hown hgrow hat
 have hbg : Below w1.heap.size w1 w2 := ((Below.refl _ w1).alloc (Nat.le_refl _) _).grown hgrow (by simp) (fun k hk => by cases hk; exact Nat.le_refl _)
 (try rw [List.nil_append] at hown)
 obtain ⟨js, jc, rfl, JI, J1, J2, JF⟩ := IntsAt.own hown
 have G2 := G0.call hbg
 have Z2 := Z0.call hbg
 have B2 := hb0.trans (hbg.mono hb0.size)
 have HJ : Hid (IntsIn (fun b => w.heap.size + 1 + 1 ≤ b) w2 js g.s) := by
  show IntsIn _ _ _ _
  rcases JI with h | ⟨b, off, e, hb, hc⟩
  ·exact .inl h
  ·have := JF _ e
   have h2 := HSZ.out
   simp only at this
   exact .inr ⟨b, off, e, by omega, hb, hc⟩
 have HF : Hid (∀ a, js = some a → w.heap.size ≤ a.block) := fun a ha => by have := JF a ha; have := hb0.size; omega
 clear hown hgrow hat G0 Z0 G1 Z1 I0 I1 OWE c4 hlt hbg hb0 JI JF HSZ
 have g0 := G2.1 0 _ rfl
 have g1 := G2.1 1 _ rfl
 have g2 := G2.1 2 _ rfl
 have g3 := G2.1 3 _ rfl
 have g4 := G2.1 4 _ rfl
 have g5 := G2.1 5 _ rfl
 have g6 := G2.1 6 _ rfl
 have fg0 := G2.2.2 0
 have fg1 := G2.2.2 1
 have fg2 := G2.2.2 2
 have fg3 := G2.2.2 3
 have fg4 := G2.2.2 4
 have fg5 := G2.2.2 5
 have fg6 := G2.2.2 6
 have z0 := Z2.1 0 _ rfl
 have z1 := Z2.1 1 _ rfl
 have z2 := Z2.1 2 _ rfl
 have z3 := Z2.1 3 _ rfl
 have z4 := Z2.1 4 _ rfl
 have z5 := Z2.1 5 _ rfl
 have z6 := Z2.1 6 _ rfl
 have fz0 := Z2.2.2 0
 have fz1 := Z2.2.2 1
 have fz2 := Z2.2.2 2
 have fz3 := Z2.2.2 3
 have fz4 := Z2.2.2 4
 have fz5 := Z2.2.2 5
 have fz6 := Z2.2.2 6
 go_wp2
 refine bodyPost_ret (v := .agg #[.bool g.n, .bool g.sp.n, .int .i64 g.sp.lo, .int .i64 g.sp.hi, .bool g.t, .bool g.f, .slice js g.s.length jc]) (by simp [results, Tryz.results57, go_sem, z0, z1, z2, z3, z4, z5, z6]) rfl ⟨⟨js, jc, rfl, (HJ.out.same (fun b hb _ => ?_) ?_).at, J1, J2, HF.out⟩, ?_⟩
 ·have n1 : b ≠ w.heap.size := by omega
  have n2 : b ≠ w.heap.size + 1 := by omega
  rw [Below.heap_setCell _ _ _ _ n2, Below.heap_setCell _ _ _ _ n2, Below.heap_setCell _ _ _ _ n2, Below.heap_setCell _ _ _ _ n2, Below.heap_setCell _ _ _ _ n2, Below.heap_setCell _ _ _ _ n2, Below.heap_setCell _ _ _ _ n2, Below.heap_setCell _ _ _ _ n1]
 ·simp [World.setCell]
 ·exact (((((((B2.setCell (by simp only; omega) _).setCell (by simp only; omega) _).setCell (by simp only; omega) _).setCell (by simp only; omega) _).setCell (by simp only; omega) _).setCell (by simp only; omega) _).setCell (by simp only; omega) _).setCell (by simp only; omega) _
end
section
open Go.RowKit
/-- Rows of guesses, in blocks of which S is true. -/
def RowsIn (S : Nat → Prop) (w : World) (fs : Option Addr) (L : List (List Gs)) : Prop :=
 ∀ i (h : i < L.length), ∃ b off, fs = some ⟨b, off, none⟩ ∧ S b ∧ b < w.heap.size ∧ ∃ rs rc, w.cell? ⟨b, off + i, none⟩ = some (.slice rs L[i].length rc) ∧ L[i].length ≤ rc ∧ rc ≤ maxLen ∧ GsIn S w rs L[i]
/-- A world whose blocks hold nothing where S is not true. -/
theorem bare_world (S : Nat → Prop) (w : World) : ∃ w3 : World, w3.heap.size = w.heap.size ∧ (∀ b, S b → w3.heap[b]? = w.heap[b]?) ∧ ∀ b o, ¬ S b → w3.cell? ⟨b, o, none⟩ = none := by
 classical
 refine ⟨{ w with heap := w.heap.mapIdx fun k x => if S k then x else .cells #[] 0 }, by simp, fun b hb => ?_, fun b o hb => ?_⟩
 ·simp only [Array.getElem?_mapIdx]
  cases w.heap[b]? with
  | none => rfl
  | some x => simp [hb]
 ·simp only [World.cell?, Array.getElem?_mapIdx]
  cases w.heap[b]? with
  | none => rfl
  | some x => simp [hb]
section
variable {S : Nat → Prop} {w : World} {x : Pic} {vs fs : Option Addr}
theorem PicOn.in (h : PicOn S w x vs fs) : GsIn S w vs x.vars ∧ RowsIn S w fs x.flds := by
 obtain ⟨w3, hz, hs, hn⟩ := bare_world S w
 have h3 := h w3 (fun b hb _ => hs b hb) (by omega)
 have hS : ∀ {b o : Nat} {v : Value}, w3.cell? ⟨b, o, none⟩ = some v → S b ∧ b < w.heap.size ∧ w.cell? ⟨b, o, none⟩ = some v := by
  intro b o v hc
  have hb : S b := Classical.byContradiction fun hb => by rw [hn b o hb] at hc; cases hc
  have hb2 := World.block_lt_of_cell? w3 _ hc
  refine ⟨hb, by simpa [hz] using hb2, ?_⟩
  rw [← World.cell?_of_block (a := ⟨b, o, none⟩) (hs b hb)]
  exact hc
 have hI : ∀ {ss : Option Addr} {l : List Int}, IntsAt w3 ss l → IntsIn S w ss l := by
  intro ss l h
  rcases h with h | ⟨b, off, e, hb, hc⟩
  ·exact .inl h
  ·cases l with
   | nil => exact .inl rfl
   | cons a r =>
    have h0 := hS (hc 0 (by simp))
    exact .inr ⟨b, off, e, h0.1, h0.2.1, fun k hk => (hS (hc k hk)).2.2⟩
 have hG : ∀ {ls : Option Addr} {L : List Gs}, GsAt w3 ls L → GsIn S w ls L := by
  intro ls L h i hi
  obtain ⟨b, off, e, ss, cap, ⟨⟨c0, c1, c2, c3, c4, c5, c6⟩, _⟩, h2, h4, h5⟩ := h i hi
  have a0 := hS c0
  exact ⟨b, off, e, a0.1, ss, cap, ⟨⟨a0.2.2, (hS c1).2.2, (hS c2).2.2, (hS c3).2.2, (hS c4).2.2, (hS c5).2.2, (hS c6).2.2⟩, a0.2.1⟩, hI h2, h4, h5⟩
 refine ⟨hG h3.1, fun i hi => ?_⟩
 obtain ⟨b, off, e, _, rs, rc, h1, h2, h4, h5⟩ := h3.2 i hi
 have a0 := hS h1
 exact ⟨b, off, e, a0.1, a0.2.1, rs, rc, a0.2.2, h2, h4, hG h5⟩
end
/-- Edges that are answered: their pictures lie where S is true. -/
def EdsOn (S : Nat → Prop) (w : World) (es : Option Addr) (L : List Edg) : Prop :=
 ∀ i (h : i < L.length), ∃ b off, es = some ⟨b, off, none⟩ ∧ S b ∧ b < w.heap.size ∧ ∃ vs vc fs fc, (w.cell? ⟨b, off + i * 4, none⟩ = some (.int .i64 L[i].to) ∧ w.cell? ⟨b, off + i * 4 + 1, none⟩ = some (.bool L[i].pic.none) ∧ w.cell? ⟨b, off + i * 4 + 2, none⟩ = some (.slice vs L[i].pic.vars.length vc) ∧ w.cell? ⟨b, off + i * 4 + 3, none⟩ = some (.slice fs L[i].pic.flds.length fc)) ∧ PicOn S w L[i].pic vs fs ∧ (L[i].pic.vars.length ≤ vc ∧ vc ≤ maxLen) ∧ (L[i].pic.flds.length ≤ fc ∧ fc ≤ maxLen)
section
variable {S S' : Nat → Prop} {w w' : World} {es : Option Addr} {L : List Edg}
theorem EdsOn.nil : EdsOn S w es [] := fun i h => absurd h (by simp)
theorem EdsOn.same (h : EdsOn S w es L) (hs : ∀ b, S b → b < w.heap.size → w'.heap[b]? = w.heap[b]?) (hz : w.heap.size ≤ w'.heap.size) : EdsOn S w' es L := by
 intro i hi
 obtain ⟨b, off, e, hS, hb, vs, vc, fs, fc, ⟨c0, c1, c2, c3⟩, hp, hv, hf⟩ := h i hi
 have hc : ∀ j, w'.cell? ⟨b, j, none⟩ = w.cell? ⟨b, j, none⟩ := fun j => World.cell?_of_block (a := ⟨b, j, none⟩) (hs b hS hb)
 exact ⟨b, off, e, hS, Nat.lt_of_lt_of_le hb hz, vs, vc, fs, fc, ⟨(hc _).trans c0, (hc _).trans c1, (hc _).trans c2, (hc _).trans c3⟩, (hp.same hs hz).mono fun b hb _ => hb.1, hv, hf⟩
theorem EdsOn.mono (h : EdsOn S w es L) (hs : ∀ b, S b → b < w.heap.size → S' b) : EdsOn S' w es L := by
 intro i hi
 obtain ⟨b, off, e, hS, hb, vs, vc, fs, fc, hc, hp, hv, hf⟩ := h i hi
 exact ⟨b, off, e, hs b hS hb, hb, vs, vc, fs, fc, hc, hp.mono hs, hv, hf⟩
theorem EdsOn.call (h : EdsOn S w es L) (hb : Below w.heap.size w w') : EdsOn S w' es L := h.same (fun b _ hlt => hb.block b hlt) hb.size
end
/-- What the program's row of edges is. -/
theorem ERow.eds {n sb : Nat} {w : World} {es : Option Addr} {ec : Nat} {L : List Ed} (h : ERow n sb w (.slice es L.length ec) L) : EdsOn (fun b => n ≤ b) w es (L.map edG) := by
 intro i hi
 have hil : i < L.length := by simpa using hi
 have ei : (L.map edG)[i] = edG L[i] := by simp
 rw [ei]
 rcases h.own.2 with ⟨e, h0⟩ | ⟨g, cap, cur, e, hb, hg, k1, k2, k3, k4⟩
 ·omega
 ·simp only [Value.slice.injEq] at e
  obtain ⟨e1, -, -⟩ := e
  subst e1
  obtain ⟨p1, p2, p3⟩ := h.pics _ (List.getElem_mem hil)
  have hc : ∀ j, j < 4 → w.cell? ⟨g, i * 4 + j, none⟩ = (edCells L[i])[j]? := fun j hj => by
   rw [← edCells_get L i hil j hj]
   exact World.ownsRow.cellAt h.own _ (by omega)
  refine ⟨g, 0, rfl, hb, (Array.getElem?_eq_some_iff.1 hg).1, L[i].vs, L[i].vc, L[i].fs, L[i].fc, ?_, p1.mono fun b hb _ => hb.1, p2, p3⟩
  simp only [Nat.zero_add]
  exact ⟨hc 0 (by omega), hc 1 (by omega), hc 2 (by omega), hc 3 (by omega)⟩
/-- What a step answers. -/
def StpAns (S : Nat → Prop) (w' : World) (e : Ending) (r : List Edg × Bool × Bool) : Prop := ∃ es ec, e = .returned (.tuple #[.slice es r.1.length ec, .bool r.2.1, .bool r.2.2]) ∧ EdsOn S w' es r.1
end
end Go.Proofs.YtmapdpcfanecdabGreat
