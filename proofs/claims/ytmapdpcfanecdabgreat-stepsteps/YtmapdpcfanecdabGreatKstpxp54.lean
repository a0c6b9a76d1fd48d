/- The document's own answer: are two rows of guesses, two pictures the same? -/
import Derived.Test.YtmapdpcfanecdabGreatKstpxp52
import Derived.Test.YtmapdpcfanecdabGreatKstpxp53
import Derived.Test.YtmapdpcfanecdabGreatKstpxp07
import Derived.Deep.RegionHeld
import Derived.WalkKit
import Derived.WalkSpells
import Derived.WalkLawsBesides
import Derived.Handy
import Derived.Deep.DeepCutAuto
import Derived.Test.YtmapdpcfanecdabGreatKstpxp48
import Derived.Test.YtmapdpcfanecdabGreatKstpxp49
import Derived.Test.YtmapdpcfanecdabGreatKstpxp50
import Derived.Test.YtmapdpcfanecdabGreatKstpxp51
import Derived.Test.YtmapdpcfanecdabGreatKstpxp03
import Derived.Test.YtmapdpcfanecdabGreatKstpxp18
import Derived.Test.YtmapdpcfanecdabGreatKstpxp08
set_option linter.unusedSimpArgs false
set_option linter.unusedVariables false
namespace Go.Proofs.YtmapdpcfanecdabGreat
section
set_option maxHeartbeats 8000000
set_option maxRecDepth 20000
open Go.RowKit
attribute [local go_sem ↓] Go.wp_at_zero Go.wp_at_succ

theorem stepT_17 {T : Nat → Prop} {V F : Int} {s : Option Addr} {c : List Ins} {cap m : Nat} {i : Ins} {x : Pic} {vs : Option Addr} {vc : Nat} {fs : Option Addr} {fc : Nat} {w : World} {w3 w4 w7 w11 wp : World} {v : Ro} {gs : Option Addr} {gc : Nat} {L : List Ro} (hx : PicOn T w x vs fs) (K : SCtx V F c x vc fc i (m : Int)) (hk : i.k = 17) {ka : Nat} {sska : Option Addr} {gcka : Nat} (hkax : ka < x.vars.length) (eka : i.a = (ka : Int)) (SP : Hid (SPre T V F s c cap (m : Int) i x vs vc fs fc w wp (w.heap.size + 1 + 1) w3.heap.size w4.heap.size w7.heap.size (w7.heap.size + 1) w11.heap.size w3 v gs gc L x.vars[ka] sska gcka noneG none 0)) : SwT (fun e w' => StpAns (fun b => T b ∨ w.heap.size ≤ b) w' e (stepPic i (m : Int) x) ∧ Below w.heap.size w w') m w w3 w4 w7 w11 wp := by
 have HKAV := hideH eka
 have HKK := hideH hk
 clear hk
 have HK := hideH K
 have HX := hideH hx
 have h60 := K.lens.2.1
 have n0 : (0 : Int) ≤ (m : Int) := K.a0
 have n1 : (m : Int) < (c.length : Int) := K.a1
 have hm : m < c.length := by omega
 have w61 : (m : Int) ≤ 60 := by omega
 clear K hx eka
 refine sw_of rfl fun z0 z2 z4 u => ?_
 simp only [List.range, List.range.loop, List.map]
 obtain ⟨BP, PP, XP, IP, YP, OP, AP, EP, TP, GAI, GBI, GOW, YW, -, EPV0, -, o2, o3, o4, o5, o6⟩ := SP.out
 have EPV := hideH EPV0
 clear EPV0
 have i0 := IP.1 0 _ rfl
 rw [HKK.out] at i0
 have ega : gAt x i.a = x.vars[ka] := by rw [HKAV.out, gAt_get hkax]
 obtain ⟨yb, HY⟩ : ∃ b, Hid (yesGs x.vars[ka] = b) := ⟨yesGs x.vars[ka], hideH rfl⟩
 obtain ⟨nb, HN⟩ : ∃ b, Hid (noGs x.vars[ka] = b) := ⟨noGs x.vars[ka], hideH rfl⟩
 obtain ⟨ta, HTA⟩ : ∃ t : Int, Hid (t = (m : Int) + 1) := ⟨(m : Int) + 1, hideH rfl⟩
 have HST : Hid (stepPic i (m : Int) x = ((if yb then [(⟨ta, setVar x i.a (trueGs x.vars[ka])⟩ : Edg)] else []), false, nb)) := by
  show _ = _
  unfold stepPic
  rw [if_neg (by rw [HK.out.kx.none]; decide), if_neg (by rw [HKK.out]; decide), if_neg (by rw [HKK.out]; decide), if_neg (by rw [HKK.out]; decide), if_neg (by rw [HKK.out]; decide), if_pos HKK.out, ega, HY.out, HN.out, HTA.out]
 clear ega
 have HTR : Hid (∀ wx, Calls Tryz.prog 24 #[.agg #[.bool x.vars[ka].n, .bool x.vars[ka].sp.n, .int .i64 x.vars[ka].sp.lo, .int .i64 x.vars[ka].sp.hi, .bool x.vars[ka].t, .bool x.vars[ka].f, .slice sska x.vars[ka].s.length gcka]] wx fun e w' => e = .returned (.tuple #[.bool yb, .bool nb]) ∧ Below wx.heap.size wx w') := fun wx => by have h := truthOf_any x.vars[ka] sska gcka wx; rw [HY.out, HN.out] at h; exact h
 have a0 := AP.1 0 _ rfl
 have a1 := AP.1 1 _ rfl
 have a2 := AP.1 2 _ rfl
 have a3 := AP.1 3 _ rfl
 have a4 := AP.1 4 _ rfl
 have a5 := AP.1 5 _ rfl
 have a6 := AP.1 6 _ rfl
 go_wp2_with (go_at_call 24; fail)
 refine (HTR.out wp).mono ?_
 rintro e wt ⟨rfl, hbt⟩
 clear HTR a0 a1 a2 a3 a4 a5 a6 i0
 have IT := IP.call hbt
 have XT := XP.call hbt
 have YT := YP.call hbt
 have OT := OP.call hbt
 have BT := BP.trans (hbt.mono BP.size)
 have YWT := YW.trans (hbt.mono YW.size)
 have zt := hbt.size
 have zp := TP.2.1
 clear IP XP YP OP BP YW hbt PP AP EP TP
 have o4x : w4.heap.size < wt.heap.size := OT.2.1
 go_upto_if 94 with fail
 rename_i K9 hK9
 have HK9 := hideH hK9
 clear hK9
 have HR : Hid (∀ (ev : List Ed) (t18 : Value) (w' : World) (tl' : List Value), tl'.length = 319 → ERow wt.heap.size w3.heap.size w' t18 ev → Hid (ev.map edG = (if yb then [(⟨ta, setVar x i.a (trueGs x.vars[ka])⟩ : Edg)] else [])) → Below wt.heap.size wt w' → K9 ⟨(z0 :: .int .i64 (m : Int) :: z2 :: .pointer (some ⟨w.heap.size, 0, none⟩) :: z4 :: .pointer (some ⟨w.heap.size + 1, 0, none⟩) :: .slice none 0 0 :: .bool false :: .bool false :: .pointer (some ⟨w.heap.size + 1 + 1, 0, none⟩) :: .pointer (some ⟨w3.heap.size, 0, none⟩) :: .slice (some ⟨w4.heap.size, 0, none⟩) 1 1 :: .pointer (some ⟨w7.heap.size, 0, none⟩) :: .pointer (some ⟨w7.heap.size + 1, 0, none⟩) :: .pointer (some ⟨w11.heap.size, 0, none⟩) :: .bool false :: .bool yb :: .bool nb :: t18 :: tl').toArray, []⟩ w') := fun ev t18 w' tl' hl' ER he hB => by
  obtain ⟨es, ec, rfl, -, -⟩ := ER.form
  obtain ⟨u, rfl⟩ := list_u tl' _ hl'
  refine HK9.out _ _ ?_
  simp only [List.range, List.range.loop, List.map, List.cons_append, List.nil_append]
  have ei := (IT.call hB).1 0 _ rfl
  rw [HKK.out] at ei
  have hB := BT.trans (hB.mono BT.size)
  have zw := BT.size
  go_wp2
  refine bodyPost_ret (v := .tuple #[.slice es ev.length ec, .bool false, .bool nb]) (by simp [results, Tryz.results7, go_sem]) rfl ⟨?_, hB⟩
  rw [HST.out, ← he.out]
  exact ⟨es, ec, by rw [List.length_map], ER.eds.mono fun b hb _ => .inr (by omega)⟩
 rcases Bool.eq_false_or_eq_true yb with hs0 | hs0
 ·have hsn := hideH hs0
  refine wp_cond_split (congrArg Value.bool hs0) (fun _ => ?_) (fun h => by cases h)
  clear hs0
  exact test_yes (z := fun k => ([z0, .int .i64 (m : Int), z2, .pointer (some ⟨w.heap.size, 0, none⟩), z4, .pointer (some ⟨w.heap.size + 1, 0, none⟩), .slice none 0 0, .bool false, .bool false, .pointer (some ⟨w.heap.size + 1 + 1, 0, none⟩), .pointer (some ⟨w3.heap.size, 0, none⟩), .slice (some ⟨w4.heap.size, 0, none⟩) 1 1, .pointer (some ⟨w7.heap.size, 0, none⟩), .pointer (some ⟨w7.heap.size + 1, 0, none⟩), .pointer (some ⟨w11.heap.size, 0, none⟩), .bool false, .bool yb, .bool nb] : List Value).getD k (.bool false)) ta rfl (by rfl) rfl rfl rfl HK.out HX.out (.inl ⟨HKK.out, HTA.out⟩) HKAV.out hkax IT XT BT (by have := OT.2.1; omega) fun ev t18 w' tl' q1 q2 q3 q4 => HR.out ev t18 w' tl' q1 q2 (by show _ = _; rw [q3.out, hsn.out]; rfl) q4
 ·have hsn := hideH hs0
  refine wp_cond_split (congrArg Value.bool hs0) (fun h => by cases h) (fun _ => ?_)
  clear hs0
  refine wp_skip ?_
  exact HR.out [] _ wt _ (by rfl) (ERow.nil _ _ _) (by show _ = _; rw [hsn.out]; rfl) (Below.refl _ _)
theorem stepT_15 {T : Nat → Prop} {V F : Int} {s : Option Addr} {c : List Ins} {cap m : Nat} {i : Ins} {x : Pic} {vs : Option Addr} {vc : Nat} {fs : Option Addr} {fc : Nat} {w : World} {w3 w4 w7 w11 wp : World} {v : Ro} {gs : Option Addr} {gc : Nat} {L : List Ro} (hx : PicOn T w x vs fs) (K : SCtx V F c x vc fc i (m : Int)) (hk : i.k = 15) {ka : Nat} {sska : Option Addr} {gcka : Nat} (hkax : ka < x.vars.length) (eka : i.a = (ka : Int)) (SP : Hid (SPre T V F s c cap (m : Int) i x vs vc fs fc w wp (w.heap.size + 1 + 1) w3.heap.size w4.heap.size w7.heap.size (w7.heap.size + 1) w11.heap.size w3 v gs gc L x.vars[ka] sska gcka noneG none 0)) : SwT (fun e w' => StpAns (fun b => T b ∨ w.heap.size ≤ b) w' e (stepPic i (m : Int) x) ∧ Below w.heap.size w w') m w w3 w4 w7 w11 wp := by
 have HKAV := hideH eka
 have HKK := hideH hk
 clear hk
 have HK := hideH K
 have HX := hideH hx
 have h60 := K.lens.2.1
 have n0 : (0 : Int) ≤ (m : Int) := K.a0
 have n1 : (m : Int) < (c.length : Int) := K.a1
 have hm : m < c.length := by omega
 have w61 : (m : Int) ≤ 60 := by omega
 clear K hx eka
 refine sw_of rfl fun z0 z2 z4 u => ?_
 simp only [List.range, List.range.loop, List.map]
 obtain ⟨BP, PP, XP, IP, YP, OP, AP, EP, TP, GAI, GBI, GOW, YW, -, EPV0, -, o2, o3, o4, o5, o6⟩ := SP.out
 have EPV := hideH EPV0
 clear EPV0
 have i0 := IP.1 0 _ rfl
 rw [HKK.out] at i0
 have ega : gAt x i.a = x.vars[ka] := by rw [HKAV.out, gAt_get hkax]
 obtain ⟨yb, HY⟩ : ∃ b, Hid (yesGs x.vars[ka] = b) := ⟨yesGs x.vars[ka], hideH rfl⟩
 obtain ⟨nb, HN⟩ : ∃ b, Hid (noGs x.vars[ka] = b) := ⟨noGs x.vars[ka], hideH rfl⟩
 obtain ⟨ta, HTA⟩ : ∃ t : Int, Hid (t = i.g) := ⟨i.g, hideH rfl⟩
 have HST : Hid (stepPic i (m : Int) x = ((if yb then [(⟨ta, setVar x i.a (trueGs x.vars[ka])⟩ : Edg)] else []) ++ (if nb then [(⟨(m : Int) + 1, setVar x i.a (falseGs x.vars[ka])⟩ : Edg)] else []), false, false)) := by
  show _ = _
  unfold stepPic
  rw [if_neg (by rw [HK.out.kx.none]; decide), if_neg (by rw [HKK.out]; decide), if_neg (by rw [HKK.out]; decide), if_neg (by rw [HKK.out]; decide), if_pos HKK.out, ega, HY.out, HN.out, HTA.out]
 clear ega
 have HTR : Hid (∀ wx, Calls Tryz.prog 24 #[.agg #[.bool x.vars[ka].n, .bool x.vars[ka].sp.n, .int .i64 x.vars[ka].sp.lo, .int .i64 x.vars[ka].sp.hi, .bool x.vars[ka].t, .bool x.vars[ka].f, .slice sska x.vars[ka].s.length gcka]] wx fun e w' => e = .returned (.tuple #[.bool yb, .bool nb]) ∧ Below wx.heap.size wx w') := fun wx => by have h := truthOf_any x.vars[ka] sska gcka wx; rw [HY.out, HN.out] at h; exact h
 have a0 := AP.1 0 _ rfl
 have a1 := AP.1 1 _ rfl
 have a2 := AP.1 2 _ rfl
 have a3 := AP.1 3 _ rfl
 have a4 := AP.1 4 _ rfl
 have a5 := AP.1 5 _ rfl
 have a6 := AP.1 6 _ rfl
 go_wp2_with (go_at_call 24; fail)
 refine (HTR.out wp).mono ?_
 rintro e wt ⟨rfl, hbt⟩
 clear HTR a0 a1 a2 a3 a4 a5 a6 i0
 have IT := IP.call hbt
 have XT := XP.call hbt
 have YT := YP.call hbt
 have OT := OP.call hbt
 have BT := BP.trans (hbt.mono BP.size)
 have YWT := YW.trans (hbt.mono YW.size)
 have zt := hbt.size
 have zp := TP.2.1
 clear IP XP YP OP BP YW hbt PP AP EP TP
 have o4x : w4.heap.size < wt.heap.size := OT.2.1
 go_upto_if 94 with fail
 rename_i K9 hK9
 have HK9 := hideH hK9
 clear hK9
 have HR : Hid (∀ (ev : List Ed) (t18 : Value) (w' : World) (tl' : List Value), tl'.length = 319 → ERow wt.heap.size w3.heap.size w' t18 ev → Hid (ev.map edG = (if yb then [(⟨ta, setVar x i.a (trueGs x.vars[ka])⟩ : Edg)] else [])) → Below wt.heap.size wt w' → K9 ⟨(z0 :: .int .i64 (m : Int) :: z2 :: .pointer (some ⟨w.heap.size, 0, none⟩) :: z4 :: .pointer (some ⟨w.heap.size + 1, 0, none⟩) :: .slice none 0 0 :: .bool false :: .bool false :: .pointer (some ⟨w.heap.size + 1 + 1, 0, none⟩) :: .pointer (some ⟨w3.heap.size, 0, none⟩) :: .slice (some ⟨w4.heap.size, 0, none⟩) 1 1 :: .pointer (some ⟨w7.heap.size, 0, none⟩) :: .pointer (some ⟨w7.heap.size + 1, 0, none⟩) :: .pointer (some ⟨w11.heap.size, 0, none⟩) :: .bool false :: .bool yb :: .bool nb :: t18 :: tl').toArray, []⟩ w') := fun ev t18 w' tl' hl' ER he hB => by
  obtain ⟨es, ec, rfl, -, -⟩ := ER.form
  obtain ⟨u, rfl⟩ := list_u tl' _ hl'
  refine HK9.out _ _ ?_
  simp only [List.range, List.range.loop, List.map, List.cons_append, List.nil_append]
  have IC := IT.call hB
  have ei := IC.1 0 _ rfl
  rw [HKK.out] at ei
  have BC := BT.trans (hB.mono BT.size)
  have YWC := YWT.trans (hB.mono YWT.size)
  have YC := YT.call hB
  have OC := OT.call hB
  have zw := BT.size
  have hev : ev.length ≤ 10 := by
   have h := congrArg List.length he.out
   rw [List.length_map] at h
   rw [h]
   cases yb <;> simp
  go_upto_if 153 with fail
  clear ei
  rename_i K8 hK8
  have HK8 := hideH hK8
  clear hK8
  have HR8 : Hid (∀ (ev : List Ed) (t18 : Value) (w' : World) (tl' : List Value), tl'.length = 319 → ERow w.heap.size w3.heap.size w' t18 ev → Hid (ev.map edG = (if yb then [(⟨ta, setVar x i.a (trueGs x.vars[ka])⟩ : Edg)] else []) ++ (if nb then [(⟨(m : Int) + 1, setVar x i.a (falseGs x.vars[ka])⟩ : Edg)] else [])) → Below w.heap.size w w' → K8 ⟨(z0 :: .int .i64 (m : Int) :: z2 :: .pointer (some ⟨w.heap.size, 0, none⟩) :: z4 :: .pointer (some ⟨w.heap.size + 1, 0, none⟩) :: .slice none 0 0 :: .bool false :: .bool false :: .pointer (some ⟨w.heap.size + 1 + 1, 0, none⟩) :: .pointer (some ⟨w3.heap.size, 0, none⟩) :: .slice (some ⟨w4.heap.size, 0, none⟩) 1 1 :: .pointer (some ⟨w7.heap.size, 0, none⟩) :: .pointer (some ⟨w7.heap.size + 1, 0, none⟩) :: .pointer (some ⟨w11.heap.size, 0, none⟩) :: .bool false :: .bool yb :: .bool nb :: t18 :: tl').toArray, []⟩ w') := fun ev t18 w' tl' hl' ER he hB => by
   obtain ⟨es, ec, rfl, -, -⟩ := ER.form
   obtain ⟨u, rfl⟩ := list_u tl' _ hl'
   refine HK8.out _ _ ?_
   simp only [List.range, List.range.loop, List.map, List.cons_append, List.nil_append]
   go_wp2
   refine bodyPost_ret (v := .tuple #[.slice es ev.length ec, .bool false, .bool false]) (by simp [results, Tryz.results7, go_sem]) rfl ⟨?_, hB⟩
   rw [HST.out, ← he.out]
   exact ⟨es, ec, by rw [List.length_map], ER.eds.mono fun b hb _ => .inr (by omega)⟩
  rcases Bool.eq_false_or_eq_true nb with hs0 | hs0
  ·have hsn := hideH hs0
   refine wp_cond_split (congrArg Value.bool hs0) (fun _ => ?_) (fun h => by cases h)
   clear hs0
   exact test_no (z := fun k => ([z0, .int .i64 (m : Int), z2, .pointer (some ⟨w.heap.size, 0, none⟩), z4, .pointer (some ⟨w.heap.size + 1, 0, none⟩), .slice none 0 0, .bool false, .bool false, .pointer (some ⟨w.heap.size + 1 + 1, 0, none⟩), .pointer (some ⟨w3.heap.size, 0, none⟩), .slice (some ⟨w4.heap.size, 0, none⟩) 1 1, .pointer (some ⟨w7.heap.size, 0, none⟩), .pointer (some ⟨w7.heap.size + 1, 0, none⟩), .pointer (some ⟨w11.heap.size, 0, none⟩), .bool false, .bool yb, .bool nb] : List Value).getD k (.bool false)) rfl (by rfl) rfl rfl rfl HKAV.out EPV.out GOW o2 o3 o4x hev hkax IC YC OC YWC BC ER fun ev' t18' w'' tl'' q1 q2 q3 q4 => HR8.out ev' t18' w'' tl'' q1 q2 (by show _ = _; rw [q3.out, he.out, hsn.out]; rfl) q4
  ·have hsn := hideH hs0
   refine wp_cond_split (congrArg Value.bool hs0) (fun h => by cases h) (fun _ => ?_)
   clear hs0
   refine wp_skip ?_
   exact HR8.out ev _ w' _ (by rfl) (ER.down (by omega)) (by show _ = _; rw [he.out, hsn.out]; simp) BC
 rcases Bool.eq_false_or_eq_true yb with hs0 | hs0
 ·have hsn := hideH hs0
  refine wp_cond_split (congrArg Value.bool hs0) (fun _ => ?_) (fun h => by cases h)
  clear hs0
  exact test_yes (z := fun k => ([z0, .int .i64 (m : Int), z2, .pointer (some ⟨w.heap.size, 0, none⟩), z4, .pointer (some ⟨w.heap.size + 1, 0, none⟩), .slice none 0 0, .bool false, .bool false, .pointer (some ⟨w.heap.size + 1 + 1, 0, none⟩), .pointer (some ⟨w3.heap.size, 0, none⟩), .slice (some ⟨w4.heap.size, 0, none⟩) 1 1, .pointer (some ⟨w7.heap.size, 0, none⟩), .pointer (some ⟨w7.heap.size + 1, 0, none⟩), .pointer (some ⟨w11.heap.size, 0, none⟩), .bool false, .bool yb, .bool nb] : List Value).getD k (.bool false)) ta rfl (by rfl) rfl rfl rfl HK.out HX.out (.inr ⟨HKK.out, HTA.out⟩) HKAV.out hkax IT XT BT (by have := OT.2.1; omega) fun ev t18 w' tl' q1 q2 q3 q4 => HR.out ev t18 w' tl' q1 q2 (by show _ = _; rw [q3.out, hsn.out]; rfl) q4
 ·have hsn := hideH hs0
  refine wp_cond_split (congrArg Value.bool hs0) (fun h => by cases h) (fun _ => ?_)
  clear hs0
  refine wp_skip ?_
  exact HR.out [] _ wt _ (by rfl) (ERow.nil _ _ _) (by show _ = _; rw [hsn.out]; rfl) (Below.refl _ _)
end
section
set_option maxHeartbeats 2000000
set_option maxRecDepth 20000
open Go.RowKit
attribute [local go_sem ↓] Go.wp_at_zero Go.wp_at_succ

theorem stepP_none {S : Nat → Prop} (V F : Int) (s : Option Addr) (c : List Ins) (cap : Nat) (at_ : Int) (i : Ins) (x : Pic) (vs : Option Addr) (vc : Nat) (fs : Option Addr) (fc : Nat) (w : World) (hn : x.none = true) :
  Calls Tryz.prog 7 #[pv V F s c cap, .int .i64 at_, xv x vs vc fs fc] w fun e w' => StpAns S w' e (stepPic i at_ x) ∧ Below w.heap.size w w' := by
 have e : stepPic i at_ x = ([], false, false) := by unfold stepPic; rw [if_pos hn]
 have exv : xv x vs vc fs fc = .agg #[.bool true, .slice vs x.vars.length vc, .slice fs x.flds.length fc] := by unfold xv; rw [hn]
 rw [e, exv]
 clear e exv hn
 go_enter Tryz.func7, Tryz.ntmps7
 go_wp2
 refine bodyPost_ret (v := .tuple #[.slice none 0 0, .bool false, .bool false]) (by simp [results, Tryz.results7, go_sem]) rfl ⟨⟨none, 0, rfl, EdsOn.nil⟩, by go_grown⟩
theorem stepP_m {T : Nat → Prop} {V F : Int} {s : Option Addr} {c : List Ins} {cap m : Nat} {i : Ins} {x : Pic} {vs : Option Addr} {vc : Nat} {fs : Option Addr} {fc : Nat} {w : World} (hc : CodeAt w s c) (hx : PicOn T w x vs fs) (K : SCtx V F c x vc fc i (m : Int)) :
  Calls Tryz.prog 7 #[pv V F s c cap, .int .i64 (m : Int), xv x vs vc fs fc] w fun e w' => StpAns (fun b => T b ∨ w.heap.size ≤ b) w' e (stepPic i (m : Int) x) ∧ Below w.heap.size w w' := by
 have hk := (ckOne_parts K.one).1
 unfold btw at hk
 simp only [Bool.and_eq_true, decide_eq_true_eq] at hk
 by_cases h1 : i.k = 1
 ·exact stepPre_ff hc hx K (by rw [h1]; rfl) (by rw [h1]; rfl) (fun _ _ _ _ _ _ _ _ _ SP => stepT_1 hx K h1 SP)
 by_cases h2 : i.k = 2
 ·exact stepPre_ff hc hx K (by rw [h2]; rfl) (by rw [h2]; rfl) (fun _ _ _ _ _ _ _ _ _ SP => stepT_2 hx K h2 SP)
 by_cases h3 : i.k = 3
 ·exact stepPre_ff hc hx K (by rw [h3]; rfl) (by rw [h3]; rfl) (fun _ _ _ _ _ _ _ _ _ SP => stepT_3 hx K h3 SP)
 by_cases h11 : i.k = 11
 ·exact stepPre_ff hc hx K (by rw [h11]; rfl) (by rw [h11]; rfl) (fun _ _ _ _ _ _ _ _ _ SP => stepT_11 hx K h11 SP)
 by_cases h12 : i.k = 12
 ·exact stepPre_tf hc hx K (by rw [h12]; rfl) (by rw [h12]; rfl) (fun _ _ _ _ _ _ _ _ _ _ _ _ ha ea SP => stepT_12 hx K h12 ha ea SP)
 by_cases h13 : i.k = 13
 ·exact stepPre_tt hc hx K (by rw [h13]; rfl) (by rw [h13]; rfl) (fun _ _ _ _ _ _ _ _ _ _ _ _ ha ea _ _ _ hb eb SP => stepT_13 hx K h13 ha ea hb eb SP)
 by_cases h14 : i.k = 14
 ·exact stepPre_ff hc hx K (by rw [h14]; rfl) (by rw [h14]; rfl) (fun _ _ _ _ _ _ _ _ _ SP => stepT_14 hx K h14 SP)
 by_cases h15 : i.k = 15
 ·exact stepPre_tf hc hx K (by rw [h15]; rfl) (by rw [h15]; rfl) (fun _ _ _ _ _ _ _ _ _ _ _ _ ha ea SP => stepT_15 hx K h15 ha ea SP)
 by_cases h16 : i.k = 16
 ·exact stepPre_ff hc hx K (by rw [h16]; rfl) (by rw [h16]; rfl) (fun _ _ _ _ _ _ _ _ _ SP => stepT_16 hx K h16 SP)
 by_cases h17 : i.k = 17
 ·exact stepPre_tf hc hx K (by rw [h17]; rfl) (by rw [h17]; rfl) (fun _ _ _ _ _ _ _ _ _ _ _ _ ha ea SP => stepT_17 hx K h17 ha ea SP)
 by_cases h18 : i.k = 18
 ·exact stepPre_tf hc hx K (by rw [h18]; rfl) (by rw [h18]; rfl) (fun _ _ _ _ _ _ _ _ _ _ _ _ ha ea SP => stepT_18 hx K h18 ha ea SP)
 by_cases h19 : i.k = 19
 ·exact stepPre_ff hc hx K (by rw [h19]; rfl) (by rw [h19]; rfl) (fun _ _ _ _ _ _ _ _ _ SP => stepT_19 hx K h19 SP)
 have hr : 4 ≤ i.k ∧ i.k ≤ 10 := by omega
 have hA : nA i.k = true := by unfold nA btw; simp; omega
 rcases Bool.eq_false_or_eq_true (nB i.k) with hB | hB
 ·exact stepPre_tt hc hx K hA hB (fun _ _ _ _ _ _ _ _ _ _ _ _ ha ea _ _ _ hb eb SP => stepT_dob hx K hr ha ea hb eb SP)
 ·exact stepPre_tf hc hx K hA hB (fun _ _ _ _ _ _ _ _ _ _ _ _ ha ea SP => stepT_doa hx K hr hB ha ea SP)
/-- The document's step, whatever it is handed that is right. -/
theorem stepP_any (T : Nat → Prop) (V F : Int) (s : Option Addr) (c : List Ins) (cap : Nat) (at_ : Int) (x : Pic) (vs : Option Addr) (vc : Nat) (fs : Option Addr) (fc : Nat) (w : World) (hc : CodeAt w s c) (hx : PicOn T w x vs fs) (h0 : ckProg V F c = 0) (hck : ckPic V F c x = 0) (a0 : 0 ≤ at_) (a1 : at_ < c.length) (h1 : x.vars.length ≤ vc ∧ vc ≤ maxLen) (h2 : x.flds.length ≤ fc ∧ fc ≤ maxLen) :
  Calls Tryz.prog 7 #[pv V F s c cap, .int .i64 at_, xv x vs vc fs fc] w fun e w' => StpAns (fun b => T b ∨ w.heap.size ≤ b) w' e (stepPic (insAt c at_) at_ x) ∧ Below w.heap.size w w' := by
 rcases Bool.eq_false_or_eq_true x.none with hn | hn
 ·exact stepP_none V F s c cap at_ (insAt c at_) x vs vc fs fc w hn
 ·obtain ⟨m, rfl⟩ := Int.eq_ofNat_of_zero_le a0
  exact stepP_m hc hx ⟨h0, picOk_of hck hn, rfl, a0, a1, h1, h2⟩
end
section
set_option maxHeartbeats 4000000
set_option maxRecDepth 20000
open Go.RowKit
attribute [local go_sem ↓] Go.wp_at_zero Go.wp_at_succ

theorem sameGuesses_any (l : List Gs) (s1 : Option Addr) (c1 : Nat) (s2 : Option Addr) (c2 : Nat) (w : World) (hl : l.length ≤ maxLen) (h1 : GsAt w s1 l) (h2 : GsAt w s2 l) :
  Calls Tryz.prog 67 #[.slice s1 l.length c1, .slice s2 l.length c2] w fun e w' => e = .returned (.bool true) ∧ Below w.heap.size w w' := by
 have hm : maxLen ≤ 9223372036854775807 := by decide
 go_enter Tryz.func67, Tryz.ntmps67
 go_wp2
 go_loopw [5] (fun i wr => ∃ k : Nat, k ≤ l.length ∧ i = .int .i64 k ∧ Below w.heap.size w wr) (fun i _ => l.length - (intOf i).toNat)
 case atStart => exact ⟨0, Nat.zero_le _, rfl, Below.refl _ _⟩
 case round =>
  obtain ⟨k, hk, rfl, hbr⟩ := hrel
  by_cases hlt : k < l.length
  ·have n0 : (0 : Int) ≤ (k : Int) := by omega
   have n1 : (k : Int) < (l.length : Int) := by omega
   obtain ⟨b1, o1, rfl, ss1, g1, G1, I1, k1, m1⟩ := h1.below hbr (Nat.le_refl _) k hlt
   obtain ⟨b2, o2, rfl, ss2, g2, G2, I2, k2, m2⟩ := h2.below hbr (Nat.le_refl _) k hlt
   have hgl : l[k].s.length ≤ maxLen := Nat.le_trans k1 m1
   have HKZ := hideH (fun wx (hx : Below wr.heap.size wr wx) => And.intro (G1.call hx).1 (G2.call hx).1)
   have HD : Below wr.heap.size wr wr.drew := (Below.refl _ _).drew
   go_wp2
   refine wp_region_z (S := (fun wx => (wx.cell? ⟨b1, o1 + k * 7, none⟩ = some (.bool l[k].n) ∧ wx.cell? ⟨b1, o1 + k * 7 + 1, none⟩ = some (.bool l[k].sp.n) ∧ wx.cell? ⟨b1, o1 + k * 7 + 2, none⟩ = some (.int .i64 l[k].sp.lo) ∧ wx.cell? ⟨b1, o1 + k * 7 + 3, none⟩ = some (.int .i64 l[k].sp.hi) ∧ wx.cell? ⟨b1, o1 + k * 7 + 4, none⟩ = some (.bool l[k].t) ∧ wx.cell? ⟨b1, o1 + k * 7 + 5, none⟩ = some (.bool l[k].f) ∧ wx.cell? ⟨b1, o1 + k * 7 + 6, none⟩ = some (.slice ss1 l[k].s.length g1)) ∧ (wx.cell? ⟨b2, o2 + k * 7, none⟩ = some (.bool l[k].n) ∧ wx.cell? ⟨b2, o2 + k * 7 + 1, none⟩ = some (.bool l[k].sp.n) ∧ wx.cell? ⟨b2, o2 + k * 7 + 2, none⟩ = some (.int .i64 l[k].sp.lo) ∧ wx.cell? ⟨b2, o2 + k * 7 + 3, none⟩ = some (.int .i64 l[k].sp.hi) ∧ wx.cell? ⟨b2, o2 + k * 7 + 4, none⟩ = some (.bool l[k].t) ∧ wx.cell? ⟨b2, o2 + k * 7 + 5, none⟩ = some (.bool l[k].f) ∧ wx.cell? ⟨b2, o2 + k * 7 + 6, none⟩ = some (.slice ss2 l[k].s.length g2)))) [] (by kernel_rfl) (HKZ.out _ HD) (fun hHeld => ?_)
   refine tZ 0 ?_ ?_;refine sm ?_
   refine tZ 1 ?_ ?_;refine sm ?_
   refine tZ 2 ?_ ?_;refine sm ?_
   refine tZ 3 ?_ ?_;refine sm ?_
   refine tZ 4 ?_ ?_;refine sm ?_
   refine tZ 5 ?_ ?_;refine sm ?_
   refine tZ 6 ?_ ?_;refine sm ?_
   refine tZ 7 ?_ ?_;refine sm ?_
   refine wpAnyZ_one (i := 8) rfl (by kernel_rfl) (fun K hK => ?_)
   go_simp
   go_at_call 99
   refine (sameGuess_any l[k] ss1 g1 ss2 g2 _ (I1.call HD) (I2.call HD) hgl).mono ?_
   rintro e w5 ⟨rfl, hb5⟩
   have HB5 : Below wr.heap.size wr w5 := HD.trans (hb5.mono HD.size)
   go_wp2_with fail
   refine hK.out _ _ (HKZ.out _ HB5) (fun hHeld => ?_)
   clear hK K
   refine sm ?_
   refine tZ 9 ?_ ?_;refine sm ?_
   refine wpAnyZ_done (by kernel_rfl) ?_ _
   go_wp2
   go_roundw
   case rel => exact ⟨k + 1, by omega, by go_num, hbr.trans (HB5.mono hbr.size)⟩
   case measure => simp [intOf]; omega
  ·have n1 : ¬ (k : Int) < (l.length : Int) := by omega
   go_wp2
   go_ret
   exact ⟨rfl, hbr⟩

theorem samePicture_any (x : Pic) (vs1 : Option Addr) (vc1 : Nat) (fs1 : Option Addr) (fc1 : Nat) (vs2 : Option Addr) (vc2 : Nat) (fs2 : Option Addr) (fc2 : Nat) (w : World) (hl : LenPic x) (h1 : PicAt w x vs1 fs1) (h2 : PicAt w x vs2 fs2) :
  Calls Tryz.prog 31 #[xv x vs1 vc1 fs1 fc1, xv x vs2 vc2 fs2 fc2] w fun e w' => e = .returned (.bool true) ∧ Below w.heap.size w w' := by
 obtain ⟨hl1, hl2⟩ := hl
 have hm : maxLen ≤ 9223372036854775807 := by decide
 have hb0 : Below w.heap.size w ((w.alloc (.cells #[.bool x.none, .slice vs1 x.vars.length vc1, .slice fs1 x.flds.length fc1] 28)).alloc (.cells #[.bool x.none, .slice vs2 x.vars.length vc2, .slice fs2 x.flds.length fc2] 28)) := by go_grown
 have A0 := (XAt.new w x vs1 vc1 fs1 fc1).call (w' := ((w.alloc (.cells #[.bool x.none, .slice vs1 x.vars.length vc1, .slice fs1 x.flds.length fc1] 28)).alloc (.cells #[.bool x.none, .slice vs2 x.vars.length vc2, .slice fs2 x.flds.length fc2] 28))) (by go_grown)
 have B0 := XAt.new (w.alloc (.cells #[.bool x.none, .slice vs1 x.vars.length vc1, .slice fs1 x.flds.length fc1] 28)) x vs2 vc2 fs2 fc2
 rw [World.size_alloc] at B0
 have hP1 := h1.below hb0 (Nat.le_refl _)
 have hP2 := h2.below hb0 (Nat.le_refl _)
 have HS := hideH (sameGuesses_any x.vars vs1 vc1 vs2 vc2 ((w.alloc (.cells #[.bool x.none, .slice vs1 x.vars.length vc1, .slice fs1 x.flds.length fc1] 28)).alloc (.cells #[.bool x.none, .slice vs2 x.vars.length vc2, .slice fs2 x.flds.length fc2] 28)) hl1 hP1.1 hP2.1)
 clear h1 h2
 go_enter Tryz.func31, Tryz.ntmps31
 go_wp2_with (go_at_call 67; fail)
 refine HS.out.mono ?_
 rintro e w1 ⟨rfl, hb1⟩
 clear HS
 have R1 := hP1.2.below hb1 (Nat.le_refl _)
 have R2 := hP2.2.below hb1 (Nat.le_refl _)
 have A1 := A0.call hb1
 have B1 := B0.call hb1
 have H1 := hb0.trans (hb1.mono hb0.size)
 clear A0 B0 hP1 hP2 hb0 hb1
 obtain ⟨⟨a0, a1, a2⟩, az, -⟩ := id A1
 obtain ⟨⟨b0, b1, b2⟩, bz, -⟩ := id B1
 go_wp2
 clear a0 a1 a2 az b0 b1 b2 bz
 go_loopw [5] (fun i wr => ∃ k : Nat, k ≤ x.flds.length ∧ i = .int .i64 k ∧ Below w1.heap.size w1 wr) (fun i _ => x.flds.length - (intOf i).toNat)
 case atStart => exact ⟨0, Nat.zero_le _, rfl, Below.refl _ _⟩
 case round =>
  obtain ⟨k, hk, rfl, hbr⟩ := hrel
  obtain ⟨⟨a0, a1, a2⟩, az, -⟩ := id (A1.call hbr)
  obtain ⟨⟨b0, b1, b2⟩, bz, -⟩ := id (B1.call hbr)
  by_cases hlt : k < x.flds.length
  ·have n0 : (0 : Int) ≤ (k : Int) := by omega
   have n1 : (k : Int) < (x.flds.length : Int) := by omega
   obtain ⟨p1, q1, rfl, zp1, r1, rc1, C1, k1, m1, J1⟩ := R1.below hbr (Nat.le_refl _) k hlt
   obtain ⟨p2, q2, rfl, zp2, r2, rc2, C2, k2, m2, J2⟩ := R2.below hbr (Nat.le_refl _) k hlt
   have hgl : x.flds[k].length ≤ maxLen := Nat.le_trans k1 m1
   have HKZ : Hid (∀ wx, Below wr.heap.size wr wx → (wx.cell? ⟨w.heap.size, 2, none⟩ = some (.slice (some ⟨p1, q1, none⟩) x.flds.length fc1) ∧ wx.cell? ⟨p1, q1 + k, none⟩ = some (.slice r1 x.flds[k].length rc1)) ∧ (wx.cell? ⟨w.heap.size + 1, 2, none⟩ = some (.slice (some ⟨p2, q2, none⟩) x.flds.length fc2) ∧ wx.cell? ⟨p2, q2 + k, none⟩ = some (.slice r2 x.flds[k].length rc2))) := fun wx hx => ⟨⟨by rw [hx.cell (by simp only; exact az)]; exact a2, by rw [hx.cell (by simp only; exact zp1)]; exact C1⟩, by rw [hx.cell (by simp only; exact bz)]; exact b2, by rw [hx.cell (by simp only; exact zp2)]; exact C2⟩
   have HD : Below wr.heap.size wr wr.drew := (Below.refl _ _).drew
   go_wp2
   refine wp_region_z (S := (fun wx => (wx.cell? ⟨w.heap.size, 2, none⟩ = some (.slice (some ⟨p1, q1, none⟩) x.flds.length fc1) ∧ wx.cell? ⟨p1, q1 + k, none⟩ = some (.slice r1 x.flds[k].length rc1)) ∧ (wx.cell? ⟨w.heap.size + 1, 2, none⟩ = some (.slice (some ⟨p2, q2, none⟩) x.flds.length fc2) ∧ wx.cell? ⟨p2, q2 + k, none⟩ = some (.slice r2 x.flds[k].length rc2)))) [] (by kernel_rfl) (HKZ.out _ HD) (fun hHeld => ?_)
   refine tZ 0 ?_ ?_;refine sm ?_
   refine tZ 1 ?_ ?_;refine sm ?_
   refine tZ 2 ?_ ?_;refine sm ?_
   refine tZ 3 ?_ ?_;refine sm ?_
   refine tZ 4 ?_ ?_;refine sm ?_
   refine tZ 5 ?_ ?_;refine sm ?_
   refine tZ 6 ?_ ?_;refine sm ?_
   refine tZ 7 ?_ ?_;refine sm ?_
   refine tZ 8 ?_ ?_;refine sm ?_
   refine tZ 9 ?_ ?_;refine sm ?_
   refine wpAnyZ_one (i := 10) rfl (by kernel_rfl) (fun K hK => ?_)
   go_simp
   go_at_call 67
   refine (sameGuesses_any x.flds[k] r1 rc1 r2 rc2 _ hgl (J1.call HD) (J2.call HD)).mono ?_
   rintro e w5 ⟨rfl, hb5⟩
   have HB5 : Below wr.heap.size wr w5 := HD.trans (hb5.mono HD.size)
   go_wp2_with fail
   refine hK.out _ _ (HKZ.out _ HB5) (fun hHeld => ?_)
   clear hK K
   refine sm ?_
   refine tZ 11 ?_ ?_;refine sm ?_
   refine wpAnyZ_done (by kernel_rfl) ?_ _
   go_wp2
   go_roundw
   case rel => exact ⟨k + 1, by omega, by go_num, hbr.trans (HB5.mono hbr.size)⟩
   case measure => simp [intOf]; omega
  ·have n1 : ¬ (k : Int) < (x.flds.length : Int) := by omega
   go_wp2
   go_ret
   exact ⟨rfl, H1.trans (hbr.mono H1.size)⟩
end
end Go.Proofs.YtmapdpcfanecdabGreat
