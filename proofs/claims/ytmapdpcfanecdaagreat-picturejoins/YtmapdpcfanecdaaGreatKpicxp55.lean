/- For every program and two pictures that the law PictureJoins is handed, it returns true and leaves them as they were: Check, Begin, Join, Within and Widen of package picture answer just what the document's own words ask, errors too. No condition. -/
import Derived.Test.YtmapdpcfanecdaaGreatKpicxp54
import Derived.Test.YtmapdpcfanecdaaGreatKpicxp46
import Derived.Test.YtmapdpcfanecdaaGreatKpicxp39
import Derived.Test.YtmapdpcfanecdaaGreatKpicxp34
import Derived.Test.YtmapdpcfanecdaaGreatKpicxp21
import Derived.Test.YtmapdpcfanecdaaGreatKpicxp07
import Derived.Test.YtmapdpcfanecdaaGreatRows
import Derived.Test.YtmapdpcfanecdaaGreatKpicxp01
import Derived.Test.YtmapdpcfanecdaaGreatKpicxp04
import Derived.WalkKit
import Derived.ProofKit
import Derived.OpenShut
import Derived.Carry
import Derived.Deep.DeepHandedRow
import Derived.Deep.DeepWitnessRowRef
namespace Go.Proofs.YtmapdpcfanecdaaGreat
set_option linter.unusedVariables false
set_option linter.unusedSimpArgs false
open Go.RowKit
attribute [local go_sem ↓] Go.wp_at_zero Go.wp_at_succ

theorem pictureJoins_any (V F : Int) (s : Option Addr) (c : List Ins) (cap : Nat) (x : Pic) (vs1 : Option Addr) (vc1 : Nat) (fs1 : Option Addr) (fc1 : Nat) (y : Pic) (vs2 : Option Addr) (vc2 : Nat) (fs2 : Option Addr) (fc2 : Nat) (w : World) (hcd : CodeAt w s c) (hx : PicAt w x vs1 fs1) (h1 : x.vars.length ≤ vc1 ∧ vc1 ≤ maxLen) (h2 : x.flds.length ≤ fc1 ∧ fc1 ≤ maxLen) (hy : PicAt w y vs2 fs2) (h3 : y.vars.length ≤ vc2 ∧ vc2 ≤ maxLen) (h4 : y.flds.length ≤ fc2 ∧ fc2 ≤ maxLen) :
    Calls Tryz.prog 5 #[pv V F s c cap, xv x vs1 vc1 fs1 fc1, xv y vs2 vc2 fs2 fc2] w fun e w' => e = .returned (.bool true) ∧ Below w.heap.size w w' := by
  refine pictureJoins_core V F s c cap x vs1 vc1 fs1 fc1 y vs2 vc2 fs2 fc2 (ckProg V F c) (ckPics V F c [x]) (ckPics V F c [x, y]) (if ckProg V F c = 0 then firstPic V F c else zeroPic) (if ckPics V F c [x, y] = 0 then joinPic (togGs joinSp) x y else zeroPic) (if ckPics V F c [x, y] = 0 then joinPic (togGs wideSp) x y else zeroPic) (if ckPics V F c [x, y] = 0 then inPic x y else false) w hcd hx h1 h2 hy h3 h4 ?_ ?_ ?_ ?_ ?_ ?_ ?_ ?_ ?_ ?_ ?_ ?_ ?_ ?_ ?_
  · exact fun wx hc => beginPU V F s c cap wx hc
  · exact fun wx hc k1 k2 => joinPF V F s c cap x vs1 vc1 fs1 fc1 y vs2 vc2 fs2 fc2 wx hc k1 h1 h2 k2 h3 h4
  · exact fun wx hc k1 k2 => widePF V F s c cap x vs1 vc1 fs1 fc1 y vs2 vc2 fs2 fc2 wx hc k1 h1 h2 k2 h3 h4
  · exact fun wx hc k1 k2 => withinPU V F s c cap x vs1 vc1 fs1 fc1 y vs2 vc2 fs2 fc2 wx hc k1 h1 h2 k2 h3 h4
  · exact fun wx hc => checkProgram_any V F s cap c wx hc
  · exact fun wx ls hc hL => checkPictures_any V F s c cap ls [x] 1 wx hc hL (by simp)
  · exact fun wx ls hc hL => checkPictures_any V F s c cap ls [x, y] 2 wx hc hL (by simp)
  · show _ → _
    intro h wx
    rw [if_pos h]
    obtain ⟨⟨hV, hV8⟩, ⟨hF, hF3⟩, h60⟩ := ckProg_lim h
    obtain ⟨v, rfl⟩ := Int.eq_ofNat_of_zero_le (show 0 ≤ V by omega)
    obtain ⟨f, rfl⟩ := Int.eq_ofNat_of_zero_le hF
    exact firstOf_any v f s c cap wx (by omega) (by omega) h60
  · show _ → _
    intro h S wx k1 k2
    obtain ⟨h0, hcx, hcy⟩ := ckPics_two h
    rw [if_pos h]
    exact joinPicture_low false (togGs joinSp) (joinC_of h0) x y vs1 vc1 fs1 fc1 vs2 vc2 fs2 fc2 wx S k1 k2 h0 hcx hcy
  · show _ → _
    intro h S wx k1 k2
    obtain ⟨h0, hcx, hcy⟩ := ckPics_two h
    rw [if_pos h]
    exact joinPicture_low true (togGs wideSp) (wideC_of h0) x y vs1 vc1 fs1 fc1 vs2 vc2 fs2 fc2 wx S k1 k2 h0 hcx hcy
  · show _ → _
    intro h wx k1 k2
    obtain ⟨h0, hcx, hcy⟩ := ckPics_two h
    rw [if_pos h]
    exact pictureIn_any x y vs1 vc1 fs1 fc1 vs2 vc2 fs2 fc2 wx k1 k2 h0 hcx hcy
  · exact fun wx hc k1 => checkP_any V F s c cap x vs1 vc1 fs1 fc1 wx hc k1 h1 h2
  · exact fun h => if_neg h
  · exact fun h => ⟨if_neg h, if_neg h, if_neg h⟩
  · exact pictureBegun_any
end Go.Proofs.YtmapdpcfanecdaaGreat

namespace Go.Proofs.YtmapdpcfanecdaaGreat
set_option linter.unusedVariables false
set_option linter.unusedSimpArgs false
open Go.ChangeShapes Go.WideShapes Go.ChangeAt Go.RowKit

namespace pictureJoins
theorem ownS : ownKnob Tryz.prog.godebug = none := by kernel_rfl
set_option maxRecDepth 100000 in
theorem contract (H : Type) (enc : TypeId × Value → H) (W : World) (base : Nat) (args : Array Value) (ds gs : List (DataW H)) (before : List MemPlace)
    (hval : ∀ (j : Nat) t v, Tryz.f5.params[j]? = some t → args[j]? = some v → Value.okWide Tryz.prog W .any base t v)
    (hW : DataW.Whole enc Tryz.prog Tryz.f5.params.toList Rows.pictureJoinsSpec.vars false W args.toList ds gs before) :
    Calls Tryz.prog 5 args W fun e W' => ∃ v, e = .returned v ∧ Rows.pictureJoinsSpec.post enc Tryz.prog Tryz.f5 false true false false W args v W' := by
  have hlt := hW.lt
  have hW' := hW
  obtain ⟨p, q, hA0, hV, rfl, hfz, hnd⟩ := hW
  have hA : DataW.TrodAll enc Tryz.prog W 0 (fun _ => true) true Tryz.f5.params.toList args.toList ds p := hA0
  rw [Tryz.params5] at hA hval
  obtain ⟨v0, vs0, d0, ds0, p0, q0, e0, rfl, rfl, h0, hr0⟩ := trodAll_cons hA
  obtain ⟨v1, vs1, d1, ds1, p1, q1, e1, rfl, rfl, h1, hr1⟩ := trodAll_cons hr0
  obtain ⟨v2, vs2, d2, ds2, p2, q2, e2, rfl, rfl, h2, hr2⟩ := trodAll_cons hr1
  obtain ⟨rfl, rfl, rfl⟩ := trodAll_nil hr2
  subst e1
  subst e2
  have ea : args = #[v0, v1, v2] := by cases args; simp_all
  subst ea
  obtain ⟨rfl, rfl⟩ := trodVars_none hV
  obtain ⟨V, F, s, cap, c, rfl, hl, hm, hcd, _⟩ := open_program (hval 0 24 v0 rfl rfl) h0
  obtain ⟨x, vs1, vc1, fs1, fc1, rfl, g1, g2, g3⟩ := open_picture (hval 1 58 v1 rfl rfl) h1
  obtain ⟨y, vs2, vc2, fs2, fc2, rfl, k1, k2, k3⟩ := open_picture (hval 2 58 v2 rfl rfl) h2
  refine (pictureJoins_any V F s c cap x vs1 vc1 fs1 fc1 y vs2 vc2 fs2 fc2 W hcd g3 g1 g2 k3 k1 k2).mono fun e W' ⟨he, hb⟩ => ?_
  subst he
  refine ⟨_, rfl, _, _, _, [], p0 ++ (p1 ++ (p2 ++ [])), [], hW', ?_, ?_, ?_, hb.frame _, fun h => by cases h⟩
  · exact trodAll_mk1 (shut_bool Tryz.underlying4 _)
  · rw [Tryz.params5]
    exact trodAll_cons_mk (Below.trod (by kernel_rfl) (by kernel_rfl) (of_decide_eq_true (by kernel_rfl)) h0 hb (fun x hx => hlt x (by simp [hx]))) (trodAll_cons_mk (Below.trod (by kernel_rfl) (by kernel_rfl) (of_decide_eq_true (by kernel_rfl)) h1 hb (fun x hx => hlt x (by simp [hx]))) (trodAll_cons_mk (Below.trod (by kernel_rfl) (by kernel_rfl) (of_decide_eq_true (by kernel_rfl)) h2 hb (fun x hx => hlt x (by simp [hx]))) (rfl)))
  · rfl

theorem witness_row (os : Os) {H : Type} (enc : TypeId × Value → H) :
    (OpenSpec.ofChange Rows.pictureJoinsSpec).preRow enc Tryz.prog Tryz.f5 Rows.pictureJoinsRow.domain false Rows.pictureJoinsRow.laid ((World.settled Tryz.prog os).forCall (fun _ _ => 0) ⟨#[], #[.agg #[.int .i64 0, .int .i64 0, .slice none 0 0], .agg #[.bool false, .slice none 0 0, .slice none 0 0], .agg #[.bool false, .slice none 0 0, .slice none 0 0]], []⟩).memory #[.agg #[.int .i64 0, .int .i64 0, .slice none 0 0], .agg #[.bool false, .slice none 0 0, .slice none 0 0], .agg #[.bool false, .slice none 0 0, .slice none 0 0]] := by
  have hw : (DataW.whole enc Tryz.prog ((World.settled Tryz.prog os).forCall (fun _ _ => 0) ⟨#[], #[.agg #[.int .i64 0, .int .i64 0, .slice none 0 0], .agg #[.bool false, .slice none 0 0, .slice none 0 0], .agg #[.bool false, .slice none 0 0, .slice none 0 0]], []⟩).memory Tryz.f5.params.toList Rows.pictureJoinsSpec.vars false #[Value.agg #[.int .i64 0, .int .i64 0, .slice none 0 0], .agg #[.bool false, .slice none 0 0, .slice none 0 0], .agg #[.bool false, .slice none 0 0, .slice none 0 0]].toList 8).isSome = true := by kernel_rfl
  obtain ⟨x, hx⟩ := Option.isSome_iff_exists.1 hw
  exact OpenSpec.preRow_of_cond 8 hx rfl (fun k hk => by cases hk) (by kernel_rfl) ⟨[], rfl, List.nodup_nil, fun b off h => by cases h⟩

set_option maxRecDepth 100000 in
theorem lifted (os : Os) (started : os.Started) (H : Type) (enc : TypeId × Value → H) (F : Stop.Interp) :
    ReturnsInHanded {} Tryz.checked os 5 .any ((OpenSpec.ofChange Rows.pictureJoinsSpec).preRow enc Tryz.prog Tryz.f5 Rows.pictureJoinsRow.domain false Rows.pictureJoinsRow.laid) (((OpenSpec.ofChange Rows.pictureJoinsSpec).at F).post enc Tryz.prog Tryz.f5 false true false false) := by
  refine returnsInHanded_of_row (C := Tryz.checked) (s := OpenSpec.ofChange Rows.pictureJoinsSpec) ownS started (by kernel_rfl) Tryz.func5
    (witness_row_atRef (enc := enc) (C := Tryz.checked) false (World.settled Tryz.prog os) #[.agg #[.int .i64 0, .int .i64 0, .slice none 0 0], .agg #[.bool false, .slice none 0 0, .slice none 0 0], .agg #[.bool false, .slice none 0 0, .slice none 0 0]] rfl (by kernel_rfl) (by kernel_rfl) (by kernel_rfl) (witness_row os enc)) ?_
  intro W base args ds gs before hval hW _ _ _ hL hS _
  exact contract H enc W base args ds gs before hval hW
end pictureJoins

theorem pictureJoins_holds : Rows.PictureJoinsSaid :=
  OpenClaim.holds_of_cond 5 Tryz.f5 rfl rfl rfl rfl rfl rfl rfl ⟨rfl, rfl, rfl, rfl, rfl⟩ rfl rfl rfl rfl rfl (by kernel_rfl) Tryz.func5 (by kernel_rfl)
    (of_decide_eq_true (by kernel_rfl)) (by unfold Func.isWrapper; first | (rw [if_pos (by decide +kernel)]; kernel_rfl) | (rw [if_neg (by decide +kernel)]; exact ⟨rfl, rfl⟩))
    (fun os started H enc _ F => by rw [OpenClaim.pre_eq_preRow]; exact pictureJoins.lifted os started H enc F)
end Go.Proofs.YtmapdpcfanecdaaGreat
