/- Walks over the document's own answers: the word of a kind. -/
import Derived.Test.YtmapdpcfanecdabGreatKstpxp01
set_option linter.unusedSimpArgs false
set_option linter.unusedVariables false
namespace Go.Proofs.YtmapdpcfanecdabGreat
section
set_option maxHeartbeats 1000000
set_option maxRecDepth 100000
open Go.RowKit

theorem word_any (k : Int) (w : World) :
  Calls Tryz.prog 73 #[.int .i64 k] w fun e w' => e = .returned (.string (wordB k)) ∧ Below w.heap.size w w' := by
 by_cases h : btw k 1 19 = true
 ·rcases btw_cases h with rfl | rfl | rfl | rfl | rfl | rfl | rfl | rfl | rfl | rfl | rfl | rfl | rfl | rfl | rfl | rfl | rfl | rfl | rfl
  all_goals
   go_enter Tryz.func73, Tryz.ntmps73
   go_wp2_with (go_at_call 38; refine (between_any _ _ _ _).mono ?_; rintro e w' ⟨rfl, rfl⟩)
   go_ret
   exact ⟨rfl, by go_grown⟩
 ·have h : btw k 1 19 = false := by simpa using h
  have hw := wordB_none h
  go_enter Tryz.func73, Tryz.ntmps73
  go_wp2_with (go_at_call 38; refine (between_any _ _ _ _).mono ?_; rintro e w' ⟨rfl, rfl⟩)
  go_ret
  exact ⟨ret_str hw.symm, by go_grown⟩
theorem prf_933d6b {p : Prop} (h : p := by
 go_enter Tryz.func39, Tryz.ntmps39
 go_wp2_with (first
  | (go_at_call 38; refine (between_any _ _ _ _).mono ?_; rintro e w' ⟨rfl, rfl⟩)
  | (go_at_call 74; refine (namesTo_any _ _).mono ?_; rintro e w' ⟨rfl, rfl⟩)
  | (go_at_call 22; refine (namesA_any _ _).mono ?_; rintro e w' ⟨rfl, rfl⟩)
  | (go_at_call 23; refine (namesB_any _ _).mono ?_; rintro e w' ⟨rfl, rfl⟩)
  | (go_at_call 76; refine (namesN_any _ _).mono ?_; rintro e w' ⟨rfl, rfl⟩)
  | (go_at_call 75; refine (namesGoto_any _ _).mono ?_; rintro e w' ⟨rfl, rfl⟩)
  | (go_at_call 73; refine (word_any _ _).mono ?_; rintro e w1 ⟨rfl, hb1⟩; obtain ⟨hc1, hf1⟩ := bcell hb1))
 all_goals clear hc1 hf1
 all_goals go_ret
 all_goals exact ⟨ret_int (by simp_all [ckOne, btw19]), Below.trans (by go_grown) (hb1.mono (by go_size))⟩) : p := h
end
end Go.Proofs.YtmapdpcfanecdabGreat
