/- Walks over the document's own answers: the small tests. -/
import Derived.Test.YtmapdpcfanecdaaDoorKlawhp05
namespace Go.Proofs.YtmapdpcfanecdaaDoor
set_option linter.unusedVariables false
set_option linter.unusedSimpArgs false
open Go.RowKit

set_option maxHeartbeats 400000 in
theorem namesTo_any (k : Int) (w : World) :
    Calls Tryd.prog 57 #[.int .i64 k] w fun e w' => e = .returned (.bool (nTo k)) ∧ w' = w := by
  unfold nTo
  go_enter Tryd.func57, Tryd.ntmps57
  go_wp2_with (go_at_call 36; refine (between_any _ _ _ _).mono ?_; rintro e w' ⟨rfl, rfl⟩)
  all_goals go_ret
  all_goals exact ⟨ret_bool (by simp_all [BEq.beq]), rfl⟩

set_option maxHeartbeats 400000 in
theorem namesA_any (k : Int) (w : World) :
    Calls Tryd.prog 51 #[.int .i64 k] w fun e w' => e = .returned (.bool (nA k)) ∧ w' = w := by
  unfold nA
  go_enter Tryd.func51, Tryd.ntmps51
  go_wp2_with (go_at_call 36; refine (between_any _ _ _ _).mono ?_; rintro e w' ⟨rfl, rfl⟩)
  all_goals go_ret
  all_goals exact ⟨ret_bool (by simp_all [BEq.beq]), rfl⟩

set_option maxHeartbeats 400000 in
theorem namesB_any (k : Int) (w : World) :
    Calls Tryd.prog 52 #[.int .i64 k] w fun e w' => e = .returned (.bool (nB k)) ∧ w' = w := by
  unfold nB
  go_enter Tryd.func52, Tryd.ntmps52
  go_wp2_with (go_at_call 36; refine (between_any _ _ _ _).mono ?_; rintro e w' ⟨rfl, rfl⟩)
  all_goals go_ret
  all_goals exact ⟨ret_bool (by simp_all [BEq.beq]), rfl⟩

set_option maxHeartbeats 400000 in
theorem namesN_any (k : Int) (w : World) :
    Calls Tryd.prog 66 #[.int .i64 k] w fun e w' => e = .returned (.bool (nN k)) ∧ w' = w := by
  unfold nN
  go_enter Tryd.func66, Tryd.ntmps66
  go_wp2_with (go_at_call 36; refine (between_any _ _ _ _).mono ?_; rintro e w' ⟨rfl, rfl⟩)
  all_goals go_ret
  all_goals exact ⟨ret_bool (by simp_all [BEq.beq]), rfl⟩

set_option maxHeartbeats 400000 in
theorem namesGoto_any (k : Int) (w : World) :
    Calls Tryd.prog 40 #[.int .i64 k] w fun e w' => e = .returned (.bool (nG k)) ∧ w' = w := by
  unfold nG
  go_enter Tryd.func40, Tryd.ntmps40
  go_wp2
  all_goals go_ret
  all_goals exact ⟨ret_bool (by simp_all [BEq.beq]), rfl⟩
end Go.Proofs.YtmapdpcfanecdaaDoor
