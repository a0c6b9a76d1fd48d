/- Walks over the document's own answers on spans: JoinSpan of two that have numbers. -/
import Derived.Test.YtmapdpcfanecdaaSpS
namespace Go.Proofs.Ytmapdpcfanecdaa
set_option linter.unusedVariables false
set_option linter.unusedSimpArgs false
open Go.RowKit

set_option maxHeartbeats 4000000 in
set_option maxRecDepth 20000 in
theorem joinSpan_w (lo hi lo' hi' : Int) (w : World) :
    Calls Try.prog 15 #[sv ⟨false, lo, hi⟩, sv ⟨false, lo', hi'⟩, .bool true] w fun e w' => e = .returned (sv (wideSp ⟨false, lo, hi⟩ ⟨false, lo', hi'⟩)) ∧ Below w.heap.size w w' := by
  go_enter Try.func15, Try.ntmps15
  go_wp2
  go_region_held3 (fun w' => w'.cell? ⟨w.heap.size, 1, none⟩ = some (.int .i64 lo) ∧ w'.cell? ⟨w.heap.size, 2, none⟩ = some (.int .i64 hi) ∧ w'.cell? ⟨w.heap.size + 1, 1, none⟩ = some (.int .i64 lo') ∧ w'.cell? ⟨w.heap.size + 1, 2, none⟩ = some (.int .i64 hi')) (simp [go_sem])
    (first
      | (go_at_call 38; refine (least2 _ _ lo lo' _ (by simp [go_sem]) (by simp [go_sem])).mono ?_; rintro e w' ⟨rfl, rfl⟩)
      | (go_at_call 39; refine (most2 _ _ hi hi' _ (by simp [go_sem]) (by simp [go_sem])).mono ?_; rintro e w' ⟨rfl, rfl⟩))
  all_goals go_wp2
  all_goals go_returns
  all_goals exact ⟨ret_sp (wide_ff (by split <;> omega) (by split <;> omega)), by go_grown⟩
end Go.Proofs.Ytmapdpcfanecdaa
