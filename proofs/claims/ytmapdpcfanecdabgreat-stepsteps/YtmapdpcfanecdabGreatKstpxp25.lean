/- Walks over the document's own answers on spans: JoinSpan of two that have numbers. -/
import Derived.Test.YtmapdpcfanecdabGreatKstpxp09
set_option linter.unusedSimpArgs false
set_option linter.unusedVariables false
namespace Go.Proofs.YtmapdpcfanecdabGreat
section
set_option maxHeartbeats 4000000
set_option maxRecDepth 20000
open Go.RowKit

theorem joinSpan_f (lo hi lo' hi' : Int) (w : World) :
  Calls Tryz.prog 58 #[sv ⟨false, lo, hi⟩, sv ⟨false, lo', hi'⟩, .bool false] w fun e w' => e = .returned (sv ⟨false, min lo lo', max hi hi'⟩) ∧ Below w.heap.size w w' := by
 go_enter Tryz.func58, Tryz.ntmps58
 go_wp2
 go_region_held3 (fun w' => w'.cell? ⟨w.heap.size, 1, none⟩ = some (.int .i64 lo) ∧ w'.cell? ⟨w.heap.size, 2, none⟩ = some (.int .i64 hi) ∧ w'.cell? ⟨w.heap.size + 1, 1, none⟩ = some (.int .i64 lo') ∧ w'.cell? ⟨w.heap.size + 1, 2, none⟩ = some (.int .i64 hi')) (simp [go_sem])
  (first
   | (go_at_call 94; refine (least2 _ _ lo lo' _ (by simp [go_sem]) (by simp [go_sem])).mono ?_; rintro e w' ⟨rfl, rfl⟩)
   | (go_at_call 95; refine (most2 _ _ hi hi' _ (by simp [go_sem]) (by simp [go_sem])).mono ?_; rintro e w' ⟨rfl, rfl⟩))
 all_goals go_wp2
 all_goals go_returns
 all_goals exact ⟨rfl, by go_grown⟩
end
end Go.Proofs.YtmapdpcfanecdabGreat
