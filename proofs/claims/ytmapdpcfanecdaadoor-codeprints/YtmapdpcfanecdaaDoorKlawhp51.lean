/- The law's small program. -/
import Derived.Test.YtmapdpcfanecdaaDoorKlawhp07
namespace Go.Proofs.YtmapdpcfanecdaaDoor
set_option linter.unusedVariables false
set_option linter.unusedSimpArgs false
open Go.RowKit

def smallC : List Ins := [⟨1, 0, 0, 0, 5, 0⟩, ⟨18, 0, 0, 0, 0, 0⟩]

/-- The small text. -/
def text0 : ByteArray := ⟨#[118, 97, 114, 115, 32, 49, 32, 102, 105, 101, 108, 100, 115, 32, 48, 10, 110, 117, 109, 98, 101, 114, 32, 48, 32, 53, 10, 112, 114, 105, 110, 116, 32, 48, 10]⟩

set_option maxHeartbeats 1000000 in
set_option maxRecDepth 20000 in
theorem small_any (w : World) :
    Calls Tryd.prog 41 #[] w fun e w' => ∃ b, e = .returned (.agg #[.int .i64 1, .int .i64 0, .slice (some ⟨b, 0, none⟩) 2 2]) ∧ CodeAt w' (some ⟨b, 0, none⟩) smallC ∧ Below w.heap.size w w' := by
  go_enter Tryd.func41, Tryd.ntmps41
  go_wp2
  refine bodyPost_ret (v := .agg #[.int .i64 1, .int .i64 0, .slice (some ⟨w.heap.size + 1, 0, none⟩) 2 2]) (by simp [results, Tryd.results41, go_sem]) rfl ⟨w.heap.size + 1, rfl, .inr ⟨_, _, rfl, by simp, ?_⟩, by go_grown⟩
  intro k hk
  match k, hk with
  | 0, _ => refine ⟨?_, ?_, ?_, ?_, ?_, ?_⟩ <;> simp [go_sem, smallC]
  | 1, _ => refine ⟨?_, ?_, ?_, ?_, ?_, ?_⟩ <;> simp [go_sem, smallC]
  | k + 2, h => simp [smallC] at h; omega
end Go.Proofs.YtmapdpcfanecdaaDoor
