/- The cells of a part's list. -/
import Derived.Test.YtpgdiednpailbaaDoorCodeB
namespace Go.Proofs.YtpgdiednpailbaaDoor
set_option linter.unusedVariables false
set_option linter.unusedSimpArgs false
open Go.RowKit

theorem part_cell {N : Nat} {w : World} (h : ShpAt N shps w) (j i : Nat) (hj : j < shps.length) (hne : shps[j].2.2 ≠ []) (v : Value) (hv : (partCells shps[j].2.2)[i]? = some v) : w.cell? ⟨N + 1 + j, i, none⟩ = some v ∧ N + 1 + j < w.heap.size := by
  have hb := h.parts j hj hne
  exact ⟨by simp [World.cell?, hb, hv], (Array.getElem?_eq_some_iff.1 hb).1⟩
end Go.Proofs.YtpgdiednpailbaaDoor
