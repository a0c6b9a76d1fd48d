/- The cells of a part's list. -/
import Derived.Test.YtmapdpcfanecdaaDoorKlawpbp16
import Derived.Deep.QuietTactic
import Derived.BigQuiet
namespace Go.Proofs.YtmapdpcfanecdaaDoor
set_option linter.unusedVariables false
set_option linter.unusedSimpArgs false
open Go.RowKit

/-- What may stand in a part, and what is told of another number. -/
def lo (q : Int) : Int := if q = 4 then -2147483648 else 0
def hi (V F L q : Int) : Int := if q = 4 then 2147483647 else if q = 5 then 1 else if q = 6 then 1000000 else if q = 7 then F - 1 else if q = 3 then L else V - 1
def er (q : Int) : Int := if q = 4 ∨ q = 5 ∨ q = 6 then 3 else 5

set_option maxHeartbeats 1000000 in
theorem bounds_any (V F : Int) (s : Option Addr) (len cap : Nat) (q : Int) (w : World) (_hV : 1 ≤ V) (_hV' : V ≤ 8) (_hF : 0 ≤ F) (_hF' : F ≤ 3) (_hL : len ≤ 60) (hq : 0 ≤ q ∧ q ≤ 7) :
    Calls Tryd.prog 67 #[.agg #[.int .i64 V, .int .i64 F, .slice s len cap], .int .i64 q] w fun e w' => e = .returned (.tuple #[.int .i64 (lo q), .int .i64 (hi V F len q), .int .i64 (er q)]) ∧ Below w.heap.size w w' := by
  have : q = 0 ∨ q = 1 ∨ q = 2 ∨ q = 3 ∨ q = 4 ∨ q = 5 ∨ q = 6 ∨ q = 7 := by omega
  rcases this with rfl | rfl | rfl | rfl | rfl | rfl | rfl | rfl
  all_goals
    go_enter Tryd.func67, Tryd.ntmps67
    go_wp2
    try (go_quiet (fail); go_wp2)
    go_ret3
    exact ⟨rfl, by first | (go_grown; done) | exact below_drewN (by go_grown) _⟩
end Go.Proofs.YtmapdpcfanecdaaDoor

namespace Go.Proofs.YtmapdpcfanecdaaDoor
set_option linter.unusedVariables false
set_option linter.unusedSimpArgs false
open Go.RowKit

theorem part_cell {N : Nat} {w : World} (h : ShpAt N shps w) (j i : Nat) (hj : j < shps.length) (hne : shps[j].2.2 ≠ []) (v : Value) (hv : (partCells shps[j].2.2)[i]? = some v) : w.cell? ⟨N + 1 + j, i, none⟩ = some v ∧ N + 1 + j < w.heap.size := by
  have hb := h.parts j hj hne
  exact ⟨by simp [World.cell?, hb, hv], (Array.getElem?_eq_some_iff.1 hb).1⟩
end Go.Proofs.YtmapdpcfanecdaaDoor
