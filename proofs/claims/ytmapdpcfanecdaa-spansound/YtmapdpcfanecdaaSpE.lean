/- Walks over package span: what is reckoned. -/
import Derived.Test.YtmapdpcfanecdaaSpD
import Derived.Lib.MinMax
namespace Go.Proofs.Ytmapdpcfanecdaa
set_option linter.unusedVariables false
set_option linter.unusedSimpArgs false
open Go.RowKit

@[go_sem] theorem run_min4 {P : Program} (w : World) (ts : Array TypeId) (t : TypeId) (a b c d : Int) :
    (Builtin.min_ ts t #[.int .i64 a, .int .i64 b, .int .i64 c, .int .i64 d]).run P w = .ok (.int .i64 (min4 a b c d)) w := by
  have e : ∀ x y : Int, (if y < x then y else x) = min x y := fun x y => by split <;> omega
  simp [Builtin.min_, Builtin.min2, e, min4]

@[go_sem] theorem run_max4 {P : Program} (w : World) (ts : Array TypeId) (t : TypeId) (a b c d : Int) :
    (Builtin.max_ ts t #[.int .i64 a, .int .i64 b, .int .i64 c, .int .i64 d]).run P w = .ok (.int .i64 (max4 a b c d)) w := by
  have e : ∀ x y : Int, (if x < y then y else x) = max x y := fun x y => by split <;> omega
  simp [Builtin.max_, Builtin.max2, e, max4]

set_option maxHeartbeats 1000000 in
theorem reckon_none (F : Nat) (s t : Sp) (w : World) (h : (s.n || t.n) = true) :
    Calls Try.prog 33 #[sv s, sv t, .func (.func F) #[] #[]] w fun e w' => e = .returned (sv ⟨true, 0, 0⟩) ∧ Below w.heap.size w w' := by
  obtain ⟨n, lo, hi⟩ := s
  obtain ⟨n', lo', hi'⟩ := t
  cases n with
  | true =>
    go_enter Try.func33, Try.ntmps33
    go_wp2_with (go_at_call 41; refine (none_eq _).mono ?_; rintro e w1 ⟨rfl, rfl⟩)
    go_returns
    exact ⟨rfl, by go_grown⟩
  | false =>
    cases n' with
    | true =>
      go_enter Try.func33, Try.ntmps33
      go_wp2_with (go_at_call 41; refine (none_eq _).mono ?_; rintro e w1 ⟨rfl, rfl⟩)
      go_returns
      exact ⟨rfl, by go_grown⟩
    | false => simp at h

theorem hull_in {a b c d : Int} (h1 : inNum (min4 a b c d)) (h2 : inNum (max4 a b c d)) : hull a b c d = ⟨false, min4 a b c d, max4 a b c d⟩ := if_pos ⟨h1, h2⟩
theorem hull_lo {a b c d : Int} (h1 : ¬ inNum (min4 a b c d)) : hull a b c d = ⟨false, -2147483648, 2147483647⟩ := if_neg (fun h => h1 h.1)
theorem hull_hi {a b c d : Int} (h1 : ¬ inNum (max4 a b c d)) : hull a b c d = ⟨false, -2147483648, 2147483647⟩ := if_neg (fun h => h1 h.2)
end Go.Proofs.Ytmapdpcfanecdaa
