/- Walks over package span: what is reckoned: add. -/
import Derived.Test.YtmapdpcfanecdaaSpE
namespace Go.Proofs.Ytmapdpcfanecdaa
set_option linter.unusedVariables false
set_option linter.unusedSimpArgs false
open Go.RowKit

set_option maxHeartbeats 2000000 in
set_option maxRecDepth 100000 in
theorem reckon_add (lo hi lo' hi' : Int) (w : World) (h1 : wrap64 (lo + lo') = lo + lo') (h2 : wrap64 (lo + hi') = lo + hi') (h3 : wrap64 (hi + lo') = hi + lo') (h4 : wrap64 (hi + hi') = hi + hi') :
    Calls Try.prog 33 #[sv ⟨false, lo, hi⟩, sv ⟨false, lo', hi'⟩, .func (.func 34) #[] #[]] w fun e w' => e = .returned (sv (hull (lo + lo') (lo + hi') (hi + lo') (hi + hi'))) ∧ Below w.heap.size w w' := by
  have k1 : ∀ w : World, Calls Try.prog 34 #[.int .i64 lo, .int .i64 lo'] w fun e w' => e = .returned (.int .i64 (lo + lo')) ∧ ∃ n, w' = w.drewN n := fun w => (add_any lo lo' w h1).mono (by rintro e w' ⟨rfl, rfl⟩; exact ⟨rfl, 0, rfl⟩)
  have k2 : ∀ w : World, Calls Try.prog 34 #[.int .i64 lo, .int .i64 hi'] w fun e w' => e = .returned (.int .i64 (lo + hi')) ∧ ∃ n, w' = w.drewN n := fun w => (add_any lo hi' w h2).mono (by rintro e w' ⟨rfl, rfl⟩; exact ⟨rfl, 0, rfl⟩)
  have k3 : ∀ w : World, Calls Try.prog 34 #[.int .i64 hi, .int .i64 lo'] w fun e w' => e = .returned (.int .i64 (hi + lo')) ∧ ∃ n, w' = w.drewN n := fun w => (add_any hi lo' w h3).mono (by rintro e w' ⟨rfl, rfl⟩; exact ⟨rfl, 0, rfl⟩)
  have k4 : ∀ w : World, Calls Try.prog 34 #[.int .i64 hi, .int .i64 hi'] w fun e w' => e = .returned (.int .i64 (hi + hi')) ∧ ∃ n, w' = w.drewN n := fun w => (add_any hi hi' w h4).mono (by rintro e w' ⟨rfl, rfl⟩; exact ⟨rfl, 0, rfl⟩)
  generalize lo + lo' = a at k1 ⊢
  generalize lo + hi' = b at k2 ⊢
  generalize hi + lo' = c at k3 ⊢
  generalize hi + hi' = d at k4 ⊢
  clear h1 h2 h3 h4
  go_enter Try.func33, Try.ntmps33
  go_wp2
  go_quiet (first | exact Calls.quiet_of (k1 _) | exact Calls.quiet_of (k2 _) | exact Calls.quiet_of (k3 _) | exact Calls.quiet_of (k4 _))
  clear k1 k2 k3 k4
  by_cases h1 : inNum (min4 a b c d)
  · have e1 : decide (inNum (min4 a b c d)) = true := decide_eq_true h1
    by_cases h2 : inNum (max4 a b c d)
    · have e2 : decide (inNum (max4 a b c d)) = true := decide_eq_true h2
      go_wp2_with (go_at_call 40; refine (beyond_any _ _).mono ?_; rintro e w' ⟨rfl, rfl⟩)
      go_returns
      exact ⟨ret_sp (hull_in h1 h2), by go_grown; exact below_drewN (by go_grown) _⟩
    · have e2 : decide (inNum (max4 a b c d)) = false := decide_eq_false h2
      go_wp2_with (first | (go_at_call 40; refine (beyond_any _ _).mono ?_; rintro e w' ⟨rfl, rfl⟩) | (go_at_call 54; refine (all_eq _).mono ?_; rintro e w' ⟨rfl, rfl⟩))
      go_returns
      exact ⟨ret_sp (hull_hi h2), by go_grown; exact below_drewN (by go_grown) _⟩
  · have e1 : decide (inNum (min4 a b c d)) = false := decide_eq_false h1
    go_wp2_with (first | (go_at_call 40; refine (beyond_any _ _).mono ?_; rintro e w' ⟨rfl, rfl⟩) | (go_at_call 54; refine (all_eq _).mono ?_; rintro e w' ⟨rfl, rfl⟩))
    go_returns
    exact ⟨ret_sp (hull_lo h1), by go_grown; exact below_drewN (by go_grown) _⟩
end Go.Proofs.Ytmapdpcfanecdaa
