/- Walks over package span: the small functions. -/
import Derived.Test.YtmapdpcfanecdaaBase
import Derived.Test.YtmapdpcfanecdaaPureS
import Derived.BigQuiet
import Derived.Deep.RegionHeld3
import Derived.Lib.QuietBelow
namespace Go.Proofs.Ytmapdpcfanecdaa
set_option linter.unusedVariables false
set_option linter.unusedSimpArgs false
open Go.RowKit

/-- A span as the program holds it. -/
abbrev sv (s : Sp) : Value := .agg #[.bool s.n, .int .i64 s.lo, .int .i64 s.hi]

theorem beyond_any (n : Int) (w : World) :
    Calls Try.prog 40 #[.int .i64 n] w fun e w' => e = .returned (.bool (!decide (inNum n))) ∧ w' = w := by
  have e1 : decide (inNum n) = (decide (-2147483648 ≤ n) && decide (n ≤ 2147483647)) := by unfold inNum; exact Bool.decide_and _ _
  rw [e1]
  by_cases h1 : n < -2147483648
  · go_enter Try.func40, Try.ntmps40
    go_wp2
    go_ret
    exact ⟨ret_bool (by simp <;> omega), rfl⟩
  · by_cases h2 : n > 2147483647
    · go_enter Try.func40, Try.ntmps40
      go_wp2
      go_ret
      exact ⟨ret_bool (by simp <;> omega), rfl⟩
    · go_enter Try.func40, Try.ntmps40
      go_wp2
      go_ret
      exact ⟨ret_bool (by simp <;> omega), rfl⟩

theorem none_eq (w : World) :
    Calls Try.prog 41 #[] w fun e w' => e = .returned (sv ⟨true, 0, 0⟩) ∧ w' = w.alloc (.cells #[.bool true, .int .i64 0, .int .i64 0] 23) := by
  go_enter Try.func41, Try.ntmps41
  go_wp2
  go_returns
  exact ⟨rfl, by simp [go_sem]⟩

theorem none_any (w : World) :
    Calls Try.prog 41 #[] w fun e w' => e = .returned (sv ⟨true, 0, 0⟩) ∧ Below w.heap.size w w' := by
  refine (none_eq w).mono ?_
  rintro e w' ⟨rfl, rfl⟩
  exact ⟨rfl, by go_grown⟩

theorem all_eq (w : World) :
    Calls Try.prog 54 #[] w fun e w' => e = .returned (sv ⟨false, -2147483648, 2147483647⟩) ∧ w' = w.alloc (.cells #[.bool false, .int .i64 (-2147483648), .int .i64 2147483647] 23) := by
  go_enter Try.func54, Try.ntmps54
  go_wp2
  go_returns
  exact ⟨rfl, by simp [go_sem]⟩

theorem all_any (w : World) :
    Calls Try.prog 54 #[] w fun e w' => e = .returned (sv ⟨false, -2147483648, 2147483647⟩) ∧ Below w.heap.size w w' := by
  refine (all_eq w).mono ?_
  rintro e w' ⟨rfl, rfl⟩
  exact ⟨rfl, by go_grown⟩

theorem add_any (n m : Int) (w : World) (h : wrap64 (n + m) = n + m) :
    Calls Try.prog 34 #[.int .i64 n, .int .i64 m] w fun e w' => e = .returned (.int .i64 (n + m)) ∧ w' = w := by
  go_enter Try.func34, Try.ntmps34
  go_wp2
  go_ret
  exact ⟨ret_int h, rfl⟩

theorem sub_any (n m : Int) (w : World) (h : wrap64 (n - m) = n - m) :
    Calls Try.prog 35 #[.int .i64 n, .int .i64 m] w fun e w' => e = .returned (.int .i64 (n - m)) ∧ w' = w := by
  go_enter Try.func35, Try.ntmps35
  go_wp2
  go_ret
  exact ⟨ret_int h, rfl⟩

theorem mul_any (n m : Int) (w : World) (h : wrap64 (n * m) = n * m) :
    Calls Try.prog 36 #[.int .i64 n, .int .i64 m] w fun e w' => e = .returned (.int .i64 (n * m)) ∧ w' = w := by
  go_enter Try.func36, Try.ntmps36
  go_wp2
  go_ret
  exact ⟨ret_int h, rfl⟩

set_option maxHeartbeats 1000000 in
theorem check_1 (n : Bool) (lo hi : Int) (w : World) (h : ¬ inNum lo) :
    Calls Try.prog 20 #[sv ⟨n, lo, hi⟩] w fun e w' => e = .returned (.int .i64 3) ∧ Below w.heap.size w w' := by
  have h1 : decide (inNum lo) = false := by simpa using h
  go_enter Try.func20, Try.ntmps20
  go_wp2_with (go_at_call 40; refine (beyond_any _ _).mono ?_; rintro e w' ⟨rfl, rfl⟩)
  go_ret
  exact ⟨rfl, by go_grown⟩

set_option maxHeartbeats 1000000 in
theorem check_2 (n : Bool) (lo hi : Int) (w : World) (h : inNum lo) (h' : ¬ inNum hi) :
    Calls Try.prog 20 #[sv ⟨n, lo, hi⟩] w fun e w' => e = .returned (.int .i64 3) ∧ Below w.heap.size w w' := by
  have h1 : decide (inNum lo) = true := by simpa using h
  have h2 : decide (inNum hi) = false := by simpa using h'
  go_enter Try.func20, Try.ntmps20
  go_wp2_with (go_at_call 40; refine (beyond_any _ _).mono ?_; rintro e w' ⟨rfl, rfl⟩)
  go_ret
  exact ⟨rfl, by go_grown⟩

set_option maxHeartbeats 1000000 in
theorem check_3a (lo hi : Int) (w : World) (h : inNum lo) (h' : inNum hi) (hz : (lo == 0) = false) :
    Calls Try.prog 20 #[sv ⟨true, lo, hi⟩] w fun e w' => e = .returned (.int .i64 1) ∧ Below w.heap.size w w' := by
  have h1 : decide (inNum lo) = true := by simpa using h
  have h2 : decide (inNum hi) = true := by simpa using h'
  have c0 := cell_regrown (w := w.alloc (.cells #[.bool true, .int .i64 lo, .int .i64 hi] 23)) (a := ⟨w.heap.size, 0, none⟩) (v := .bool true) (by simp [go_sem])
  have c1 := cell_regrown (w := w.alloc (.cells #[.bool true, .int .i64 lo, .int .i64 hi] 23)) (a := ⟨w.heap.size, 1, none⟩) (v := .int .i64 lo) (by simp [go_sem])
  have c2 := cell_regrown (w := w.alloc (.cells #[.bool true, .int .i64 lo, .int .i64 hi] 23)) (a := ⟨w.heap.size, 2, none⟩) (v := .int .i64 hi) (by simp [go_sem])
  go_enter Try.func20, Try.ntmps20
  go_wp2_with (go_at_call 40; refine (beyond_any _ _).mono ?_; rintro e w' ⟨rfl, rfl⟩)
  refine wp_region_quiet_below (by kernel_rfl) (by kernel_rfl) ?_
  repeat (quiet_step (exact Calls.regrown_of (none_any _)))
  refine wpQuiet_nil ?_
  intro _ hw'
  obtain ⟨⟨dq, osq⟩, hw''⟩ := hw'
  subst hw''
  go_wp2
  go_ret
  exact ⟨rfl, Below.trans (by go_grown) ((below_regrown _ dq osq).mono (by go_size))⟩

set_option maxHeartbeats 1000000 in
theorem check_3b (hi : Int) (w : World) (h' : inNum hi) (hz : (hi == 0) = false) :
    Calls Try.prog 20 #[sv ⟨true, 0, hi⟩] w fun e w' => e = .returned (.int .i64 1) ∧ Below w.heap.size w w' := by
  have h1 : decide (inNum 0) = true := by decide
  have h2 : decide (inNum hi) = true := by simpa using h'
  have c0 := cell_regrown (w := w.alloc (.cells #[.bool true, .int .i64 0, .int .i64 hi] 23)) (a := ⟨w.heap.size, 0, none⟩) (v := .bool true) (by simp [go_sem])
  have c1 := cell_regrown (w := w.alloc (.cells #[.bool true, .int .i64 0, .int .i64 hi] 23)) (a := ⟨w.heap.size, 1, none⟩) (v := .int .i64 0) (by simp [go_sem])
  have c2 := cell_regrown (w := w.alloc (.cells #[.bool true, .int .i64 0, .int .i64 hi] 23)) (a := ⟨w.heap.size, 2, none⟩) (v := .int .i64 hi) (by simp [go_sem])
  go_enter Try.func20, Try.ntmps20
  go_wp2_with (go_at_call 40; refine (beyond_any _ _).mono ?_; rintro e w' ⟨rfl, rfl⟩)
  refine wp_region_quiet_below (by kernel_rfl) (by kernel_rfl) ?_
  repeat (quiet_step (exact Calls.regrown_of (none_any _)))
  refine wpQuiet_nil ?_
  intro _ hw'
  obtain ⟨⟨dq, osq⟩, hw''⟩ := hw'
  subst hw''
  go_wp2
  go_ret
  exact ⟨rfl, Below.trans (by go_grown) ((below_regrown _ dq osq).mono (by go_size))⟩

set_option maxHeartbeats 1000000 in
theorem check_4  (w : World) :
    Calls Try.prog 20 #[sv ⟨true, 0, 0⟩] w fun e w' => e = .returned (.int .i64 0) ∧ Below w.heap.size w w' := by
  have h1 : decide (inNum 0) = true := by decide
  have c0 := cell_regrown (w := w.alloc (.cells #[.bool true, .int .i64 0, .int .i64 0] 23)) (a := ⟨w.heap.size, 0, none⟩) (v := .bool true) (by simp [go_sem])
  have c1 := cell_regrown (w := w.alloc (.cells #[.bool true, .int .i64 0, .int .i64 0] 23)) (a := ⟨w.heap.size, 1, none⟩) (v := .int .i64 0) (by simp [go_sem])
  have c2 := cell_regrown (w := w.alloc (.cells #[.bool true, .int .i64 0, .int .i64 0] 23)) (a := ⟨w.heap.size, 2, none⟩) (v := .int .i64 0) (by simp [go_sem])
  go_enter Try.func20, Try.ntmps20
  go_wp2_with (go_at_call 40; refine (beyond_any _ _).mono ?_; rintro e w' ⟨rfl, rfl⟩)
  refine wp_region_quiet_below (by kernel_rfl) (by kernel_rfl) ?_
  repeat (quiet_step (exact Calls.regrown_of (none_any _)))
  refine wpQuiet_nil ?_
  intro _ hw'
  obtain ⟨⟨dq, osq⟩, hw''⟩ := hw'
  subst hw''
  go_wp2
  go_ret
  exact ⟨rfl, Below.trans (by go_grown) ((below_regrown _ dq osq).mono (by go_size))⟩

set_option maxHeartbeats 1000000 in
theorem check_5 (lo hi : Int) (w : World) (h : inNum lo) (h' : inNum hi) (hz : hi < lo) :
    Calls Try.prog 20 #[sv ⟨false, lo, hi⟩] w fun e w' => e = .returned (.int .i64 4) ∧ Below w.heap.size w w' := by
  have h1 : decide (inNum lo) = true := by simpa using h
  have h2 : decide (inNum hi) = true := by simpa using h'
  go_enter Try.func20, Try.ntmps20
  go_wp2_with (go_at_call 40; refine (beyond_any _ _).mono ?_; rintro e w' ⟨rfl, rfl⟩)
  go_quiet (fail)
  go_wp2
  go_ret
  exact ⟨rfl, below_drewN (by go_grown) _⟩

set_option maxHeartbeats 1000000 in
theorem check_6 (lo hi : Int) (w : World) (h : inNum lo) (h' : inNum hi) (hz : ¬ hi < lo) :
    Calls Try.prog 20 #[sv ⟨false, lo, hi⟩] w fun e w' => e = .returned (.int .i64 0) ∧ Below w.heap.size w w' := by
  have h1 : decide (inNum lo) = true := by simpa using h
  have h2 : decide (inNum hi) = true := by simpa using h'
  go_enter Try.func20, Try.ntmps20
  go_wp2_with (go_at_call 40; refine (beyond_any _ _).mono ?_; rintro e w' ⟨rfl, rfl⟩)
  go_quiet (fail)
  go_wp2
  go_ret
  exact ⟨rfl, below_drewN (by go_grown) _⟩

theorem check_any (s : Sp) (w : World) :
    Calls Try.prog 20 #[sv s] w fun e w' => e = .returned (.int .i64 (ckSp s)) ∧ Below w.heap.size w w' := by
  obtain ⟨n, lo, hi⟩ := s
  unfold ckSp
  by_cases h : inNum lo
  · by_cases h' : inNum hi
    · rw [if_neg (by simp [h, h'])]
      cases n with
      | true =>
        by_cases hz : lo = 0
        · subst hz
          by_cases hz' : hi = 0
          · subst hz'
            rw [if_neg (by simp), if_neg (by simp)]
            exact check_4 w
          · rw [if_pos (by simp [hz'])]
            exact check_3b hi w h' (by simpa using hz')
        · rw [if_pos (by simp [hz])]
          exact check_3a lo hi w h h' (by simpa using hz)
      | false =>
        rw [if_neg (by simp)]
        by_cases hz : hi < lo
        · rw [if_pos hz]
          exact check_5 lo hi w h h' hz
        · rw [if_neg hz]
          exact check_6 lo hi w h h' hz
    · rw [if_pos (by simp [h'])]
      exact check_2 n lo hi w h h'
  · rw [if_pos (by simp [h])]
    exact check_1 n lo hi w h
end Go.Proofs.Ytmapdpcfanecdaa
