/- Walks over package span: Has, what is put together. -/
import Derived.Test.YtmapdpcfanecdabGreatKstpxp01
set_option linter.unusedSimpArgs false
set_option linter.unusedVariables false
namespace Go.Proofs.YtmapdpcfanecdabGreat
section
set_option maxHeartbeats 1000000
open Go.RowKit

theorem sp_cells {B : Nat} {n : Bool} {lo hi : Int} {w w1 : World} (hb : Below B (w.alloc (.cells #[.bool n, .int .i64 lo, .int .i64 hi] 58)) w1) (hB : w.heap.size < B) : w1.cell? ⟨w.heap.size, 0, none⟩ = some (.bool n) ∧ w1.cell? ⟨w.heap.size, 1, none⟩ = some (.int .i64 lo) ∧ w1.cell? ⟨w.heap.size, 2, none⟩ = some (.int .i64 hi) := by
 rw [hb.cell (by simpa using hB), hb.cell (by simpa using hB), hb.cell (by simpa using hB)]
 simp [go_sem]

theorem sp_cells2 {B : Nat} {n n' : Bool} {lo hi lo' hi' : Int} {w w1 : World} (hb : Below B ((w.alloc (.cells #[.bool n, .int .i64 lo, .int .i64 hi] 58)).alloc (.cells #[.bool n', .int .i64 lo', .int .i64 hi'] 58)) w1) (hB : w.heap.size + 1 < B) : w1.cell? ⟨w.heap.size, 0, none⟩ = some (.bool n) ∧ w1.cell? ⟨w.heap.size, 1, none⟩ = some (.int .i64 lo) ∧ w1.cell? ⟨w.heap.size, 2, none⟩ = some (.int .i64 hi) ∧ w1.cell? ⟨w.heap.size + 1, 0, none⟩ = some (.bool n') ∧ w1.cell? ⟨w.heap.size + 1, 1, none⟩ = some (.int .i64 lo') ∧ w1.cell? ⟨w.heap.size + 1, 2, none⟩ = some (.int .i64 hi') := by
 rw [hb.cell (by simp; omega), hb.cell (by simp; omega), hb.cell (by simp; omega), hb.cell (by simpa using hB), hb.cell (by simpa using hB), hb.cell (by simpa using hB)]
 simp [go_sem]

theorem ret_t2b {a b : Bool} {v : Value} (h : a = b) : Ending.returned (.tuple #[.bool a, v]) = .returned (.tuple #[.bool b, v]) := by rw [h]

theorem has_err (s : Sp) (x : Int) (w : World) (h : ckSp s ≠ 0) :
  Calls Tryz.prog 142 #[sv s, .int .i64 x] w fun e w' => e = .returned (.tuple #[.bool false, .int .i64 (ckSp s)]) ∧ Below w.heap.size w w' := by
 obtain ⟨n, lo, hi⟩ := s
 have h0 : Below w.heap.size w (w.alloc (.cells #[.bool n, .int .i64 lo, .int .i64 hi] 58)) := by go_grown
 go_enter Tryz.func142, Tryz.ntmps142
 go_wp2_with (go_at_call 161; refine (check_any ⟨n, lo, hi⟩ _).mono ?_; rintro e w1 ⟨rfl, hb1⟩)
 go_ret2
 exact ⟨rfl, h0.trans (hb1.mono (by simp))⟩

theorem has_ok (s : Sp) (x : Int) (w : World) (h : ckSp s = 0) :
  Calls Tryz.prog 142 #[sv s, .int .i64 x] w fun e w' => e = .returned (.tuple #[.bool (s.has x), .int .i64 0]) ∧ Below w.heap.size w w' := by
 obtain ⟨n, lo, hi⟩ := s
 have h0 : Below w.heap.size w (w.alloc (.cells #[.bool n, .int .i64 lo, .int .i64 hi] 58)) := by go_grown
 go_enter Tryz.func142, Tryz.ntmps142
 go_wp2_with (go_at_call 161; fail)
 refine (check_any ⟨n, lo, hi⟩ _).mono ?_
 rintro e w1 ⟨rfl, hb1⟩
 rw [h]
 obtain ⟨c0, c1, c2⟩ := sp_cells hb1 (by simp)
 have s1 : w.heap.size < w1.heap.size := by have := hb1.size; simp at this; omega
 cases n with
 | true =>
  go_wp2
  go_ret2
  exact ⟨ret_t2b (by simp [Sp.has, *]), h0.trans (hb1.mono (by simp))⟩
 | false =>
  by_cases hl : lo ≤ x
  ·have d1 : decide (lo ≤ x) = true := by simpa using hl
   go_wp2
   go_ret2
   exact ⟨ret_t2b (by simp [Sp.has, *]), h0.trans (hb1.mono (by simp))⟩
  ·have d1 : decide (lo ≤ x) = false := by simpa using hl
   go_wp2
   go_ret2
   exact ⟨ret_t2b (by simp [Sp.has, *]), h0.trans (hb1.mono (by simp))⟩

theorem has_any (s : Sp) (x : Int) (w : World) :
  Calls Tryz.prog 142 #[sv s, .int .i64 x] w fun e w' => e = .returned (.tuple #[.bool (decide (ckSp s = 0) && s.has x), .int .i64 (ckSp s)]) ∧ Below w.heap.size w w' := by
 by_cases h : ckSp s = 0
 ·have := has_ok s x w h
  rw [h]
  simpa using this
 ·have := has_err s x w h
  simpa [h] using this

theorem checkBoth_any (s t : Sp) (w : World) :
  Calls Tryz.prog 138 #[sv s, sv t] w fun e w' => e = .returned (.int .i64 (ckSps s t)) ∧ Below w.heap.size w w' := by
 have e0 : ckSps s t = if ckSp s = 0 then ckSp t else ckSp s := rfl
 obtain ⟨n, lo, hi⟩ := s
 obtain ⟨n', lo', hi'⟩ := t
 by_cases h : ckSp ⟨n, lo, hi⟩ = 0
 ·rw [if_pos h] at e0
  rw [e0]
  go_enter Tryz.func138, Tryz.ntmps138
  go_wp2_with (go_at_call 161; fail)
  refine (check_any ⟨n, lo, hi⟩ _).mono ?_
  rintro e w1 ⟨rfl, hb1⟩
  rw [h]
  obtain ⟨c0, c1, c2, d0, d1, d2⟩ := sp_cells2 hb1 (by simp)
  have s1 : w.heap.size + 1 < w1.heap.size := by have := hb1.size; simp at this; omega
  go_wp2_with (go_at_call 161; fail)
  refine (check_any ⟨n', lo', hi'⟩ _).mono ?_
  rintro e w2 ⟨rfl, hb2⟩
  go_wp2
  go_ret
  refine ⟨rfl, ?_⟩
  exact (Below.trans (by go_grown) (hb1.mono (by simp; omega))).trans (hb2.mono (by omega))
 ·rw [if_neg h] at e0
  rw [e0]
  go_enter Tryz.func138, Tryz.ntmps138
  go_wp2_with (go_at_call 161; fail)
  refine (check_any ⟨n, lo, hi⟩ _).mono ?_
  rintro e w1 ⟨rfl, hb1⟩
  go_wp2
  go_ret
  refine ⟨rfl, ?_⟩
  exact Below.trans (by go_grown) (hb1.mono (by simp; omega))

theorem ret_sp {n : Bool} {lo hi : Int} {t : Sp} (h : t = ⟨n, lo, hi⟩) : Ending.returned (.agg #[.bool n, .int .i64 lo, .int .i64 hi]) = .returned (sv t) := by rw [h]

theorem join_any (s t : Sp) (w : World) :
  Calls Tryz.prog 137 #[sv s, sv t] w fun e w' => e = .returned (sv (joinSp s t)) ∧ Below w.heap.size w w' := by
 obtain ⟨n, lo, hi⟩ := s
 obtain ⟨n', lo', hi'⟩ := t
 cases n with
 | true =>
  go_enter Tryz.func137, Tryz.ntmps137
  go_wp2
  go_returns
  exact ⟨rfl, by go_grown⟩
 | false =>
  cases n' with
  | true =>
   go_enter Tryz.func137, Tryz.ntmps137
   go_wp2
   go_returns
   exact ⟨rfl, by go_grown⟩
  | false =>
   go_enter Tryz.func137, Tryz.ntmps137
   go_wp2
   all_goals go_returns
   all_goals exact ⟨ret_sp (by simp [joinSp] <;> omega), by go_grown⟩

theorem meet_e {lo hi lo' hi' : Int} (h : min hi hi' < max lo lo') : meetSp ⟨false, lo, hi⟩ ⟨false, lo', hi'⟩ = ⟨true, 0, 0⟩ := by
 unfold meetSp
 rw [if_pos (by simp only [Bool.false_or]; exact decide_eq_true h)]
theorem meet_ff {lo hi lo' hi' a b : Int} (ha : a = max lo lo') (hb : b = min hi hi') (h : a ≤ b) : meetSp ⟨false, lo, hi⟩ ⟨false, lo', hi'⟩ = ⟨false, a, b⟩ := by
 subst ha hb
 unfold meetSp
 rw [if_neg (by simp only [Bool.false_or, decide_eq_true_eq]; omega)]

theorem meet_any (s t : Sp) (w : World) :
  Calls Tryz.prog 112 #[sv s, sv t] w fun e w' => e = .returned (sv (meetSp s t)) ∧ Below w.heap.size w w' := by
 obtain ⟨n, lo, hi⟩ := s
 obtain ⟨n', lo', hi'⟩ := t
 have h0 : Below w.heap.size w (((w.alloc (.cells #[.bool n, .int .i64 lo, .int .i64 hi] 58)).alloc (.cells #[.bool n', .int .i64 lo', .int .i64 hi'] 58)).alloc (.cells #[.bool false, .int .i64 0, .int .i64 0] 58)) := by go_grown
 rcases Int.lt_or_le lo lo' with h1 | h1 <;> rcases Int.lt_or_le hi' hi with h2 | h2 <;> cases n <;> cases n'
 all_goals
  go_enter Tryz.func112, Tryz.ntmps112
  go_wp2
  go_quiet (fail)
  go_wp2_with (go_at_call 139; refine (none_eq _).mono ?_; rintro e w1 ⟨rfl, rfl⟩)
 all_goals go_returns
 all_goals exact ⟨ret_sp (by first | rfl | exact meet_n _ _ _ _ _ | exact meet_ff (by omega) (by omega) (by omega) | exact meet_e (by omega)), by go_grown; exact below_drewN (by go_grown) _⟩
end
end Go.Proofs.YtmapdpcfanecdabGreat
