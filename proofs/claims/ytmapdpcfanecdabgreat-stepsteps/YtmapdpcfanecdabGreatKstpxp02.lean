/- A span that lies in memory. -/
import Derived.Test.YtmapdpcfanecdabGreatKstpxp01
import Derived.BigQuiet
import Derived.Deep.RegionHeld3
import Derived.Lib.QuietBelow
set_option linter.unusedSimpArgs false
set_option linter.unusedVariables false
namespace Go.Proofs.YtmapdpcfanecdabGreat
section
set_option maxHeartbeats 1000000
set_option maxRecDepth 100000
open Go.RowKit

/-- A span as the program holds it. -/
abbrev sv (s : Sp) : Value := .agg #[.bool s.n, .int .i64 s.lo, .int .i64 s.hi]

theorem beyond_any (n : Int) (w : World) :
  Calls Tryz.prog 163 #[.int .i64 n] w fun e w' => e = .returned (.bool (!decide (inNum n))) ∧ w' = w := by
 have e1 : decide (inNum n) = (decide (-2147483648 ≤ n) && decide (n ≤ 2147483647)) := by unfold inNum; exact Bool.decide_and _ _
 rw [e1]
 by_cases h1 : n < -2147483648
 ·go_enter Tryz.func163, Tryz.ntmps163
  go_wp2
  go_ret
  exact ⟨ret_bool (by simp <;> omega), rfl⟩
 ·by_cases h2 : n > 2147483647
  ·go_enter Tryz.func163, Tryz.ntmps163
   go_wp2
   go_ret
   exact ⟨ret_bool (by simp <;> omega), rfl⟩
  ·go_enter Tryz.func163, Tryz.ntmps163
   go_wp2
   go_ret
   exact ⟨ret_bool (by simp <;> omega), rfl⟩

theorem none_eq (w : World) :
  Calls Tryz.prog 139 #[] w fun e w' => e = .returned (sv ⟨true, 0, 0⟩) ∧ w' = w.alloc (.cells #[.bool true, .int .i64 0, .int .i64 0] 58) := by
 go_enter Tryz.func139, Tryz.ntmps139
 go_wp2
 go_returns
 exact ⟨rfl, by simp [go_sem]⟩

theorem none_any (w : World) :
  Calls Tryz.prog 139 #[] w fun e w' => e = .returned (sv ⟨true, 0, 0⟩) ∧ Below w.heap.size w w' := by
 refine (none_eq w).mono ?_
 rintro e w' ⟨rfl, rfl⟩
 exact ⟨rfl, by go_grown⟩

theorem all_eq (w : World) :
  Calls Tryz.prog 164 #[] w fun e w' => e = .returned (sv ⟨false, -2147483648, 2147483647⟩) ∧ w' = w.alloc (.cells #[.bool false, .int .i64 (-2147483648), .int .i64 2147483647] 58) := by
 go_enter Tryz.func164, Tryz.ntmps164
 go_wp2
 go_returns
 exact ⟨rfl, by simp [go_sem]⟩

theorem add_any (n m : Int) (w : World) (h : wrap64 (n + m) = n + m) :
  Calls Tryz.prog 146 #[.int .i64 n, .int .i64 m] w fun e w' => e = .returned (.int .i64 (n + m)) ∧ w' = w := by
 go_enter Tryz.func146, Tryz.ntmps146
 go_wp2
 go_ret
 exact ⟨ret_int h, rfl⟩

theorem sub_any (n m : Int) (w : World) (h : wrap64 (n - m) = n - m) :
  Calls Tryz.prog 147 #[.int .i64 n, .int .i64 m] w fun e w' => e = .returned (.int .i64 (n - m)) ∧ w' = w := by
 go_enter Tryz.func147, Tryz.ntmps147
 go_wp2
 go_ret
 exact ⟨ret_int h, rfl⟩

theorem mul_any (n m : Int) (w : World) (h : wrap64 (n * m) = n * m) :
  Calls Tryz.prog 148 #[.int .i64 n, .int .i64 m] w fun e w' => e = .returned (.int .i64 (n * m)) ∧ w' = w := by
 go_enter Tryz.func148, Tryz.ntmps148
 go_wp2
 go_ret
 exact ⟨ret_int h, rfl⟩

theorem check_1 (n : Bool) (lo hi : Int) (w : World) (h : ¬ inNum lo) :
  Calls Tryz.prog 161 #[sv ⟨n, lo, hi⟩] w fun e w' => e = .returned (.int .i64 3) ∧ Below w.heap.size w w' := by
 have h1 : decide (inNum lo) = false := by simpa using h
 go_enter Tryz.func161, Tryz.ntmps161
 go_wp2_with (go_at_call 163; refine (beyond_any _ _).mono ?_; rintro e w' ⟨rfl, rfl⟩)
 go_ret
 exact ⟨rfl, by go_grown⟩

theorem check_2 (n : Bool) (lo hi : Int) (w : World) (h : inNum lo) (h' : ¬ inNum hi) :
  Calls Tryz.prog 161 #[sv ⟨n, lo, hi⟩] w fun e w' => e = .returned (.int .i64 3) ∧ Below w.heap.size w w' := by
 have h1 : decide (inNum lo) = true := by simpa using h
 have h2 : decide (inNum hi) = false := by simpa using h'
 go_enter Tryz.func161, Tryz.ntmps161
 go_wp2_with (go_at_call 163; refine (beyond_any _ _).mono ?_; rintro e w' ⟨rfl, rfl⟩)
 go_ret
 exact ⟨rfl, by go_grown⟩

theorem prf_95b5cc {p : Prop} (h : p := by
 go_enter Tryz.func161, Tryz.ntmps161
 go_wp2_with (go_at_call 163; refine (beyond_any _ _).mono ?_; rintro e w' ⟨rfl, rfl⟩)
 refine wp_region_quiet_below (by kernel_rfl) (by kernel_rfl) ?_
 repeat (quiet_step (exact Calls.regrown_of (none_any _)))
 refine wpQuiet_nil ?_
 intro _ hw'
 obtain ⟨⟨dq, osq⟩, hw''⟩ := hw'
 subst hw''
 go_wp2
 go_ret
 exact ⟨rfl, Below.trans (by go_grown) ((below_regrown _ dq osq).mono (by go_size))⟩) : p := h
theorem check_3a (lo hi : Int) (w : World) (h : inNum lo) (h' : inNum hi) (hz : (lo == 0) = false) :
  Calls Tryz.prog 161 #[sv ⟨true, lo, hi⟩] w fun e w' => e = .returned (.int .i64 1) ∧ Below w.heap.size w w' := by
 have h1 : decide (inNum lo) = true := by simpa using h
 have h2 : decide (inNum hi) = true := by simpa using h'
 have c0 := cell_regrown (w := w.alloc (.cells #[.bool true, .int .i64 lo, .int .i64 hi] 58)) (a := ⟨w.heap.size, 0, none⟩) (v := .bool true) (by simp [go_sem])
 have c1 := cell_regrown (w := w.alloc (.cells #[.bool true, .int .i64 lo, .int .i64 hi] 58)) (a := ⟨w.heap.size, 1, none⟩) (v := .int .i64 lo) (by simp [go_sem])
 have c2 := cell_regrown (w := w.alloc (.cells #[.bool true, .int .i64 lo, .int .i64 hi] 58)) (a := ⟨w.heap.size, 2, none⟩) (v := .int .i64 hi) (by simp [go_sem])
 exact prf_95b5cc

theorem check_3b (hi : Int) (w : World) (h' : inNum hi) (hz : (hi == 0) = false) :
  Calls Tryz.prog 161 #[sv ⟨true, 0, hi⟩] w fun e w' => e = .returned (.int .i64 1) ∧ Below w.heap.size w w' := by
 have h1 : decide (inNum 0) = true := by decide
 have h2 : decide (inNum hi) = true := by simpa using h'
 have c0 := cell_regrown (w := w.alloc (.cells #[.bool true, .int .i64 0, .int .i64 hi] 58)) (a := ⟨w.heap.size, 0, none⟩) (v := .bool true) (by simp [go_sem])
 have c1 := cell_regrown (w := w.alloc (.cells #[.bool true, .int .i64 0, .int .i64 hi] 58)) (a := ⟨w.heap.size, 1, none⟩) (v := .int .i64 0) (by simp [go_sem])
 have c2 := cell_regrown (w := w.alloc (.cells #[.bool true, .int .i64 0, .int .i64 hi] 58)) (a := ⟨w.heap.size, 2, none⟩) (v := .int .i64 hi) (by simp [go_sem])
 exact prf_95b5cc

theorem check_4  (w : World) :
  Calls Tryz.prog 161 #[sv ⟨true, 0, 0⟩] w fun e w' => e = .returned (.int .i64 0) ∧ Below w.heap.size w w' := by
 have h1 : decide (inNum 0) = true := by decide
 have c0 := cell_regrown (w := w.alloc (.cells #[.bool true, .int .i64 0, .int .i64 0] 58)) (a := ⟨w.heap.size, 0, none⟩) (v := .bool true) (by simp [go_sem])
 have c1 := cell_regrown (w := w.alloc (.cells #[.bool true, .int .i64 0, .int .i64 0] 58)) (a := ⟨w.heap.size, 1, none⟩) (v := .int .i64 0) (by simp [go_sem])
 have c2 := cell_regrown (w := w.alloc (.cells #[.bool true, .int .i64 0, .int .i64 0] 58)) (a := ⟨w.heap.size, 2, none⟩) (v := .int .i64 0) (by simp [go_sem])
 exact prf_95b5cc

theorem prf_c69b4e {p : Prop} (h : p := by
 have h1 : decide (inNum lo) = true := by simpa using h
 have h2 : decide (inNum hi) = true := by simpa using h'
 go_enter Tryz.func161, Tryz.ntmps161
 go_wp2_with (go_at_call 163; refine (beyond_any _ _).mono ?_; rintro e w' ⟨rfl, rfl⟩)
 go_quiet (fail)
 go_wp2
 go_ret
 exact ⟨rfl, below_drewN (by go_grown) _⟩) : p := h
theorem check_5 (lo hi : Int) (w : World) (h : inNum lo) (h' : inNum hi) (hz : hi < lo) :
  Calls Tryz.prog 161 #[sv ⟨false, lo, hi⟩] w fun e w' => e = .returned (.int .i64 4) ∧ Below w.heap.size w w' := prf_c69b4e

theorem check_6 (lo hi : Int) (w : World) (h : inNum lo) (h' : inNum hi) (hz : ¬ hi < lo) :
  Calls Tryz.prog 161 #[sv ⟨false, lo, hi⟩] w fun e w' => e = .returned (.int .i64 0) ∧ Below w.heap.size w w' := prf_c69b4e

theorem check_any (s : Sp) (w : World) :
  Calls Tryz.prog 161 #[sv s] w fun e w' => e = .returned (.int .i64 (ckSp s)) ∧ Below w.heap.size w w' := by
 obtain ⟨n, lo, hi⟩ := s
 unfold ckSp
 by_cases h : inNum lo
 ·by_cases h' : inNum hi
  ·rw [if_neg (by simp [h, h'])]
   cases n with
   | true =>
    by_cases hz : lo = 0
    ·subst hz
     by_cases hz' : hi = 0
     ·subst hz'
      rw [if_neg (by simp), if_neg (by simp)]
      exact check_4 w
     ·rw [if_pos (by simp [hz'])]
      exact check_3b hi w h' (by simpa using hz')
    ·rw [if_pos (by simp [hz])]
     exact check_3a lo hi w h h' (by simpa using hz)
   | false =>
    rw [if_neg (by simp)]
    by_cases hz : hi < lo
    ·rw [if_pos hz]
     exact check_5 lo hi w h h' hz
    ·rw [if_neg hz]
     exact check_6 lo hi w h h' hz
  ·rw [if_pos (by simp [h'])]
   exact check_2 n lo hi w h h'
 ·rw [if_pos (by simp [h])]
  exact check_1 n lo hi w h
end
section
set_option maxHeartbeats 1000000
open Go.RowKit

theorem sp_cells {B : Nat} {n : Bool} {lo hi : Int} {w w1 : World} (hb : Below B (w.alloc (.cells #[.bool n, .int .i64 lo, .int .i64 hi] 58)) w1) (hB : w.heap.size < B) : w1.cell? ⟨w.heap.size, 0, none⟩ = some (.bool n) ∧ w1.cell? ⟨w.heap.size, 1, none⟩ = some (.int .i64 lo) ∧ w1.cell? ⟨w.heap.size, 2, none⟩ = some (.int .i64 hi) := by
 rw [hb.cell (by simpa using hB), hb.cell (by simpa using hB), hb.cell (by simpa using hB)]
 simp [go_sem]

theorem sp_cells2 {B : Nat} {n n' : Bool} {lo hi lo' hi' : Int} {w w1 : World} (hb : Below B ((w.alloc (.cells #[.bool n, .int .i64 lo, .int .i64 hi] 58)).alloc (.cells #[.bool n', .int .i64 lo', .int .i64 hi'] 58)) w1) (hB : w.heap.size + 1 < B) : w1.cell? ⟨w.heap.size, 0, none⟩ = some (.bool n) ∧ w1.cell? ⟨w.heap.size, 1, none⟩ = some (.int .i64 lo) ∧ w1.cell? ⟨w.heap.size, 2, none⟩ = some (.int .i64 hi) ∧ w1.cell? ⟨w.heap.size + 1, 0, none⟩ = some (.bool n') ∧ w1.cell? ⟨w.heap.size + 1, 1, none⟩ = some (.int .i64 lo') ∧ w1.cell? ⟨w.heap.size + 1, 2, none⟩ = some (.int .i64 hi') := by
 rw [hb.cell (by simp; omega), hb.cell (by simp; omega), hb.cell (by simp; omega), hb.cell (by simpa using hB), hb.cell (by simpa using hB), hb.cell (by simpa using hB)]
 simp [go_sem]

theorem ret_t2b {a b : Bool} {v : Value} (h : a = b) : Ending.returned (.tuple #[.bool a, v]) = .returned (.tuple #[.bool b, v]) := by rw [h]

theorem has_err (s : Sp) (x : Int) (w : World) (h : ckSp s ≠ 0) :
  Calls Tryz.prog 142 #[sv s, .int .i64 x] w fun e w' => e = .returned (.tuple #[.bool false, .int .i64 (ckSp s)]) ∧ Below w.heap.size w w' := by
 obtain ⟨n, lo, hi⟩ := s
 have h0 : Below w.heap.size w (w.alloc (.cells #[.bool n, .int .i64 lo, .int .i64 hi] 58)) := by go_grown
 go_enter Tryz.func142, Tryz.ntmps142
 go_wp2_with (go_at_call 161; refine (check_any ⟨n, lo, hi⟩ _).mono ?_; rintro e w1 ⟨rfl, hb1⟩)
 go_ret2
 exact ⟨rfl, h0.trans (hb1.mono (by simp))⟩

theorem has_ok (s : Sp) (x : Int) (w : World) (h : ckSp s = 0) :
  Calls Tryz.prog 142 #[sv s, .int .i64 x] w fun e w' => e = .returned (.tuple #[.bool (s.has x), .int .i64 0]) ∧ Below w.heap.size w w' := by
 obtain ⟨n, lo, hi⟩ := s
 have h0 : Below w.heap.size w (w.alloc (.cells #[.bool n, .int .i64 lo, .int .i64 hi] 58)) := by go_grown
 go_enter Tryz.func142, Tryz.ntmps142
 go_wp2_with (go_at_call 161; fail)
 refine (check_any ⟨n, lo, hi⟩ _).mono ?_
 rintro e w1 ⟨rfl, hb1⟩
 rw [h]
 obtain ⟨c0, c1, c2⟩ := sp_cells hb1 (by simp)
 have s1 : w.heap.size < w1.heap.size := by have := hb1.size; simp at this; omega
 cases n with
 | true =>
  go_wp2
  go_ret2
  exact ⟨ret_t2b (by simp [Sp.has, *]), h0.trans (hb1.mono (by simp))⟩
 | false =>
  by_cases hl : lo ≤ x
  ·have d1 : decide (lo ≤ x) = true := by simpa using hl
   go_wp2
   go_ret2
   exact ⟨ret_t2b (by simp [Sp.has, *]), h0.trans (hb1.mono (by simp))⟩
  ·have d1 : decide (lo ≤ x) = false := by simpa using hl
   go_wp2
   go_ret2
   exact ⟨ret_t2b (by simp [Sp.has, *]), h0.trans (hb1.mono (by simp))⟩

theorem has_any (s : Sp) (x : Int) (w : World) :
  Calls Tryz.prog 142 #[sv s, .int .i64 x] w fun e w' => e = .returned (.tuple #[.bool (decide (ckSp s = 0) && s.has x), .int .i64 (ckSp s)]) ∧ Below w.heap.size w w' := by
 by_cases h : ckSp s = 0
 ·have := has_ok s x w h
  rw [h]
  simpa using this
 ·have := has_err s x w h
  simpa [h] using this

theorem checkBoth_any (s t : Sp) (w : World) :
  Calls Tryz.prog 138 #[sv s, sv t] w fun e w' => e = .returned (.int .i64 (ckSps s t)) ∧ Below w.heap.size w w' := by
 have e0 : ckSps s t = if ckSp s = 0 then ckSp t else ckSp s := rfl
 obtain ⟨n, lo, hi⟩ := s
 obtain ⟨n', lo', hi'⟩ := t
 by_cases h : ckSp ⟨n, lo, hi⟩ = 0
 ·rw [if_pos h] at e0
  rw [e0]
  go_enter Tryz.func138, Tryz.ntmps138
  go_wp2_with (go_at_call 161; fail)
  refine (check_any ⟨n, lo, hi⟩ _).mono ?_
  rintro e w1 ⟨rfl, hb1⟩
  rw [h]
  obtain ⟨c0, c1, c2, d0, d1, d2⟩ := sp_cells2 hb1 (by simp)
  have s1 : w.heap.size + 1 < w1.heap.size := by have := hb1.size; simp at this; omega
  go_wp2_with (go_at_call 161; fail)
  refine (check_any ⟨n', lo', hi'⟩ _).mono ?_
  rintro e w2 ⟨rfl, hb2⟩
  go_wp2
  go_ret
  refine ⟨rfl, ?_⟩
  exact (Below.trans (by go_grown) (hb1.mono (by simp; omega))).trans (hb2.mono (by omega))
 ·rw [if_neg h] at e0
  rw [e0]
  go_enter Tryz.func138, Tryz.ntmps138
  go_wp2_with (go_at_call 161; fail)
  refine (check_any ⟨n, lo, hi⟩ _).mono ?_
  rintro e w1 ⟨rfl, hb1⟩
  go_wp2
  go_ret
  refine ⟨rfl, ?_⟩
  exact Below.trans (by go_grown) (hb1.mono (by simp; omega))

theorem ret_sp {n : Bool} {lo hi : Int} {t : Sp} (h : t = ⟨n, lo, hi⟩) : Ending.returned (.agg #[.bool n, .int .i64 lo, .int .i64 hi]) = .returned (sv t) := by rw [h]

theorem join_any (s t : Sp) (w : World) :
  Calls Tryz.prog 137 #[sv s, sv t] w fun e w' => e = .returned (sv (joinSp s t)) ∧ Below w.heap.size w w' := by
 obtain ⟨n, lo, hi⟩ := s
 obtain ⟨n', lo', hi'⟩ := t
 cases n with
 | true =>
  go_enter Tryz.func137, Tryz.ntmps137
  go_wp2
  go_returns
  exact ⟨rfl, by go_grown⟩
 | false =>
  cases n' with
  | true =>
   go_enter Tryz.func137, Tryz.ntmps137
   go_wp2
   go_returns
   exact ⟨rfl, by go_grown⟩
  | false =>
   go_enter Tryz.func137, Tryz.ntmps137
   go_wp2
   all_goals go_returns
   all_goals exact ⟨ret_sp (by simp [joinSp] <;> omega), by go_grown⟩

theorem meet_e {lo hi lo' hi' : Int} (h : min hi hi' < max lo lo') : meetSp ⟨false, lo, hi⟩ ⟨false, lo', hi'⟩ = ⟨true, 0, 0⟩ := by
 unfold meetSp
 rw [if_pos (by simp only [Bool.false_or]; exact decide_eq_true h)]
theorem meet_ff {lo hi lo' hi' a b : Int} (ha : a = max lo lo') (hb : b = min hi hi') (h : a ≤ b) : meetSp ⟨false, lo, hi⟩ ⟨false, lo', hi'⟩ = ⟨false, a, b⟩ := by
 subst ha hb
 unfold meetSp
 rw [if_neg (by simp only [Bool.false_or, decide_eq_true_eq]; omega)]

theorem meet_any (s t : Sp) (w : World) :
  Calls Tryz.prog 112 #[sv s, sv t] w fun e w' => e = .returned (sv (meetSp s t)) ∧ Below w.heap.size w w' := by
 obtain ⟨n, lo, hi⟩ := s
 obtain ⟨n', lo', hi'⟩ := t
 have h0 : Below w.heap.size w (((w.alloc (.cells #[.bool n, .int .i64 lo, .int .i64 hi] 58)).alloc (.cells #[.bool n', .int .i64 lo', .int .i64 hi'] 58)).alloc (.cells #[.bool false, .int .i64 0, .int .i64 0] 58)) := by go_grown
 rcases Int.lt_or_le lo lo' with h1 | h1 <;> rcases Int.lt_or_le hi' hi with h2 | h2 <;> cases n <;> cases n'
 all_goals
  go_enter Tryz.func112, Tryz.ntmps112
  go_wp2
  go_quiet (fail)
  go_wp2_with (go_at_call 139; refine (none_eq _).mono ?_; rintro e w1 ⟨rfl, rfl⟩)
 all_goals go_returns
 all_goals exact ⟨ret_sp (by first | rfl | exact meet_n _ _ _ _ _ | exact meet_ff (by omega) (by omega) (by omega) | exact meet_e (by omega)), by go_grown; exact below_drewN (by go_grown) _⟩
end
section
open Go.RowKit

/-- A span lies in a block. -/
def SpAt (w : World) (b : Nat) (s : Sp) : Prop := (w.cell? ⟨b, 0, none⟩ = some (.bool s.n) ∧ w.cell? ⟨b, 1, none⟩ = some (.int .i64 s.lo) ∧ w.cell? ⟨b, 2, none⟩ = some (.int .i64 s.hi)) ∧ b < w.heap.size

theorem SpAt.below {B b : Nat} {s : Sp} {w w' : World} (h : SpAt w b s) (hb : Below B w w') (hB : w.heap.size ≤ B) : SpAt w' b s := by
 obtain ⟨⟨h0, h1, h2⟩, hz⟩ := h
 refine ⟨?_, Nat.lt_of_lt_of_le hz hb.size⟩
 rw [hb.cell (by simp; omega), hb.cell (by simp; omega), hb.cell (by simp; omega)]
 exact ⟨h0, h1, h2⟩
theorem SpAt.call {b : Nat} {s : Sp} {w w' : World} (h : SpAt w b s) (hb : Below w.heap.size w w') : SpAt w' b s := h.below hb (Nat.le_refl _)
theorem SpAt.alloc {b : Nat} {s : Sp} {w : World} (h : SpAt w b s) (o : Obj) : SpAt (w.alloc o) b s := h.below (Below.alloc (Below.refl _ _) (Nat.le_refl _) o) (Nat.le_refl _)
theorem SpAt.drew {b : Nat} {s : Sp} {w : World} (h : SpAt w b s) : SpAt w.drew b s := h
theorem SpAt.new (w : World) (s : Sp) : SpAt (w.alloc (.cells #[.bool s.n, .int .i64 s.lo, .int .i64 s.hi] 58)) w.heap.size s := ⟨by simp [go_sem], by simp⟩

/-- A span is stored. -/
abbrev put3 (w : World) (g : Nat) (r : Sp) : World := ((w.setCell ⟨g, 0, none⟩ (.bool r.n)).setCell ⟨g, 1, none⟩ (.int .i64 r.lo)).setCell ⟨g, 2, none⟩ (.int .i64 r.hi)
/-- Four spans are declared. -/
abbrev w4z (w : World) : World := (((w.alloc (.cells #[.bool false, .int .i64 0, .int .i64 0] 58)).alloc (.cells #[.bool false, .int .i64 0, .int .i64 0] 58)).alloc (.cells #[.bool false, .int .i64 0, .int .i64 0] 58)).alloc (.cells #[.bool false, .int .i64 0, .int .i64 0] 58)
end
end Go.Proofs.YtmapdpcfanecdabGreat
