/- Walks over the document's own answers on spans: the small ones. -/
import Derived.Test.YtmapdpcfanecdaaSpB
namespace Go.Proofs.Ytmapdpcfanecdaa
set_option linter.unusedVariables false
set_option linter.unusedSimpArgs false
open Go.RowKit

theorem btw_num (x : Int) : btw x (-2147483648) 2147483647 = decide (inNum x) := rfl

set_option maxHeartbeats 1000000 in
theorem checkSpan_any (s : Sp) (w : World) :
    Calls Try.prog 12 #[sv s] w fun e w' => e = .returned (.int .i64 (ckSp s)) ∧ Below w.heap.size w w' := by
  obtain ⟨n, lo, hi⟩ := s
  have e0 : ckSp ⟨n, lo, hi⟩ = if ¬ (inNum lo ∧ inNum hi) then 3 else if n = true ∧ ¬ (lo = 0 ∧ hi = 0) then 1 else if hi < lo then 4 else 0 := rfl
  rw [e0]
  clear e0
  by_cases h : inNum lo
  · have b1 : btw lo (-2147483648) 2147483647 = true := decide_eq_true h
    by_cases h' : inNum hi
    · have b2 : btw hi (-2147483648) 2147483647 = true := decide_eq_true h'
      rw [if_neg (by simp [h, h'])]
      clear h h'
      cases n with
      | true =>
        by_cases hz : lo = 0
        · subst hz
          by_cases hz' : hi = 0
          · subst hz'
            rw [if_neg (by simp), if_neg (by simp)]
            go_enter Try.func12, Try.ntmps12
            go_wp2_with (go_at_call 37; refine (between_any _ _ _ _).mono ?_; rintro e w' ⟨rfl, rfl⟩)
            go_ret
            exact ⟨rfl, by go_grown⟩
          · have q : (hi == 0) = false := by simpa using hz'
            rw [if_pos (by simp [hz'])]
            go_enter Try.func12, Try.ntmps12
            go_wp2_with (go_at_call 37; refine (between_any _ _ _ _).mono ?_; rintro e w' ⟨rfl, rfl⟩)
            go_ret
            exact ⟨rfl, by go_grown⟩
        · have q : (lo == 0) = false := by simpa using hz
          rw [if_pos (by simp [hz])]
          go_enter Try.func12, Try.ntmps12
          go_wp2_with (go_at_call 37; refine (between_any _ _ _ _).mono ?_; rintro e w' ⟨rfl, rfl⟩)
          go_ret
          exact ⟨rfl, by go_grown⟩
      | false =>
        rw [if_neg (by simp)]
        by_cases hz : hi < lo
        · rw [if_pos hz]
          go_enter Try.func12, Try.ntmps12
          go_wp2_with (go_at_call 37; refine (between_any _ _ _ _).mono ?_; rintro e w' ⟨rfl, rfl⟩)
          go_ret
          exact ⟨rfl, by go_grown⟩
        · rw [if_neg hz]
          go_enter Try.func12, Try.ntmps12
          go_wp2_with (go_at_call 37; refine (between_any _ _ _ _).mono ?_; rintro e w' ⟨rfl, rfl⟩)
          go_ret
          exact ⟨rfl, by go_grown⟩
    · have b2 : btw hi (-2147483648) 2147483647 = false := decide_eq_false h'
      rw [if_pos (by simp [h'])]
      clear h h'
      go_enter Try.func12, Try.ntmps12
      go_wp2_with (go_at_call 37; refine (between_any _ _ _ _).mono ?_; rintro e w' ⟨rfl, rfl⟩)
      go_ret
      exact ⟨rfl, by go_grown⟩
  · have b1 : btw lo (-2147483648) 2147483647 = false := decide_eq_false h
    rw [if_pos (by simp [h])]
    clear h
    go_enter Try.func12, Try.ntmps12
    go_wp2_with (go_at_call 37; refine (between_any _ _ _ _).mono ?_; rintro e w' ⟨rfl, rfl⟩)
    go_ret
    exact ⟨rfl, by go_grown⟩

set_option maxHeartbeats 1000000 in
theorem inSpan_any (s : Sp) (x : Int) (w : World) :
    Calls Try.prog 14 #[sv s, .int .i64 x] w fun e w' => e = .returned (.bool (s.has x)) ∧ Below w.heap.size w w' := by
  obtain ⟨n, lo, hi⟩ := s
  have e0 : btw x lo hi = (decide (lo ≤ x) && decide (x ≤ hi)) := by unfold btw; exact Bool.decide_and _ _
  have e1 : Sp.has ⟨n, lo, hi⟩ x = (!n && btw x lo hi) := by rw [e0]; rfl
  rw [e1]
  cases n with
  | true =>
    go_enter Try.func14, Try.ntmps14
    go_wp2
    go_ret
    exact ⟨rfl, by go_grown⟩
  | false =>
    clear e0 e1
    generalize hB : btw x lo hi = B
    go_enter Try.func14, Try.ntmps14
    go_wp2_with (go_at_call 37; refine (between_any _ _ _ _).mono ?_; rintro e w' ⟨rfl, rfl⟩)
    go_ret
    exact ⟨ret_bool (by simp [hB]), by go_grown⟩

set_option maxHeartbeats 1000000 in
theorem spanIn_any (s t : Sp) (w : World) :
    Calls Try.prog 17 #[sv s, sv t] w fun e w' => e = .returned (.bool (spIn s t)) ∧ Below w.heap.size w w' := by
  have e0 : spIn s t = (s.n || (t.has s.lo && t.has s.hi)) := rfl
  rw [e0]
  clear e0
  have k1 := fun w => inSpan_any t s.lo w
  have k2 := fun w => inSpan_any t s.hi w
  generalize t.has s.lo = A at k1 ⊢
  generalize t.has s.hi = B at k2 ⊢
  obtain ⟨n, lo, hi⟩ := s
  obtain ⟨n', lo', hi'⟩ := t
  cases n with
  | true =>
    go_enter Try.func17, Try.ntmps17
    go_wp2
    go_ret
    exact ⟨rfl, by go_grown⟩
  | false =>
    go_enter Try.func17, Try.ntmps17
    go_wp2_with (go_at_call 14; fail)
    refine (k1 _).mono ?_
    rintro e w1 ⟨rfl, hb1⟩
    obtain ⟨c0, c1, c2, d0, d1, d2⟩ := sp_cells2 hb1 (by simp)
    have H1 : Below w.heap.size w w1 := Below.trans (by go_grown) (hb1.mono (by simp; omega))
    have z0 : w.heap.size ≤ w1.heap.size := H1.size
    clear hb1 k1
    cases A with
    | false =>
      go_wp2
      go_ret
      exact ⟨rfl, H1⟩
    | true =>
      go_wp2_with (go_at_call 14; fail)
      refine (k2 _).mono ?_
      rintro e w2 ⟨rfl, hb2⟩
      go_wp2
      go_ret
      exact ⟨rfl, H1.trans (hb2.mono z0)⟩

set_option maxHeartbeats 1000000 in
theorem least2 (g c : Nat) (x y : Int) (w : World) (h0 : w.cell? ⟨g, 0, none⟩ = some (.int .i64 x)) (h1 : w.cell? ⟨g, 1, none⟩ = some (.int .i64 y)) :
    Calls Try.prog 38 #[.slice (some ⟨g, 0, none⟩) 2 c] w fun e w' => e = .returned (.int .i64 (min x y)) ∧ w' = w := by
  go_enter Try.func38, Try.ntmps38
  go_wp2
  go_rounds 2
  all_goals go_ret
  all_goals exact ⟨ret_int (by omega), rfl⟩

set_option maxHeartbeats 2000000 in
theorem least4 (g c : Nat) (x y z u : Int) (w : World) (h0 : w.cell? ⟨g, 0, none⟩ = some (.int .i64 x)) (h1 : w.cell? ⟨g, 1, none⟩ = some (.int .i64 y)) (h2 : w.cell? ⟨g, 2, none⟩ = some (.int .i64 z)) (h3 : w.cell? ⟨g, 3, none⟩ = some (.int .i64 u)) :
    Calls Try.prog 38 #[.slice (some ⟨g, 0, none⟩) 4 c] w fun e w' => e = .returned (.int .i64 (min4 x y z u)) ∧ w' = w := by
  go_enter Try.func38, Try.ntmps38
  go_wp2
  go_rounds 4
  all_goals go_ret
  all_goals exact ⟨ret_int (by unfold min4; omega), rfl⟩

set_option maxHeartbeats 1000000 in
theorem most2 (g c : Nat) (x y : Int) (w : World) (h0 : w.cell? ⟨g, 0, none⟩ = some (.int .i64 x)) (h1 : w.cell? ⟨g, 1, none⟩ = some (.int .i64 y)) :
    Calls Try.prog 39 #[.slice (some ⟨g, 0, none⟩) 2 c] w fun e w' => e = .returned (.int .i64 (max x y)) ∧ w' = w := by
  go_enter Try.func39, Try.ntmps39
  go_wp2
  go_rounds 2
  all_goals go_ret
  all_goals exact ⟨ret_int (by omega), rfl⟩

set_option maxHeartbeats 2000000 in
theorem most4 (g c : Nat) (x y z u : Int) (w : World) (h0 : w.cell? ⟨g, 0, none⟩ = some (.int .i64 x)) (h1 : w.cell? ⟨g, 1, none⟩ = some (.int .i64 y)) (h2 : w.cell? ⟨g, 2, none⟩ = some (.int .i64 z)) (h3 : w.cell? ⟨g, 3, none⟩ = some (.int .i64 u)) :
    Calls Try.prog 39 #[.slice (some ⟨g, 0, none⟩) 4 c] w fun e w' => e = .returned (.int .i64 (max4 x y z u)) ∧ w' = w := by
  go_enter Try.func39, Try.ntmps39
  go_wp2
  go_rounds 4
  all_goals go_ret
  all_goals exact ⟨ret_int (by unfold max4; omega), rfl⟩

end Go.Proofs.Ytmapdpcfanecdaa
