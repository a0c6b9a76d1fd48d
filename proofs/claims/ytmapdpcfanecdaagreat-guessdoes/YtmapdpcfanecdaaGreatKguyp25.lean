/- Walks over package span: what is reckoned: mul. -/
import Derived.Test.YtmapdpcfanecdaaGreatKguyp01
import Derived.Deep.QuietTactic
import Derived.BigQuiet
import Derived.Test.YtmapdpcfanecdaaGreatKguyp23
import Derived.Test.YtmapdpcfanecdaaGreatKguyp16
import Derived.Test.YtmapdpcfanecdaaGreatKguyp17
import Derived.Lib.MinMax
namespace Go.Proofs.YtmapdpcfanecdaaGreat
set_option linter.unusedVariables false
set_option linter.unusedSimpArgs false
open Go.RowKit

set_option maxHeartbeats 1000000 in
theorem sameInts_loop (b1 o1 c1 b2 o2 c2 : Nat) (l : List Int) (w : World) (h63 : l.length ≤ maxLen) (b1lt : b1 < w.heap.size) (b2lt : b2 < w.heap.size)
    (h1 : ∀ k (h : k < l.length), w.cell? ⟨b1, o1 + k, none⟩ = some (.int .i64 l[k])) (h2 : ∀ k (h : k < l.length), w.cell? ⟨b2, o2 + k, none⟩ = some (.int .i64 l[k])) :
    Calls Tryz.prog 95 #[.slice (some ⟨b1, o1, none⟩) l.length c1, .slice (some ⟨b2, o2, none⟩) l.length c2] w fun e w' => e = .returned (.bool true) ∧ Below w.heap.size w w' := by
  unfold maxLen at h63
  go_enter Tryz.func95, Tryz.ntmps95
  go_wp2
  go_loopw [5] (fun i wr => ∃ k : Nat, k ≤ l.length ∧ i = .int .i64 k ∧ Below w.heap.size w wr) (fun i _ => l.length - (intOf i).toNat)
  case atStart => exact ⟨0, Nat.zero_le _, rfl, Below.refl _ _⟩
  case round =>
    obtain ⟨k, hk, rfl, hb⟩ := hrel
    by_cases hlt : k < l.length
    · have n0 : (0 : Int) ≤ (k : Int) := by omega
      have n1 : (k : Int) < (l.length : Int) := by omega
      have q0 : wr.cell? ⟨b1, o1 + k, none⟩ = some (.int .i64 l[k]) := by rw [hb.cell (p := ⟨b1, _, none⟩) b1lt]; exact h1 k hlt
      have r0 : wr.cell? ⟨b2, o2 + k, none⟩ = some (.int .i64 l[k]) := by rw [hb.cell (p := ⟨b2, _, none⟩) b2lt]; exact h2 k hlt
      clear h1 h2
      go_wp2
      go_quiet (fail)
      go_wp2
      go_roundw
      case rel => exact ⟨k + 1, by omega, by go_num, below_drewN hb _⟩
      case measure => simp [intOf]; omega
    · go_wp2
      go_ret
      exact ⟨rfl, hb⟩

set_option maxHeartbeats 1000000 in
theorem sameInts_nil (s1 s2 : Option Addr) (c1 c2 : Nat) (w : World) :
    Calls Tryz.prog 95 #[.slice s1 0 c1, .slice s2 0 c2] w fun e w' => e = .returned (.bool true) ∧ Below w.heap.size w w' := by
  go_enter Tryz.func95, Tryz.ntmps95
  go_wp2
  go_rounds 1
  go_ret
  exact ⟨rfl, Below.refl _ _⟩

theorem sameInts_any (s1 s2 : Option Addr) (c1 c2 : Nat) (l : List Int) (w : World) (h63 : l.length ≤ maxLen) (h1 : IntsAt w s1 l) (h2 : IntsAt w s2 l) :
    Calls Tryz.prog 95 #[.slice s1 l.length c1, .slice s2 l.length c2] w fun e w' => e = .returned (.bool true) ∧ Below w.heap.size w w' := by
  rcases h1 with rfl | ⟨b1, o1, rfl, hb1, h1⟩
  · exact sameInts_nil s1 s2 c1 c2 w
  · rcases h2 with rfl | ⟨b2, o2, rfl, hb2, h2⟩
    · exact sameInts_nil _ s2 c1 c2 w
    · exact sameInts_loop b1 o1 c1 b2 o2 c2 l w h63 hb1 hb2 h1 h2

end Go.Proofs.YtmapdpcfanecdaaGreat

namespace Go.Proofs.YtmapdpcfanecdaaGreat
set_option linter.unusedVariables false
set_option linter.unusedSimpArgs false
open Go.RowKit

set_option maxHeartbeats 1000000 in
theorem joinSpan_n (s t : Sp) (b : Bool) (w : World) (h : (s.n || t.n) = true) :
    Calls Tryz.prog 48 #[sv s, sv t, .bool b] w fun e w' => e = .returned (sv (joinSp s t)) ∧ Below w.heap.size w w' := by
  obtain ⟨n, lo, hi⟩ := s
  obtain ⟨n', lo', hi'⟩ := t
  cases n with
  | true =>
    go_enter Tryz.func48, Tryz.ntmps48
    go_wp2
    go_returns
    exact ⟨rfl, by go_grown⟩
  | false =>
    cases n' with
    | true =>
      go_enter Tryz.func48, Tryz.ntmps48
      go_wp2
      go_returns
      exact ⟨rfl, by go_grown⟩
    | false => exact absurd h (by simp)

theorem wide_ff {lo hi lo' hi' a b : Int} (ha : a = if lo' < lo then -2147483648 else lo) (hb : b = if hi < hi' then 2147483647 else hi) : wideSp ⟨false, lo, hi⟩ ⟨false, lo', hi'⟩ = ⟨false, a, b⟩ := by
  subst ha hb
  rfl
end Go.Proofs.YtmapdpcfanecdaaGreat

namespace Go.Proofs.YtmapdpcfanecdaaGreat
set_option linter.unusedVariables false
set_option linter.unusedSimpArgs false
open Go.RowKit

@[go_sem] theorem run_min4 {P : Program} (w : World) (ts : Array TypeId) (t : TypeId) (a b c d : Int) :
    (Builtin.min_ ts t #[.int .i64 a, .int .i64 b, .int .i64 c, .int .i64 d]).run P w = .ok (.int .i64 (min4 a b c d)) w := by
  have e : ∀ x y : Int, (if y < x then y else x) = min x y := fun x y => by split <;> omega
  simp [Builtin.min_, Builtin.min2, e, min4]

@[go_sem] theorem run_max4 {P : Program} (w : World) (ts : Array TypeId) (t : TypeId) (a b c d : Int) :
    (Builtin.max_ ts t #[.int .i64 a, .int .i64 b, .int .i64 c, .int .i64 d]).run P w = .ok (.int .i64 (max4 a b c d)) w := by
  have e : ∀ x y : Int, (if x < y then y else x) = max x y := fun x y => by split <;> omega
  simp [Builtin.max_, Builtin.max2, e, max4]

set_option maxHeartbeats 1000000 in
theorem reckon_none (F : Nat) (s t : Sp) (w : World) (h : (s.n || t.n) = true) :
    Calls Tryz.prog 97 #[sv s, sv t, .func (.func F) #[] #[]] w fun e w' => e = .returned (sv ⟨true, 0, 0⟩) ∧ Below w.heap.size w w' := by
  obtain ⟨n, lo, hi⟩ := s
  obtain ⟨n', lo', hi'⟩ := t
  cases n with
  | true =>
    go_enter Tryz.func97, Tryz.ntmps97
    go_wp2_with (go_at_call 126; refine (none_eq _).mono ?_; rintro e w1 ⟨rfl, rfl⟩)
    go_returns
    exact ⟨rfl, by go_grown⟩
  | false =>
    cases n' with
    | true =>
      go_enter Tryz.func97, Tryz.ntmps97
      go_wp2_with (go_at_call 126; refine (none_eq _).mono ?_; rintro e w1 ⟨rfl, rfl⟩)
      go_returns
      exact ⟨rfl, by go_grown⟩
    | false => simp at h

theorem hull_in {a b c d : Int} (h1 : inNum (min4 a b c d)) (h2 : inNum (max4 a b c d)) : hull a b c d = ⟨false, min4 a b c d, max4 a b c d⟩ := if_pos ⟨h1, h2⟩
theorem hull_lo {a b c d : Int} (h1 : ¬ inNum (min4 a b c d)) : hull a b c d = ⟨false, -2147483648, 2147483647⟩ := if_neg (fun h => h1 h.1)
theorem hull_hi {a b c d : Int} (h1 : ¬ inNum (max4 a b c d)) : hull a b c d = ⟨false, -2147483648, 2147483647⟩ := if_neg (fun h => h1 h.2)
end Go.Proofs.YtmapdpcfanecdaaGreat

namespace Go.Proofs.YtmapdpcfanecdaaGreat
set_option linter.unusedVariables false
set_option linter.unusedSimpArgs false
open Go.RowKit

set_option maxHeartbeats 2000000 in
set_option maxRecDepth 100000 in
theorem reckon_add (lo hi lo' hi' : Int) (w : World) (h1 : wrap64 (lo + lo') = lo + lo') (h2 : wrap64 (lo + hi') = lo + hi') (h3 : wrap64 (hi + lo') = hi + lo') (h4 : wrap64 (hi + hi') = hi + hi') :
    Calls Tryz.prog 97 #[sv ⟨false, lo, hi⟩, sv ⟨false, lo', hi'⟩, .func (.func 98) #[] #[]] w fun e w' => e = .returned (sv (hull (lo + lo') (lo + hi') (hi + lo') (hi + hi'))) ∧ Below w.heap.size w w' := by
  have k1 : ∀ w : World, Calls Tryz.prog 98 #[.int .i64 lo, .int .i64 lo'] w fun e w' => e = .returned (.int .i64 (lo + lo')) ∧ ∃ n, w' = w.drewN n := fun w => (add_any lo lo' w h1).mono (by rintro e w' ⟨rfl, rfl⟩; exact ⟨rfl, 0, rfl⟩)
  have k2 : ∀ w : World, Calls Tryz.prog 98 #[.int .i64 lo, .int .i64 hi'] w fun e w' => e = .returned (.int .i64 (lo + hi')) ∧ ∃ n, w' = w.drewN n := fun w => (add_any lo hi' w h2).mono (by rintro e w' ⟨rfl, rfl⟩; exact ⟨rfl, 0, rfl⟩)
  have k3 : ∀ w : World, Calls Tryz.prog 98 #[.int .i64 hi, .int .i64 lo'] w fun e w' => e = .returned (.int .i64 (hi + lo')) ∧ ∃ n, w' = w.drewN n := fun w => (add_any hi lo' w h3).mono (by rintro e w' ⟨rfl, rfl⟩; exact ⟨rfl, 0, rfl⟩)
  have k4 : ∀ w : World, Calls Tryz.prog 98 #[.int .i64 hi, .int .i64 hi'] w fun e w' => e = .returned (.int .i64 (hi + hi')) ∧ ∃ n, w' = w.drewN n := fun w => (add_any hi hi' w h4).mono (by rintro e w' ⟨rfl, rfl⟩; exact ⟨rfl, 0, rfl⟩)
  generalize lo + lo' = a at k1 ⊢
  generalize lo + hi' = b at k2 ⊢
  generalize hi + lo' = c at k3 ⊢
  generalize hi + hi' = d at k4 ⊢
  clear h1 h2 h3 h4
  go_enter Tryz.func97, Tryz.ntmps97
  go_wp2
  go_quiet (first | exact Calls.quiet_of (k1 _) | exact Calls.quiet_of (k2 _) | exact Calls.quiet_of (k3 _) | exact Calls.quiet_of (k4 _))
  clear k1 k2 k3 k4
  by_cases h1 : inNum (min4 a b c d)
  · have e1 : decide (inNum (min4 a b c d)) = true := decide_eq_true h1
    by_cases h2 : inNum (max4 a b c d)
    · have e2 : decide (inNum (max4 a b c d)) = true := decide_eq_true h2
      go_wp2_with (go_at_call 125; refine (beyond_any _ _).mono ?_; rintro e w' ⟨rfl, rfl⟩)
      go_returns
      exact ⟨ret_sp (hull_in h1 h2), by go_grown; exact below_drewN (by go_grown) _⟩
    · have e2 : decide (inNum (max4 a b c d)) = false := decide_eq_false h2
      go_wp2_with (first | (go_at_call 125; refine (beyond_any _ _).mono ?_; rintro e w' ⟨rfl, rfl⟩) | (go_at_call 127; refine (all_eq _).mono ?_; rintro e w' ⟨rfl, rfl⟩))
      go_returns
      exact ⟨ret_sp (hull_hi h2), by go_grown; exact below_drewN (by go_grown) _⟩
  · have e1 : decide (inNum (min4 a b c d)) = false := decide_eq_false h1
    go_wp2_with (first | (go_at_call 125; refine (beyond_any _ _).mono ?_; rintro e w' ⟨rfl, rfl⟩) | (go_at_call 127; refine (all_eq _).mono ?_; rintro e w' ⟨rfl, rfl⟩))
    go_returns
    exact ⟨ret_sp (hull_lo h1), by go_grown; exact below_drewN (by go_grown) _⟩
end Go.Proofs.YtmapdpcfanecdaaGreat

namespace Go.Proofs.YtmapdpcfanecdaaGreat
set_option linter.unusedVariables false
set_option linter.unusedSimpArgs false
open Go.RowKit

set_option maxHeartbeats 2000000 in
set_option maxRecDepth 100000 in
theorem reckon_sub (lo hi lo' hi' : Int) (w : World) (h1 : wrap64 (lo - lo') = lo - lo') (h2 : wrap64 (lo - hi') = lo - hi') (h3 : wrap64 (hi - lo') = hi - lo') (h4 : wrap64 (hi - hi') = hi - hi') :
    Calls Tryz.prog 97 #[sv ⟨false, lo, hi⟩, sv ⟨false, lo', hi'⟩, .func (.func 99) #[] #[]] w fun e w' => e = .returned (sv (hull (lo - lo') (lo - hi') (hi - lo') (hi - hi'))) ∧ Below w.heap.size w w' := by
  have k1 : ∀ w : World, Calls Tryz.prog 99 #[.int .i64 lo, .int .i64 lo'] w fun e w' => e = .returned (.int .i64 (lo - lo')) ∧ ∃ n, w' = w.drewN n := fun w => (sub_any lo lo' w h1).mono (by rintro e w' ⟨rfl, rfl⟩; exact ⟨rfl, 0, rfl⟩)
  have k2 : ∀ w : World, Calls Tryz.prog 99 #[.int .i64 lo, .int .i64 hi'] w fun e w' => e = .returned (.int .i64 (lo - hi')) ∧ ∃ n, w' = w.drewN n := fun w => (sub_any lo hi' w h2).mono (by rintro e w' ⟨rfl, rfl⟩; exact ⟨rfl, 0, rfl⟩)
  have k3 : ∀ w : World, Calls Tryz.prog 99 #[.int .i64 hi, .int .i64 lo'] w fun e w' => e = .returned (.int .i64 (hi - lo')) ∧ ∃ n, w' = w.drewN n := fun w => (sub_any hi lo' w h3).mono (by rintro e w' ⟨rfl, rfl⟩; exact ⟨rfl, 0, rfl⟩)
  have k4 : ∀ w : World, Calls Tryz.prog 99 #[.int .i64 hi, .int .i64 hi'] w fun e w' => e = .returned (.int .i64 (hi - hi')) ∧ ∃ n, w' = w.drewN n := fun w => (sub_any hi hi' w h4).mono (by rintro e w' ⟨rfl, rfl⟩; exact ⟨rfl, 0, rfl⟩)
  generalize lo - lo' = a at k1 ⊢
  generalize lo - hi' = b at k2 ⊢
  generalize hi - lo' = c at k3 ⊢
  generalize hi - hi' = d at k4 ⊢
  clear h1 h2 h3 h4
  go_enter Tryz.func97, Tryz.ntmps97
  go_wp2
  go_quiet (first | exact Calls.quiet_of (k1 _) | exact Calls.quiet_of (k2 _) | exact Calls.quiet_of (k3 _) | exact Calls.quiet_of (k4 _))
  clear k1 k2 k3 k4
  by_cases h1 : inNum (min4 a b c d)
  · have e1 : decide (inNum (min4 a b c d)) = true := decide_eq_true h1
    by_cases h2 : inNum (max4 a b c d)
    · have e2 : decide (inNum (max4 a b c d)) = true := decide_eq_true h2
      go_wp2_with (go_at_call 125; refine (beyond_any _ _).mono ?_; rintro e w' ⟨rfl, rfl⟩)
      go_returns
      exact ⟨ret_sp (hull_in h1 h2), by go_grown; exact below_drewN (by go_grown) _⟩
    · have e2 : decide (inNum (max4 a b c d)) = false := decide_eq_false h2
      go_wp2_with (first | (go_at_call 125; refine (beyond_any _ _).mono ?_; rintro e w' ⟨rfl, rfl⟩) | (go_at_call 127; refine (all_eq _).mono ?_; rintro e w' ⟨rfl, rfl⟩))
      go_returns
      exact ⟨ret_sp (hull_hi h2), by go_grown; exact below_drewN (by go_grown) _⟩
  · have e1 : decide (inNum (min4 a b c d)) = false := decide_eq_false h1
    go_wp2_with (first | (go_at_call 125; refine (beyond_any _ _).mono ?_; rintro e w' ⟨rfl, rfl⟩) | (go_at_call 127; refine (all_eq _).mono ?_; rintro e w' ⟨rfl, rfl⟩))
    go_returns
    exact ⟨ret_sp (hull_lo h1), by go_grown; exact below_drewN (by go_grown) _⟩
end Go.Proofs.YtmapdpcfanecdaaGreat

namespace Go.Proofs.YtmapdpcfanecdaaGreat
set_option linter.unusedVariables false
set_option linter.unusedSimpArgs false
open Go.RowKit

set_option maxHeartbeats 2000000 in
set_option maxRecDepth 100000 in
theorem reckon_mul (lo hi lo' hi' : Int) (w : World) (h1 : wrap64 (lo * lo') = lo * lo') (h2 : wrap64 (lo * hi') = lo * hi') (h3 : wrap64 (hi * lo') = hi * lo') (h4 : wrap64 (hi * hi') = hi * hi') :
    Calls Tryz.prog 97 #[sv ⟨false, lo, hi⟩, sv ⟨false, lo', hi'⟩, .func (.func 100) #[] #[]] w fun e w' => e = .returned (sv (hull (lo * lo') (lo * hi') (hi * lo') (hi * hi'))) ∧ Below w.heap.size w w' := by
  have k1 : ∀ w : World, Calls Tryz.prog 100 #[.int .i64 lo, .int .i64 lo'] w fun e w' => e = .returned (.int .i64 (lo * lo')) ∧ ∃ n, w' = w.drewN n := fun w => (mul_any lo lo' w h1).mono (by rintro e w' ⟨rfl, rfl⟩; exact ⟨rfl, 0, rfl⟩)
  have k2 : ∀ w : World, Calls Tryz.prog 100 #[.int .i64 lo, .int .i64 hi'] w fun e w' => e = .returned (.int .i64 (lo * hi')) ∧ ∃ n, w' = w.drewN n := fun w => (mul_any lo hi' w h2).mono (by rintro e w' ⟨rfl, rfl⟩; exact ⟨rfl, 0, rfl⟩)
  have k3 : ∀ w : World, Calls Tryz.prog 100 #[.int .i64 hi, .int .i64 lo'] w fun e w' => e = .returned (.int .i64 (hi * lo')) ∧ ∃ n, w' = w.drewN n := fun w => (mul_any hi lo' w h3).mono (by rintro e w' ⟨rfl, rfl⟩; exact ⟨rfl, 0, rfl⟩)
  have k4 : ∀ w : World, Calls Tryz.prog 100 #[.int .i64 hi, .int .i64 hi'] w fun e w' => e = .returned (.int .i64 (hi * hi')) ∧ ∃ n, w' = w.drewN n := fun w => (mul_any hi hi' w h4).mono (by rintro e w' ⟨rfl, rfl⟩; exact ⟨rfl, 0, rfl⟩)
  generalize lo * lo' = a at k1 ⊢
  generalize lo * hi' = b at k2 ⊢
  generalize hi * lo' = c at k3 ⊢
  generalize hi * hi' = d at k4 ⊢
  clear h1 h2 h3 h4
  go_enter Tryz.func97, Tryz.ntmps97
  go_wp2
  go_quiet (first | exact Calls.quiet_of (k1 _) | exact Calls.quiet_of (k2 _) | exact Calls.quiet_of (k3 _) | exact Calls.quiet_of (k4 _))
  clear k1 k2 k3 k4
  by_cases h1 : inNum (min4 a b c d)
  · have e1 : decide (inNum (min4 a b c d)) = true := decide_eq_true h1
    by_cases h2 : inNum (max4 a b c d)
    · have e2 : decide (inNum (max4 a b c d)) = true := decide_eq_true h2
      go_wp2_with (go_at_call 125; refine (beyond_any _ _).mono ?_; rintro e w' ⟨rfl, rfl⟩)
      go_returns
      exact ⟨ret_sp (hull_in h1 h2), by go_grown; exact below_drewN (by go_grown) _⟩
    · have e2 : decide (inNum (max4 a b c d)) = false := decide_eq_false h2
      go_wp2_with (first | (go_at_call 125; refine (beyond_any _ _).mono ?_; rintro e w' ⟨rfl, rfl⟩) | (go_at_call 127; refine (all_eq _).mono ?_; rintro e w' ⟨rfl, rfl⟩))
      go_returns
      exact ⟨ret_sp (hull_hi h2), by go_grown; exact below_drewN (by go_grown) _⟩
  · have e1 : decide (inNum (min4 a b c d)) = false := decide_eq_false h1
    go_wp2_with (first | (go_at_call 125; refine (beyond_any _ _).mono ?_; rintro e w' ⟨rfl, rfl⟩) | (go_at_call 127; refine (all_eq _).mono ?_; rintro e w' ⟨rfl, rfl⟩))
    go_returns
    exact ⟨ret_sp (hull_lo h1), by go_grown; exact below_drewN (by go_grown) _⟩
end Go.Proofs.YtmapdpcfanecdaaGreat
