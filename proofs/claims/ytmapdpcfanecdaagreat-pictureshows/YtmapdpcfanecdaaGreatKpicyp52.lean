/- Walks over values of runs: is it one? -/
import Derived.Test.YtmapdpcfanecdaaGreatKpicyp48
import Derived.Test.YtmapdpcfanecdaaGreatKpicyp01
import Derived.Test.YtmapdpcfanecdaaGreatKpicyp05
namespace Go.Proofs.YtmapdpcfanecdaaGreat
set_option linter.unusedVariables false
set_option linter.unusedSimpArgs false
open Go.RowKit

theorem ret_boolR {a b : Bool} (h : a = b) : Ending.returned (.bool a) = .returned (.bool b) := by rw [h]

set_option maxHeartbeats 1000000 in
set_option maxRecDepth 10000 in
theorem isNewR_any (V F : Int) (s : Option Addr) (c : List Ins) (cap : Nat) (x : Int) (w : World) (hc : CodeAt w s c) (hl : c.length ≤ 60) :
    Calls Tryz.prog 80 #[.agg #[.int .i64 V, .int .i64 F, .slice s c.length cap], .int .i64 x] w fun e w' => e = .returned (.bool (isNew c x)) ∧ Below w.heap.size w w' := by
  have hl' : (c.length : Int) ≤ 60 := by omega
  by_cases hx : 0 ≤ x ∧ x ≤ (c.length : Int) - 1
  · have hb := btw_true hx.1 hx.2
    obtain ⟨k, rfl⟩ := Int.eq_ofNat_of_zero_le hx.1
    have hk : k < c.length := by omega
    have hg : Below w.heap.size w (w.alloc (.cells #[.int .i64 V, .int .i64 F, .slice s c.length cap] 24)) := by go_grown
    have CA := hc.below hg (Nat.le_refl _)
    rcases CA with CA | ⟨b, off, rfl, hbl, hi⟩
    · rw [CA] at hk; simp at hk
    · obtain ⟨i0, -, -, -, -, -⟩ := hi k hk
      have HR : Hid (isNew c k = decide (c[k].k = 11)) := by
        show _ = _
        unfold isNew insAt
        rw [hb, Int.toNat_natCast, show c.getD k zeroIns = c[k] by simp [List.getD, List.getElem?_eq_getElem hk]]
        simp
      have n0 : (0 : Int) ≤ (k : Int) := by omega
      have n1 : (k : Int) < (c.length : Int) := by omega
      clear hi hc hx hg
      go_enter Tryz.func80, Tryz.ntmps80
      go_wp2_with (go_at_call 73; fail)
      refine (between_any _ _ _ _).mono ?_
      rintro e w1 ⟨rfl, rfl⟩
      rw [hb]
      go_wp2
      go_ret
      exact ⟨ret_boolR (by rw [HR.out]; first | rfl | (simp; done) | exact (Bool.beq_eq_decide_eq _ _)), by go_grown⟩
  · have hb : btw x 0 ((c.length : Int) - 1) = false := by simp [btw]; omega
    have HR : Hid (isNew c x = false) := by
      show _ = _
      unfold isNew
      rw [hb]
      rfl
    clear hc hx
    go_enter Tryz.func80, Tryz.ntmps80
    go_wp2_with (go_at_call 73; fail)
    refine (between_any _ _ _ _).mono ?_
    rintro e w1 ⟨rfl, rfl⟩
    rw [hb]
    go_wp2
    go_ret
    exact ⟨ret_boolR (by rw [HR.out]), by go_grown⟩
end Go.Proofs.YtmapdpcfanecdaaGreat

namespace Go.Proofs.YtmapdpcfanecdaaGreat
set_option linter.unusedVariables false
set_option linter.unusedSimpArgs false
open Go.RowKit

set_option maxHeartbeats 1000000 in
set_option maxRecDepth 10000 in
theorem isValueR_any (k n : Int) (T : Nat) (w : World) (hT : T ≤ 1000000) :
    Calls Tryz.prog 81 #[.agg #[.int .i64 k, .int .i64 n], .int .i64 T] w fun e w' => e = .returned (.bool (okValB T ⟨k, n⟩)) ∧ Below w.heap.size w w' := by
  have b0 : -9223372036854775808 ≤ (T : Int) - 1 := by omega
  have b1 : (T : Int) - 1 ≤ 9223372036854775807 := by omega
  by_cases h0 : k = 0
  · subst h0
    have e0 : okValB T ⟨0, n⟩ = decide (n = 0) := by simp [okValB]
    rw [e0]
    clear e0
    by_cases hn : n = 0
    · subst hn
      go_enter Tryz.func81, Tryz.ntmps81
      go_wp2_with (go_at_call 73; refine (between_any _ _ _ _).mono ?_; rintro e w' ⟨rfl, rfl⟩)
      go_ret
      exact ⟨rfl, by go_grown⟩
    · rw [decide_eq_false hn]
      have hb : (n == 0) = false := by simpa using hn
      clear hn
      go_enter Tryz.func81, Tryz.ntmps81
      go_wp2_with (go_at_call 73; refine (between_any _ _ _ _).mono ?_; rintro e w' ⟨rfl, rfl⟩)
      go_ret
      exact ⟨rfl, by go_grown⟩
  by_cases h1 : k = 1
  · subst h1
    have e0 : okValB T ⟨1, n⟩ = btw n (-2147483648) 2147483647 := by simp [okValB]
    rw [e0]
    clear e0
    go_enter Tryz.func81, Tryz.ntmps81
    go_wp2_with (go_at_call 73; refine (between_any _ _ _ _).mono ?_; rintro e w' ⟨rfl, rfl⟩)
    go_ret
    exact ⟨rfl, by go_grown⟩
  by_cases h2 : k = 2
  · subst h2
    have e0 : okValB T ⟨2, n⟩ = btw n 0 1 := by simp [okValB]
    rw [e0]
    clear e0
    go_enter Tryz.func81, Tryz.ntmps81
    go_wp2_with (go_at_call 73; refine (between_any _ _ _ _).mono ?_; rintro e w' ⟨rfl, rfl⟩)
    go_ret
    exact ⟨rfl, by go_grown⟩
  by_cases h3 : k = 3
  · subst h3
    have e0 : okValB T ⟨3, n⟩ = btw n 0 ((T : Int) - 1) := by simp [okValB]
    rw [e0]
    clear e0
    go_enter Tryz.func81, Tryz.ntmps81
    go_wp2_with (go_at_call 73; refine (between_any _ _ _ _).mono ?_; rintro e w' ⟨rfl, rfl⟩)
    go_ret
    exact ⟨rfl, by go_grown⟩
  have e0 : okValB T ⟨k, n⟩ = false := by simp [okValB, h0, h1, h2, h3]
  rw [e0]
  have q0 : (k == 0) = false := by simpa using h0
  have q1 : (k == 1) = false := by simpa using h1
  have q2 : (k == 2) = false := by simpa using h2
  have q3 : (k == 3) = false := by simpa using h3
  clear e0 h0 h1 h2 h3
  go_enter Tryz.func81, Tryz.ntmps81
  go_wp2
  go_ret
  exact ⟨rfl, by go_grown⟩
end Go.Proofs.YtmapdpcfanecdaaGreat
