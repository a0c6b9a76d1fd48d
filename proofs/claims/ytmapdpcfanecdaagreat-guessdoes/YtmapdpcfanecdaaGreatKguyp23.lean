/- Walks over the document's own answers: guesses, their check. -/
import Derived.Test.YtmapdpcfanecdaaGreatKguyp03
import Derived.Test.YtmapdpcfanecdaaGreatKguyp14
import Derived.Test.YtmapdpcfanecdaaGreatKguyp08
import Derived.Deep.RegionHeld3
import Derived.Deep.DrawnRows
namespace Go.Proofs.YtmapdpcfanecdaaGreat
set_option linter.unusedVariables false
set_option linter.unusedSimpArgs false
open Go.RowKit

theorem btw_num (x : Int) : btw x (-2147483648) 2147483647 = decide (inNum x) := rfl

set_option maxHeartbeats 1000000 in
theorem checkSpan_any (s : Sp) (w : World) :
    Calls Tryz.prog 92 #[sv s] w fun e w' => e = .returned (.int .i64 (ckSp s)) ∧ Below w.heap.size w w' := by
  obtain ⟨n, lo, hi⟩ := s
  have e0 : ckSp ⟨n, lo, hi⟩ = if ¬ (inNum lo ∧ inNum hi) then 3 else if n = true ∧ ¬ (lo = 0 ∧ hi = 0) then 1 else if hi < lo then 4 else 0 := rfl
  rw [e0]
  clear e0
  by_cases h : inNum lo
  · have b1 : btw lo (-2147483648) 2147483647 = true := decide_eq_true h
    by_cases h' : inNum hi
    · have b2 : btw hi (-2147483648) 2147483647 = true := decide_eq_true h'
      rw [if_neg (by simp [h, h'])]
      clear h h'
      cases n with
      | true =>
        by_cases hz : lo = 0
        · subst hz
          by_cases hz' : hi = 0
          · subst hz'
            rw [if_neg (by simp), if_neg (by simp)]
            go_enter Tryz.func92, Tryz.ntmps92
            go_wp2_with (go_at_call 73; refine (between_any _ _ _ _).mono ?_; rintro e w' ⟨rfl, rfl⟩)
            go_ret
            exact ⟨rfl, by go_grown⟩
          · have q : (hi == 0) = false := by simpa using hz'
            rw [if_pos (by simp [hz'])]
            go_enter Tryz.func92, Tryz.ntmps92
            go_wp2_with (go_at_call 73; refine (between_any _ _ _ _).mono ?_; rintro e w' ⟨rfl, rfl⟩)
            go_ret
            exact ⟨rfl, by go_grown⟩
        · have q : (lo == 0) = false := by simpa using hz
          rw [if_pos (by simp [hz])]
          go_enter Tryz.func92, Tryz.ntmps92
          go_wp2_with (go_at_call 73; refine (between_any _ _ _ _).mono ?_; rintro e w' ⟨rfl, rfl⟩)
          go_ret
          exact ⟨rfl, by go_grown⟩
      | false =>
        rw [if_neg (by simp)]
        by_cases hz : hi < lo
        · rw [if_pos hz]
          go_enter Tryz.func92, Tryz.ntmps92
          go_wp2_with (go_at_call 73; refine (between_any _ _ _ _).mono ?_; rintro e w' ⟨rfl, rfl⟩)
          go_ret
          exact ⟨rfl, by go_grown⟩
        · rw [if_neg hz]
          go_enter Tryz.func92, Tryz.ntmps92
          go_wp2_with (go_at_call 73; refine (between_any _ _ _ _).mono ?_; rintro e w' ⟨rfl, rfl⟩)
          go_ret
          exact ⟨rfl, by go_grown⟩
    · have b2 : btw hi (-2147483648) 2147483647 = false := decide_eq_false h'
      rw [if_pos (by simp [h'])]
      clear h h'
      go_enter Tryz.func92, Tryz.ntmps92
      go_wp2_with (go_at_call 73; refine (between_any _ _ _ _).mono ?_; rintro e w' ⟨rfl, rfl⟩)
      go_ret
      exact ⟨rfl, by go_grown⟩
  · have b1 : btw lo (-2147483648) 2147483647 = false := decide_eq_false h
    rw [if_pos (by simp [h])]
    clear h
    go_enter Tryz.func92, Tryz.ntmps92
    go_wp2_with (go_at_call 73; refine (between_any _ _ _ _).mono ?_; rintro e w' ⟨rfl, rfl⟩)
    go_ret
    exact ⟨rfl, by go_grown⟩

set_option maxHeartbeats 1000000 in
theorem inSpan_any (s : Sp) (x : Int) (w : World) :
    Calls Tryz.prog 51 #[sv s, .int .i64 x] w fun e w' => e = .returned (.bool (s.has x)) ∧ Below w.heap.size w w' := by
  obtain ⟨n, lo, hi⟩ := s
  have e0 : btw x lo hi = (decide (lo ≤ x) && decide (x ≤ hi)) := by unfold btw; exact Bool.decide_and _ _
  have e1 : Sp.has ⟨n, lo, hi⟩ x = (!n && btw x lo hi) := by rw [e0]; rfl
  rw [e1]
  cases n with
  | true =>
    go_enter Tryz.func51, Tryz.ntmps51
    go_wp2
    go_ret
    exact ⟨rfl, by go_grown⟩
  | false =>
    clear e0 e1
    generalize hB : btw x lo hi = B
    go_enter Tryz.func51, Tryz.ntmps51
    go_wp2_with (go_at_call 73; refine (between_any _ _ _ _).mono ?_; rintro e w' ⟨rfl, rfl⟩)
    go_ret
    exact ⟨ret_bool (by simp [hB]), by go_grown⟩

set_option maxHeartbeats 1000000 in
theorem spanIn_any (s t : Sp) (w : World) :
    Calls Tryz.prog 50 #[sv s, sv t] w fun e w' => e = .returned (.bool (spIn s t)) ∧ Below w.heap.size w w' := by
  have e0 : spIn s t = (s.n || (t.has s.lo && t.has s.hi)) := rfl
  rw [e0]
  clear e0
  have k1 := fun w => inSpan_any t s.lo w
  have k2 := fun w => inSpan_any t s.hi w
  generalize t.has s.lo = A at k1 ⊢
  generalize t.has s.hi = B at k2 ⊢
  obtain ⟨n, lo, hi⟩ := s
  obtain ⟨n', lo', hi'⟩ := t
  cases n with
  | true =>
    go_enter Tryz.func50, Tryz.ntmps50
    go_wp2
    go_ret
    exact ⟨rfl, by go_grown⟩
  | false =>
    go_enter Tryz.func50, Tryz.ntmps50
    go_wp2_with (go_at_call 51; fail)
    refine (k1 _).mono ?_
    rintro e w1 ⟨rfl, hb1⟩
    obtain ⟨c0, c1, c2, d0, d1, d2⟩ := sp_cells2 hb1 (by simp)
    have H1 : Below w.heap.size w w1 := Below.trans (by go_grown) (hb1.mono (by simp; omega))
    have z0 : w.heap.size ≤ w1.heap.size := H1.size
    clear hb1 k1
    cases A with
    | false =>
      go_wp2
      go_ret
      exact ⟨rfl, H1⟩
    | true =>
      go_wp2_with (go_at_call 51; fail)
      refine (k2 _).mono ?_
      rintro e w2 ⟨rfl, hb2⟩
      go_wp2
      go_ret
      exact ⟨rfl, H1.trans (hb2.mono z0)⟩

set_option maxHeartbeats 1000000 in
theorem least2 (g c : Nat) (x y : Int) (w : World) (h0 : w.cell? ⟨g, 0, none⟩ = some (.int .i64 x)) (h1 : w.cell? ⟨g, 1, none⟩ = some (.int .i64 y)) :
    Calls Tryz.prog 93 #[.slice (some ⟨g, 0, none⟩) 2 c] w fun e w' => e = .returned (.int .i64 (min x y)) ∧ w' = w := by
  go_enter Tryz.func93, Tryz.ntmps93
  go_wp2
  go_rounds 2
  all_goals go_ret
  all_goals exact ⟨ret_int (by omega), rfl⟩

set_option maxHeartbeats 2000000 in
theorem least4 (g c : Nat) (x y z u : Int) (w : World) (h0 : w.cell? ⟨g, 0, none⟩ = some (.int .i64 x)) (h1 : w.cell? ⟨g, 1, none⟩ = some (.int .i64 y)) (h2 : w.cell? ⟨g, 2, none⟩ = some (.int .i64 z)) (h3 : w.cell? ⟨g, 3, none⟩ = some (.int .i64 u)) :
    Calls Tryz.prog 93 #[.slice (some ⟨g, 0, none⟩) 4 c] w fun e w' => e = .returned (.int .i64 (min4 x y z u)) ∧ w' = w := by
  go_enter Tryz.func93, Tryz.ntmps93
  go_wp2
  go_rounds 4
  all_goals go_ret
  all_goals exact ⟨ret_int (by unfold min4; omega), rfl⟩

set_option maxHeartbeats 1000000 in
theorem most2 (g c : Nat) (x y : Int) (w : World) (h0 : w.cell? ⟨g, 0, none⟩ = some (.int .i64 x)) (h1 : w.cell? ⟨g, 1, none⟩ = some (.int .i64 y)) :
    Calls Tryz.prog 94 #[.slice (some ⟨g, 0, none⟩) 2 c] w fun e w' => e = .returned (.int .i64 (max x y)) ∧ w' = w := by
  go_enter Tryz.func94, Tryz.ntmps94
  go_wp2
  go_rounds 2
  all_goals go_ret
  all_goals exact ⟨ret_int (by omega), rfl⟩

set_option maxHeartbeats 2000000 in
theorem most4 (g c : Nat) (x y z u : Int) (w : World) (h0 : w.cell? ⟨g, 0, none⟩ = some (.int .i64 x)) (h1 : w.cell? ⟨g, 1, none⟩ = some (.int .i64 y)) (h2 : w.cell? ⟨g, 2, none⟩ = some (.int .i64 z)) (h3 : w.cell? ⟨g, 3, none⟩ = some (.int .i64 u)) :
    Calls Tryz.prog 94 #[.slice (some ⟨g, 0, none⟩) 4 c] w fun e w' => e = .returned (.int .i64 (max4 x y z u)) ∧ w' = w := by
  go_enter Tryz.func94, Tryz.ntmps94
  go_wp2
  go_rounds 4
  all_goals go_ret
  all_goals exact ⟨ret_int (by unfold max4; omega), rfl⟩

end Go.Proofs.YtmapdpcfanecdaaGreat

namespace Go.Proofs.YtmapdpcfanecdaaGreat
set_option linter.unusedVariables false
set_option linter.unusedSimpArgs false
open Go.RowKit

set_option maxHeartbeats 1000000 in
theorem isSite_any (V F : Int) (s : Option Addr) (c : List Ins) (cap : Nat) (x : Int) (w : World) (hc : CodeAt w s c) (hl : c.length ≤ 60) :
    Calls Tryz.prog 80 #[pv V F s c cap, .int .i64 x] w fun e w' => e = .returned (.bool (isSite c x)) ∧ Below w.heap.size w w' := by
  have hl' : (c.length : Int) ≤ 60 := by omega
  by_cases hx : 0 ≤ x ∧ x ≤ (c.length : Int) - 1
  · have hb := btw_true hx.1 hx.2
    obtain ⟨k, rfl⟩ := Int.eq_ofNat_of_zero_le hx.1
    have hk : k < c.length := by omega
    have CA := hc.alloc (.cells #[.int .i64 V, .int .i64 F, .slice s c.length cap] 24)
    obtain ⟨b, off, rfl, hbl, hi⟩ := CA.get k hk
    obtain ⟨i0, -, -, -, -, -⟩ := hi k hk
    have HR : Hid (isSite c k = decide (c[k].k = 11)) := by
      show _ = _
      unfold isSite
      rw [decide_eq_true (show (0 : Int) ≤ (k : Int) by omega), decide_eq_true (show (k : Int) < (c.length : Int) by omega), Int.toNat_natCast, show c.getD k ⟨0, 0, 0, 0, 0, 0⟩ = c[k] by simp [List.getD, List.getElem?_eq_getElem hk]]
      simp
    have n0 : (0 : Int) ≤ (k : Int) := by omega
    have n1 : (k : Int) < (c.length : Int) := by omega
    clear hi hc CA hx
    go_enter Tryz.func80, Tryz.ntmps80
    go_wp2_with (go_at_call 73; fail)
    refine (between_any _ _ _ _).mono ?_
    rintro e w1 ⟨rfl, rfl⟩
    rw [hb]
    go_wp2
    go_ret
    exact ⟨ret_bool (by rw [HR.out]; first | rfl | (simp; done) | exact (Bool.beq_eq_decide_eq _ _)), by go_grown⟩
  · have hb : btw x 0 ((c.length : Int) - 1) = false := by simp [btw]; omega
    have HR : Hid (isSite c x = false) := by
      show _ = _
      unfold isSite
      by_cases h0 : 0 ≤ x
      · rw [decide_eq_false (show ¬ x < (c.length : Int) by omega)]; simp
      · rw [decide_eq_false h0]; rfl
    clear hc hx
    go_enter Tryz.func80, Tryz.ntmps80
    go_wp2_with (go_at_call 73; fail)
    refine (between_any _ _ _ _).mono ?_
    rintro e w1 ⟨rfl, rfl⟩
    rw [hb]
    go_wp2
    go_ret
    exact ⟨ret_bool (by rw [HR.out]), by go_grown⟩

set_option maxHeartbeats 1000000 in
theorem hasR_any (x : Int) (ss : Option Addr) (cap : Nat) (l : List Int) (w : World) (hl : l.length ≤ 9223372036854775807) (hs : IntsAt w ss l) :
    Calls Tryz.prog 49 #[.slice ss l.length cap, .int .i64 x] w fun e w' => e = .returned (.bool (l.contains x)) ∧ w' = w := by
  have HX : Hid (l.contains x = decide (x ∈ l)) := by show _ = _; simp
  generalize l.contains x = r at *
  go_enter Tryz.func49, Tryz.ntmps49
  go_wp2
  go_loop [5] (fun i => ∃ k : Nat, k ≤ l.length ∧ i = .int .i64 k ∧ Hid (x ∈ l ↔ x ∈ l.drop k)) (fun i => l.length - (intOf i).toNat)
  case atStart => exact ⟨0, Nat.zero_le _, rfl, Iff.rfl⟩
  case round =>
    obtain ⟨k, hk, rfl, HA⟩ := hrel
    by_cases hlt : k < l.length
    · obtain ⟨b, off, rfl, hb, hc⟩ := hs.get k hlt
      have n0 : (0 : Int) ≤ (k : Int) := by omega
      have n1 : (k : Int) < (l.length : Int) := by omega
      have c0 := hc k hlt
      have HN : Hid (x ∈ l.drop k ↔ (x = l[k] ∨ x ∈ l.drop (k + 1))) := indexI_le l x k hlt
      clear hc hs
      by_cases hp : l[k] = x
      · have HT : Hid (x ∈ l) := HA.out.2 (HN.out.2 (.inl hp.symm))
        clear HN HA
        have hp' : (l[k] == x) = true := by simp [hp]
        go_wp2
        go_ret
        exact ⟨ret_bool (by rw [HX.out]; exact (decide_eq_true HT.out).symm), rfl⟩
      · have HT : Hid (x ∈ l ↔ x ∈ l.drop (k + 1)) := HA.out.trans (HN.out.trans ⟨fun h => h.resolve_left fun e => hp e.symm, .inr⟩)
        have hp' : (l[k] == x) = false := by simpa using hp
        clear HN HA
        go_wp2
        go_round
        case rel => exact ⟨k + 1, by omega, by go_num, HT⟩
        case measure => simp [intOf]; omega
    · go_wp2
      go_ret
      exact ⟨ret_bool (by rw [HX.out]; exact (decide_eq_false fun h => by have := HA.out.1 h; rw [List.drop_eq_nil_of_le (by omega)] at this; cases this).symm), rfl⟩
end Go.Proofs.YtmapdpcfanecdaaGreat
