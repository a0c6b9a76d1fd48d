/- Walks over package guess: lists of sites that are looked through by a function literal. -/
import Derived.Test.YtmapdpcfanecdaaGreatKguxp06
import Derived.Deep.QuietTactic
namespace Go.Proofs.YtmapdpcfanecdaaGreat
set_option linter.unusedVariables false
set_option linter.unusedSimpArgs false
open Go.RowKit

theorem any_drop_stepI (l : List Int) (p : Int → Bool) (k : Nat) (h : k < l.length) : (l.drop k).any p = (p l[k] || (l.drop (k + 1)).any p) := by
  rw [List.drop_eq_getElem_cons h]; rfl

theorem indexI_le (l : List Int) (x : Int) (k : Nat) (h : k < l.length) : x ∈ l.drop k ↔ (x = l[k] ∨ x ∈ l.drop (k + 1)) := by
  rw [List.drop_eq_getElem_cons h, List.mem_cons]

set_option maxHeartbeats 1000000 in
theorem indexI_any (x : Int) (ss : Option Addr) (cap : Nat) (l : List Int) (w : World) (hl : l.length ≤ 9223372036854775807) (hs : IntsAt w ss l) :
    Calls Tryz.prog 88 #[.slice ss l.length cap, .int .i64 x] w fun e w' => ∃ n : Int, e = .returned (.int .i64 n) ∧ (0 ≤ n ↔ x ∈ l) ∧ w' = w := by
  go_enter Tryz.func88, Tryz.ntmps88
  go_wp2
  go_loop [8] (fun i => ∃ k : Nat, k ≤ l.length ∧ i = .int .i64 k ∧ Hid (x ∈ l ↔ x ∈ l.drop k)) (fun i => l.length - (intOf i).toNat)
  case atStart => exact ⟨0, Nat.zero_le _, rfl, Iff.rfl⟩
  case round =>
    obtain ⟨k, hk, rfl, HA⟩ := hrel
    by_cases hlt : k < l.length
    · obtain ⟨b, off, rfl, hb, hc⟩ := hs.get k hlt
      have n0 : (0 : Int) ≤ (k : Int) := by omega
      have n1 : (k : Int) < (l.length : Int) := by omega
      have c0 := hc k hlt
      have HN : Hid (x ∈ l.drop k ↔ (x = l[k] ∨ x ∈ l.drop (k + 1))) := indexI_le l x k hlt
      clear hc hs
      by_cases hp : l[k] = x
      · have HT : Hid (x ∈ l) := HA.out.2 (HN.out.2 (.inl hp.symm))
        clear HN HA
        have hp' : (x == l[k]) = true := by simp [hp]
        go_wp2
        go_ret
        exact ⟨_, rfl, ⟨fun _ => HT.out, fun _ => by omega⟩, rfl⟩
      · have HT : Hid (x ∈ l ↔ x ∈ l.drop (k + 1)) := HA.out.trans (HN.out.trans ⟨fun h => h.resolve_left fun e => hp e.symm, .inr⟩)
        have hp' : (x == l[k]) = false := by simp; exact fun h => hp h.symm
        clear HN HA
        go_wp2
        go_round
        case rel => exact ⟨k + 1, by omega, by go_num, HT⟩
        case measure => simp [intOf]; omega
    · go_wp2
      go_ret
      exact ⟨_, rfl, ⟨fun h => absurd h (by omega), fun h => by have := HA.out.1 h; rw [List.drop_eq_nil_of_le (by omega)] at this; cases this⟩, rfl⟩

set_option maxHeartbeats 1000000 in
theorem containsI_any (x : Int) (ss : Option Addr) (cap : Nat) (l : List Int) (w : World) (hl : l.length ≤ 9223372036854775807) (hs : IntsAt w ss l) :
    Calls Tryz.prog 42 #[.slice ss l.length cap, .int .i64 x] w fun e w' => e = .returned (.bool (l.contains x)) ∧ w' = w := by
  go_enter Tryz.func42, Tryz.ntmps42
  go_wp2_with fail
  refine (indexI_any x ss cap l _ hl hs).mono ?_
  rintro e w1 ⟨n, rfl, hn, rfl⟩
  go_wp2
  go_ret
  exact ⟨ret_bool (by simp), rfl⟩
end Go.Proofs.YtmapdpcfanecdaaGreat

namespace Go.Proofs.YtmapdpcfanecdaaGreat
set_option linter.unusedVariables false
set_option linter.unusedSimpArgs false
open Go.RowKit

set_option maxHeartbeats 1000000 in
set_option maxRecDepth 10000 in
theorem indexFunc_home (q : Nat) (p : Int → Bool) (ss : Option Addr) (cap : Nat) (l : List Int) (w : World) (hl : l.length ≤ 9223372036854775807) (hs : IntsAt w ss l)
    (hF : ∀ x wx, Below w.heap.size w wx → Calls Tryz.prog 123 #[.int .i64 x, .pointer (some ⟨q, 0, none⟩)] wx fun e w' => e = .returned (.bool (p x)) ∧ Below wx.heap.size wx w') :
    Calls Tryz.prog 89 #[.slice ss l.length cap, .func (.func 123) #[] #[.pointer (some ⟨q, 0, none⟩)]] w fun e w' => ∃ n : Int, e = .returned (.int .i64 n) ∧ decide (0 ≤ n) = l.any p ∧ Below w.heap.size w w' := by
  have HF := hideH hF
  clear hF
  go_enter Tryz.func89, Tryz.ntmps89
  go_wp2
  go_loopw [8] (fun i wr => ∃ k : Nat, k ≤ l.length ∧ i = .int .i64 k ∧ Below w.heap.size w wr ∧ Hid (l.any p = (l.drop k).any p)) (fun i _ => l.length - (intOf i).toNat)
  case atStart => exact ⟨0, Nat.zero_le _, rfl, Below.refl _ _, rfl⟩
  case round =>
    obtain ⟨k, hk, rfl, hbr, HA⟩ := hrel
    by_cases hlt : k < l.length
    · obtain ⟨b, off, rfl, hb, hc⟩ := hs.get k hlt
      have n0 : (0 : Int) ≤ (k : Int) := by omega
      have n1 : (k : Int) < (l.length : Int) := by omega
      have s0 := hbr.size
      have c0 : wr.cell? ⟨b, off + k, none⟩ = some (.int .i64 l[k]) := by rw [hbr.cell (by simpa using hb)]; exact hc k hlt
      have HN : Hid ((l.drop k).any p = (p l[k] || (l.drop (k + 1)).any p)) := any_drop_stepI l p k hlt
      clear hc hs
      go_wp2_with (go_at_call 123; fail)
      refine (HF.out _ _ hbr).mono ?_
      rintro e w1 ⟨rfl, hb1⟩
      cases hp : p l[k] with
      | true =>
        have HT : Hid (l.any p = true) := by show _ = _; rw [HA.out, HN.out, hp]; rfl
        clear HN HA
        go_wp2
        go_ret
        exact ⟨_, rfl, by rw [HT.out]; simp, hbr.trans (hb1.mono s0)⟩
      | false =>
        have HT : Hid (l.any p = (l.drop (k + 1)).any p) := by show _ = _; rw [HA.out, HN.out, hp]; rfl
        clear HN HA
        go_wp2
        go_roundw
        case rel => exact ⟨k + 1, by omega, by go_num, hbr.trans (hb1.mono s0), HT⟩
        case measure => simp [intOf]; omega
    · go_wp2
      go_ret
      exact ⟨_, rfl, by rw [HA.out, List.drop_eq_nil_of_le (by omega)]; rfl, hbr⟩

set_option maxHeartbeats 1000000 in
theorem containsFunc_home (q : Nat) (p : Int → Bool) (ss : Option Addr) (cap : Nat) (l : List Int) (w : World) (hl : l.length ≤ 9223372036854775807) (hs : IntsAt w ss l)
    (hF : ∀ x wx, Below w.heap.size w wx → Calls Tryz.prog 123 #[.int .i64 x, .pointer (some ⟨q, 0, none⟩)] wx fun e w' => e = .returned (.bool (p x)) ∧ Below wx.heap.size wx w') :
    Calls Tryz.prog 43 #[.slice ss l.length cap, .func (.func 123) #[] #[.pointer (some ⟨q, 0, none⟩)]] w fun e w' => e = .returned (.bool (l.any p)) ∧ Below w.heap.size w w' := by
  have HF := hideH hF
  clear hF
  go_enter Tryz.func43, Tryz.ntmps43
  go_wp2_with (go_at_call 89; fail)
  refine (indexFunc_home q p ss cap l _ hl hs HF.out).mono ?_
  rintro e w1 ⟨n, rfl, hn, hb1⟩
  go_wp2
  go_ret
  exact ⟨rfl, hb1⟩
end Go.Proofs.YtmapdpcfanecdaaGreat
