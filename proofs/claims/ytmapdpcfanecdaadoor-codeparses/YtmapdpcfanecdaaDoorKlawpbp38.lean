/- Walks over the document's own answers: are two lists the same? Where both read alike they are told to be. -/
import Derived.Test.YtmapdpcfanecdaaDoorKlawpbp04
import Derived.Deep.QuietTactic
import Derived.BigQuiet
namespace Go.Proofs.YtmapdpcfanecdaaDoor
set_option linter.unusedVariables false
set_option linter.unusedSimpArgs false
open Go.RowKit

set_option maxHeartbeats 1000000 in
theorem sameInts_loop (b1 o1 c1 b2 o2 c2 : Nat) (l : List Int) (w : World) (h63 : l.length ≤ maxLen) (b1lt : b1 < w.heap.size) (b2lt : b2 < w.heap.size)
    (h1 : ∀ k (h : k < l.length), w.cell? ⟨b1, o1 + k, none⟩ = some (.int .i64 l[k])) (h2 : ∀ k (h : k < l.length), w.cell? ⟨b2, o2 + k, none⟩ = some (.int .i64 l[k])) :
    Calls Tryd.prog 15 #[.slice (some ⟨b1, o1, none⟩) l.length c1, .slice (some ⟨b2, o2, none⟩) l.length c2] w fun e w' => e = .returned (.bool true) ∧ Below w.heap.size w w' := by
  unfold maxLen at h63
  go_enter Tryd.func15, Tryd.ntmps15
  go_wp2
  go_loopw [5] (fun i wr => ∃ k : Nat, k ≤ l.length ∧ i = .int .i64 k ∧ Below w.heap.size w wr) (fun i _ => l.length - (intOf i).toNat)
  case atStart => exact ⟨0, Nat.zero_le _, rfl, Below.refl _ _⟩
  case round =>
    obtain ⟨k, hk, rfl, hb⟩ := hrel
    by_cases hlt : k < l.length
    · have n0 : (0 : Int) ≤ (k : Int) := by omega
      have n1 : (k : Int) < (l.length : Int) := by omega
      have q0 : wr.cell? ⟨b1, o1 + k, none⟩ = some (.int .i64 l[k]) := by rw [hb.cell (p := ⟨b1, _, none⟩) b1lt]; exact h1 k hlt
      have r0 : wr.cell? ⟨b2, o2 + k, none⟩ = some (.int .i64 l[k]) := by rw [hb.cell (p := ⟨b2, _, none⟩) b2lt]; exact h2 k hlt
      clear h1 h2
      go_wp2
      go_quiet (fail)
      go_wp2
      go_roundw
      case rel => exact ⟨k + 1, by omega, by go_num, below_drewN hb _⟩
      case measure => simp [intOf]; omega
    · go_wp2
      go_ret
      exact ⟨rfl, hb⟩

set_option maxHeartbeats 1000000 in
theorem sameInts_nil (s1 s2 : Option Addr) (c1 c2 : Nat) (w : World) :
    Calls Tryd.prog 15 #[.slice s1 0 c1, .slice s2 0 c2] w fun e w' => e = .returned (.bool true) ∧ Below w.heap.size w w' := by
  go_enter Tryd.func15, Tryd.ntmps15
  go_wp2
  go_rounds 1
  go_ret
  exact ⟨rfl, Below.refl _ _⟩

theorem sameInts_any (s1 s2 : Option Addr) (c1 c2 : Nat) (l : List Int) (w : World) (h63 : l.length ≤ maxLen) (h1 : IntsAt w s1 l) (h2 : IntsAt w s2 l) :
    Calls Tryd.prog 15 #[.slice s1 l.length c1, .slice s2 l.length c2] w fun e w' => e = .returned (.bool true) ∧ Below w.heap.size w w' := by
  rcases h1 with rfl | ⟨b1, o1, rfl, hb1, h1⟩
  · exact sameInts_nil s1 s2 c1 c2 w
  · rcases h2 with rfl | ⟨b2, o2, rfl, hb2, h2⟩
    · exact sameInts_nil _ s2 c1 c2 w
    · exact sameInts_loop b1 o1 c1 b2 o2 c2 l w h63 hb1 hb2 h1 h2

end Go.Proofs.YtmapdpcfanecdaaDoor

namespace Go.Proofs.YtmapdpcfanecdaaDoor
set_option linter.unusedVariables false
set_option linter.unusedSimpArgs false
open Go.RowKit

set_option maxHeartbeats 1000000 in
theorem sameValues_loop (b1 o1 c1 b2 o2 c2 : Nat) (l : List Val) (w : World) (h63 : l.length ≤ maxLen) (b1lt : b1 < w.heap.size) (b2lt : b2 < w.heap.size)
    (h1 : ∀ k (h : k < l.length), w.cell? ⟨b1, o1 + k * 2, none⟩ = some (.int .i64 l[k].k) ∧ w.cell? ⟨b1, o1 + k * 2 + 1, none⟩ = some (.int .i64 l[k].n)) (h2 : ∀ k (h : k < l.length), w.cell? ⟨b2, o2 + k * 2, none⟩ = some (.int .i64 l[k].k) ∧ w.cell? ⟨b2, o2 + k * 2 + 1, none⟩ = some (.int .i64 l[k].n)) :
    Calls Tryd.prog 86 #[.slice (some ⟨b1, o1, none⟩) l.length c1, .slice (some ⟨b2, o2, none⟩) l.length c2] w fun e w' => e = .returned (.bool true) ∧ Below w.heap.size w w' := by
  unfold maxLen at h63
  go_enter Tryd.func86, Tryd.ntmps86
  go_wp2
  go_loopw [5] (fun i wr => ∃ k : Nat, k ≤ l.length ∧ i = .int .i64 k ∧ Below w.heap.size w wr) (fun i _ => l.length - (intOf i).toNat)
  case atStart => exact ⟨0, Nat.zero_le _, rfl, Below.refl _ _⟩
  case round =>
    obtain ⟨k, hk, rfl, hb⟩ := hrel
    by_cases hlt : k < l.length
    · have n0 : (0 : Int) ≤ (k : Int) := by omega
      have n1 : (k : Int) < (l.length : Int) := by omega
      have ⟨q0, q1⟩ : wr.cell? ⟨b1, o1 + k * 2, none⟩ = some (.int .i64 l[k].k) ∧ wr.cell? ⟨b1, o1 + k * 2 + 1, none⟩ = some (.int .i64 l[k].n) := by rw [hb.cell (p := ⟨b1, _, none⟩) b1lt, hb.cell (p := ⟨b1, _, none⟩) b1lt]; exact h1 k hlt
      have ⟨r0, r1⟩ : wr.cell? ⟨b2, o2 + k * 2, none⟩ = some (.int .i64 l[k].k) ∧ wr.cell? ⟨b2, o2 + k * 2 + 1, none⟩ = some (.int .i64 l[k].n) := by rw [hb.cell (p := ⟨b2, _, none⟩) b2lt, hb.cell (p := ⟨b2, _, none⟩) b2lt]; exact h2 k hlt
      clear h1 h2
      go_wp2
      go_quiet (fail)
      go_wp2
      go_roundw
      case rel => exact ⟨k + 1, by omega, by go_num, below_drewN hb _⟩
      case measure => simp [intOf]; omega
    · go_wp2
      go_ret
      exact ⟨rfl, hb⟩

set_option maxHeartbeats 1000000 in
theorem sameValues_nil (s1 s2 : Option Addr) (c1 c2 : Nat) (w : World) :
    Calls Tryd.prog 86 #[.slice s1 0 c1, .slice s2 0 c2] w fun e w' => e = .returned (.bool true) ∧ Below w.heap.size w w' := by
  go_enter Tryd.func86, Tryd.ntmps86
  go_wp2
  go_rounds 1
  go_ret
  exact ⟨rfl, Below.refl _ _⟩

theorem sameValues_any (s1 s2 : Option Addr) (c1 c2 : Nat) (l : List Val) (w : World) (h63 : l.length ≤ maxLen) (h1 : ValsAt w s1 l) (h2 : ValsAt w s2 l) :
    Calls Tryd.prog 86 #[.slice s1 l.length c1, .slice s2 l.length c2] w fun e w' => e = .returned (.bool true) ∧ Below w.heap.size w w' := by
  rcases h1 with rfl | ⟨b1, o1, rfl, hb1, h1⟩
  · exact sameValues_nil s1 s2 c1 c2 w
  · rcases h2 with rfl | ⟨b2, o2, rfl, hb2, h2⟩
    · exact sameValues_nil _ s2 c1 c2 w
    · exact sameValues_loop b1 o1 c1 b2 o2 c2 l w h63 hb1 hb2 h1 h2
end Go.Proofs.YtmapdpcfanecdaaDoor
