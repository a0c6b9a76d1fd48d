/- Walks over the document's own answers on spans: DoSpan. -/
import Derived.Test.YtmapdpcfanecdaaSpS
import Derived.Test.YtmapdpcfanecdaaSpF
import Derived.Deep.AppendLies
import Derived.Deep.RegionHeldLaw
import Derived.Laws.OwnMore
namespace Go.Proofs.Ytmapdpcfanecdaa
set_option linter.unusedVariables false
set_option linter.unusedSimpArgs false
open Go.RowKit

set_option maxHeartbeats 1000000 in
theorem doSpan_n (k : Int) (s t : Sp) (w : World) (h : (s.n || t.n) = true) :
    Calls Try.prog 18 #[.int .i64 k, sv s, sv t] w fun e w' => e = .returned (sv ⟨true, 0, 0⟩) ∧ Below w.heap.size w w' := by
  obtain ⟨n, lo, hi⟩ := s
  obtain ⟨n', lo', hi'⟩ := t
  cases n with
  | true =>
    go_enter Try.func18, Try.ntmps18
    go_wp2
    go_returns
    exact ⟨rfl, by go_grown⟩
  | false =>
    cases n' with
    | true =>
      go_enter Try.func18, Try.ntmps18
      go_wp2
      go_returns
      exact ⟨rfl, by go_grown⟩
    | false => exact absurd h (by simp)

theorem ownsRow_lowS {w : World} {B : Nat} {e : TypeId} {z : Nat} {v : Value} {n : Nat} {xs : List Value} (h : w.ownsRow B e z v n xs) {k : Nat} (hk : v.ownBlock = some k) : B ≤ k := by
  rcases h.2 with ⟨rfl, _⟩ | ⟨g, cap, cur, rfl, hb, hg, _⟩
  · cases hk
  · cases hk
    exact hb

theorem Try.info_intS : (Try.prog.info? 3).map (fun i => (i.zero, i.size, i.bytes)) = some (some (.int .i64 0), 1, 8) := by kernel_rfl

theorem info_partsS {P : Program} {t : TypeId} {z : Option Value} {a b : Nat} (h : (P.info? t).map (fun i => (i.zero, i.size, i.bytes)) = some (z, a, b)) : ∃ i, P.info? t = some i ∧ i.zero = z ∧ i.size = a ∧ i.bytes = b := by
  cases hi : P.info? t with
  | none => rw [hi] at h; cases h
  | some i =>
    rw [hi] at h
    simp only [Option.map_some, Option.some.injEq, Prod.mk.injEq] at h
    exact ⟨i, rfl, h.1, h.2.1, h.2.2⟩

theorem min_max4 (a b c d : Int) : min4 a b c d ≤ max4 a b c d := by unfold min4 max4; omega
theorem hull_ok {a b c d : Int} (h : ckSp ⟨false, min4 a b c d, max4 a b c d⟩ = 0) : hull a b c d = ⟨false, min4 a b c d, max4 a b c d⟩ := by
  have := ckSp_ok.1 h
  exact hull_in this.1 this.2.1
theorem hull_no {a b c d : Int} (h : ckSp ⟨false, min4 a b c d, max4 a b c d⟩ ≠ 0) : hull a b c d = ⟨false, -2147483648, 2147483647⟩ := by
  unfold hull
  refine if_neg fun hc => h (ckSp_ok.2 ⟨hc.1, hc.2, (fun hn => by cases hn), min_max4 a b c d⟩)

/-- One element laid into a block of its own. -/
theorem news_one (w : World) (v : Value) (t : TypeId) : ∀ j u, [v][j]? = some u → (w.alloc (.cells #[v] t)).drew.cell? ((⟨w.heap.size, 0, none⟩ : Addr).add j) = some u := by
  intro j u hu
  have hadd : (⟨w.heap.size, 0, none⟩ : Addr).add j = ⟨w.heap.size, j, none⟩ := by unfold Addr.add; split <;> simp_all
  rw [hadd]
  have : (w.alloc (.cells #[v] t)).drew.cell? ⟨w.heap.size, j, none⟩ = #[v][j]? := by simp [go_sem]
  rw [this]
  simpa using hu
end Go.Proofs.Ytmapdpcfanecdaa
