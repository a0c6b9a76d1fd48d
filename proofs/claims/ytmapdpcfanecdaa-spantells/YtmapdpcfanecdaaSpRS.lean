/- Walks over the document's own answers on spans: the check of two. -/
import Derived.Test.YtmapdpcfanecdaaSpR
namespace Go.Proofs.Ytmapdpcfanecdaa
set_option linter.unusedVariables false
set_option linter.unusedSimpArgs false
open Go.RowKit

set_option maxHeartbeats 1000000 in
theorem checkSpans_any (s t : Sp) (w : World) :
    Calls Try.prog 13 #[sv s, sv t] w fun e w' => e = .returned (.int .i64 (ckSps s t)) ∧ Below w.heap.size w w' := by
  have e0 : ckSps s t = if ckSp s = 0 then ckSp t else ckSp s := rfl
  obtain ⟨n, lo, hi⟩ := s
  obtain ⟨n', lo', hi'⟩ := t
  by_cases h : ckSp ⟨n, lo, hi⟩ = 0
  · rw [if_pos h] at e0
    rw [e0]
    go_enter Try.func13, Try.ntmps13
    go_wp2_with (go_at_call 12; fail)
    refine (checkSpan_any ⟨n, lo, hi⟩ _).mono ?_
    rintro e w1 ⟨rfl, hb1⟩
    rw [h]
    obtain ⟨c0, c1, c2, d0, d1, d2⟩ := sp_cells2 hb1 (by simp)
    have s1 : w.heap.size + 1 < w1.heap.size := by have := hb1.size; simp at this; omega
    go_wp2_with (go_at_call 12; fail)
    refine (checkSpan_any ⟨n', lo', hi'⟩ _).mono ?_
    rintro e w2 ⟨rfl, hb2⟩
    go_wp2
    go_ret
    refine ⟨rfl, ?_⟩
    exact (Below.trans (by go_grown) (hb1.mono (by simp; omega))).trans (hb2.mono (by omega))
  · rw [if_neg h] at e0
    rw [e0]
    go_enter Try.func13, Try.ntmps13
    go_wp2_with (go_at_call 12; fail)
    refine (checkSpan_any ⟨n, lo, hi⟩ _).mono ?_
    rintro e w1 ⟨rfl, hb1⟩
    go_wp2
    go_ret
    refine ⟨rfl, ?_⟩
    exact Below.trans (by go_grown) (hb1.mono (by simp; omega))
end Go.Proofs.Ytmapdpcfanecdaa
