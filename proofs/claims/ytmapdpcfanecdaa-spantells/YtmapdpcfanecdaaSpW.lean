/- The law SpanTells holds of whatever it is handed. -/
import Derived.Test.YtmapdpcfanecdaaSpU
import Derived.Test.YtmapdpcfanecdaaSpRS
import Derived.Test.YtmapdpcfanecdaaSpVA5
import Derived.Test.YtmapdpcfanecdaaSpVA6
import Derived.Test.YtmapdpcfanecdaaSpVA7
import Derived.Test.YtmapdpcfanecdaaSpVB
import Derived.Test.YtmapdpcfanecdaaSpVC
import Derived.Test.YtmapdpcfanecdaaSpVE
namespace Go.Proofs.Ytmapdpcfanecdaa
set_option linter.unusedVariables false
set_option linter.unusedSimpArgs false
open Go.RowKit

/-- All of s is in t just if what both have is s. -/
theorem meet_in {s t : Sp} (hs : s.Ok) (ht : t.Ok) : @decide _ ((meetSp s t).dq s) = spIn s t := by
  obtain ⟨n, lo, hi⟩ := s
  obtain ⟨n', lo', hi'⟩ := t
  obtain ⟨-, -, hz, hl⟩ := hs
  obtain ⟨-, -, hz', hl'⟩ := ht
  cases n with
  | true =>
    obtain ⟨h1, h2⟩ := hz rfl
    simp only at h1 h2
    subst h1 h2
    rfl
  | false =>
    cases n' with
    | true =>
      have e0 : meetSp ⟨false, lo, hi⟩ ⟨true, lo', hi'⟩ = ⟨true, 0, 0⟩ := rfl
      rw [e0]
      simp [spIn, Sp.has]
    | false =>
      simp only at hl hl'
      rw [Bool.eq_iff_iff, @decide_eq_true_eq _ (Sp.dq _ _)]
      unfold meetSp spIn Sp.has
      simp only [Bool.false_or, Bool.not_false, Bool.true_and, decide_eq_true_eq, Bool.and_eq_true]
      constructor
      · intro h
        split at h
        · cases h
        · simp only [Sp.mk.injEq, true_and] at h
          omega
      · intro h
        rw [if_neg (by omega)]
        simp only [Sp.mk.injEq, true_and]
        omega

theorem spanTells_any (k x : Int) (s t : Sp) (w : World) :
    Calls Try.prog 3 #[.int .i64 k, sv s, sv t, .int .i64 x] w fun e w' => e = .returned (.bool true) ∧ Below w.heap.size w w' := by
  by_cases hc : ckSps s t = 0
  · obtain ⟨hs, ht⟩ := ckSps_ok.1 hc
    have hu : ckSp s = 0 := ckSp_ok.2 hs
    have cJ := fun w => joinF_any s t w
    have cM := fun w => meetF_any s t w
    have cX := fun w => widenF_any s t w
    have cI := fun w => within_any s t w
    have cH := fun w => has_any s x w
    have cD := fun w => do_any k s t w
    have cu := fun w => checkSpan_any s w
    have cc := fun w => checkSpans_any s t w
    have ck := fun w => check_any s w
    have eI : (decide ((0 : Int) = 0) && @decide _ ((meetSp s t).dq s)) = spIn s t := by rw [meet_in hs ht]; rfl
    have eH : (decide ((0 : Int) = 0) && s.has x) = s.has x := rfl
    rw [hc] at cJ cM cX cI cc
    rw [hu] at cH cu ck
    rw [eI] at cI
    rw [eH] at cH
    by_cases hk : k = 5 ∨ k = 6 ∨ k = 7
    · have e0 : doErr k s t = 0 := by unfold doErr; rw [if_pos hc, if_pos hk]
      rw [e0] at cD
      rcases hk with rfl | rfl | rfl
      · exact spanTells_A5 x s t _ _ _ _ _ _ w cJ cM cX cI cH cD cu cc ck (fun w => inSpan_any s x w) (fun w => joinSpan_any s t w) (fun w => meetSpan_any s t w) (fun w => wideSpan_any s t w) (fun w => spanIn_any s t w) (fun w => doSpan_any 5 s t w (by decide) hs ht)
      · exact spanTells_A6 x s t _ _ _ _ _ _ w cJ cM cX cI cH cD cu cc ck (fun w => inSpan_any s x w) (fun w => joinSpan_any s t w) (fun w => meetSpan_any s t w) (fun w => wideSpan_any s t w) (fun w => spanIn_any s t w) (fun w => doSpan_any 6 s t w (by decide) hs ht)
      · exact spanTells_A7 x s t _ _ _ _ _ _ w cJ cM cX cI cH cD cu cc ck (fun w => inSpan_any s x w) (fun w => joinSpan_any s t w) (fun w => meetSpan_any s t w) (fun w => wideSpan_any s t w) (fun w => spanIn_any s t w) (fun w => doSpan_any 7 s t w (by decide) hs ht)
    · have e0 : doErr k s t = 6 := by unfold doErr; rw [if_pos hc, if_neg hk]
      rw [e0] at cD
      exact spanTells_B k x s t _ _ _ zeroSp _ _ w (by simp; omega) (by simp; omega) (by simp; omega) cJ cM cX cI cH cD cu cc ck (fun w => inSpan_any s x w) (fun w => joinSpan_any s t w) (fun w => meetSpan_any s t w) (fun w => wideSpan_any s t w) (fun w => spanIn_any s t w)
  · have cJ := fun w => joinF_any s t w
    have cM := fun w => meetF_any s t w
    have cX := fun w => widenF_any s t w
    have cI := fun w => within_any s t w
    have cH := fun w => has_any s x w
    have cD := fun w => do_any k s t w
    have cu := fun w => checkSpan_any s w
    have cc := fun w => checkSpans_any s t w
    have ck := fun w => check_any s w
    have e0 : doErr k s t = ckSps s t := by unfold doErr; rw [if_neg hc]
    have e1 : ∀ r, spIf (ckSps s t) r = zeroSp := fun r => if_neg hc
    have e2 : (decide (ckSps s t = 0) && @decide _ ((meetSp s t).dq s)) = false := by rw [decide_eq_false hc]; rfl
    rw [e0] at cD
    simp only [e1] at cJ cM cX cD
    rw [e2] at cI
    by_cases hu : ckSp s = 0
    · have eH : (decide ((0 : Int) = 0) && s.has x) = s.has x := rfl
      rw [hu] at cH cu ck
      rw [eH] at cH
      exact spanTells_C k _ x s t zeroSp zeroSp zeroSp zeroSp false _ w (by simpa using hc) cJ cM cX cI cH cD cu cc ck (fun w => inSpan_any s x w)
    · have eH : (decide (ckSp s = 0) && s.has x) = false := by rw [decide_eq_false hu]; rfl
      rw [eH] at cH
      exact spanTells_E k _ _ x s t zeroSp zeroSp zeroSp zeroSp false false w (by simpa using hc) (by simpa using hu) cJ cM cX cI cH cD cu cc ck
end Go.Proofs.Ytmapdpcfanecdaa
