/- The document's own answers on spans: DoSpan, JoinSpan, for all that is right. -/
import Derived.Test.YtmapdpcfanecdaaSpTadd
import Derived.Test.YtmapdpcfanecdaaSpTsub
import Derived.Test.YtmapdpcfanecdaaSpTmul
import Derived.Test.YtmapdpcfanecdaaSpSF
import Derived.Test.YtmapdpcfanecdaaSpSW
import Derived.Test.YtmapdpcfanecdaaSpM
namespace Go.Proofs.Ytmapdpcfanecdaa
set_option linter.unusedVariables false
set_option linter.unusedSimpArgs false
open Go.RowKit

theorem wrapk {x : Int} (h : wrap64 x = x) : IntKind.i64.wrap x = x := by
  rw [IntKind.wrap_i64]
  unfold wrap64 at h
  exact h

theorem doSpan_any (k : Int) (s t : Sp) (w : World) (hk : k = 5 ∨ k = 6 ∨ k = 7) (hs : s.Ok) (ht : t.Ok) :
    Calls Try.prog 18 #[.int .i64 k, sv s, sv t] w fun e w' => e = .returned (sv (doSp k s t)) ∧ Below w.heap.size w w' := by
  by_cases h : (s.n || t.n) = true
  · have := doSpan_n k s t w h
    unfold doSp
    rw [if_pos h]
    exact this
  · have e0 : doSp k s t = hull (opOf k s.lo t.lo) (opOf k s.lo t.hi) (opOf k s.hi t.lo) (opOf k s.hi t.hi) := by unfold doSp; rw [if_neg h]
    rw [e0]
    obtain ⟨n, lo, hi⟩ := s
    obtain ⟨n', lo', hi'⟩ := t
    cases n with
    | true => exact absurd rfl h
    | false =>
      cases n' with
      | true => exact absurd rfl h
      | false =>
        rcases hk with rfl | rfl | rfl
        · exact doSpan_add lo hi lo' hi' _ _ _ _ w (wrapk (wrap_add hs.1 ht.1)) (wrapk (wrap_add hs.1 ht.2.1)) (wrapk (wrap_add hs.2.1 ht.1)) (wrapk (wrap_add hs.2.1 ht.2.1))
        · exact doSpan_sub lo hi lo' hi' _ _ _ _ w (wrapk (wrap_sub hs.1 ht.1)) (wrapk (wrap_sub hs.1 ht.2.1)) (wrapk (wrap_sub hs.2.1 ht.1)) (wrapk (wrap_sub hs.2.1 ht.2.1))
        · exact doSpan_mul lo hi lo' hi' _ _ _ _ w (wrapk (wrap_mul hs.1 ht.1)) (wrapk (wrap_mul hs.1 ht.2.1)) (wrapk (wrap_mul hs.2.1 ht.1)) (wrapk (wrap_mul hs.2.1 ht.2.1))

theorem joinSpan_any (s t : Sp) (w : World) :
    Calls Try.prog 15 #[sv s, sv t, .bool false] w fun e w' => e = .returned (sv (joinSp s t)) ∧ Below w.heap.size w w' := by
  by_cases h : (s.n || t.n) = true
  · exact joinSpan_n s t false w h
  · obtain ⟨n, lo, hi⟩ := s
    obtain ⟨n', lo', hi'⟩ := t
    cases n with
    | true => exact absurd rfl h
    | false =>
      cases n' with
      | true => exact absurd rfl h
      | false => exact joinSpan_f lo hi lo' hi' w

theorem wideSpan_any (s t : Sp) (w : World) :
    Calls Try.prog 15 #[sv s, sv t, .bool true] w fun e w' => e = .returned (sv (wideSp s t)) ∧ Below w.heap.size w w' := by
  by_cases h : (s.n || t.n) = true
  · have e0 : wideSp s t = joinSp s t := by
      unfold wideSp joinSp
      obtain ⟨n, lo, hi⟩ := s
      obtain ⟨n', lo', hi'⟩ := t
      cases n with
      | true => rfl
      | false =>
        cases n' with
        | true => rfl
        | false => exact absurd h (by simp)
    rw [e0]
    exact joinSpan_n s t true w h
  · obtain ⟨n, lo, hi⟩ := s
    obtain ⟨n', lo', hi'⟩ := t
    cases n with
    | true => exact absurd rfl h
    | false =>
      cases n' with
      | true => exact absurd rfl h
      | false => exact joinSpan_w lo hi lo' hi' w
end Go.Proofs.Ytmapdpcfanecdaa
