/- Walks over the document's own answers on spans: JoinSpan, MeetSpan. -/
import Derived.Test.YtmapdpcfanecdaaSpR
import Derived.Test.YtmapdpcfanecdaaSpC
namespace Go.Proofs.Ytmapdpcfanecdaa
set_option linter.unusedVariables false
set_option linter.unusedSimpArgs false
open Go.RowKit

set_option maxHeartbeats 1000000 in
theorem joinSpan_n (s t : Sp) (b : Bool) (w : World) (h : (s.n || t.n) = true) :
    Calls Try.prog 15 #[sv s, sv t, .bool b] w fun e w' => e = .returned (sv (joinSp s t)) ∧ Below w.heap.size w w' := by
  obtain ⟨n, lo, hi⟩ := s
  obtain ⟨n', lo', hi'⟩ := t
  cases n with
  | true =>
    go_enter Try.func15, Try.ntmps15
    go_wp2
    go_returns
    exact ⟨rfl, by go_grown⟩
  | false =>
    cases n' with
    | true =>
      go_enter Try.func15, Try.ntmps15
      go_wp2
      go_returns
      exact ⟨rfl, by go_grown⟩
    | false => exact absurd h (by simp)

theorem wide_ff {lo hi lo' hi' a b : Int} (ha : a = if lo' < lo then -2147483648 else lo) (hb : b = if hi < hi' then 2147483647 else hi) : wideSp ⟨false, lo, hi⟩ ⟨false, lo', hi'⟩ = ⟨false, a, b⟩ := by
  subst ha hb
  rfl
end Go.Proofs.Ytmapdpcfanecdaa
