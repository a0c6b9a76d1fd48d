/- The document's own answers on spans: DoSpan, JoinSpan, for all that is right. -/
import Derived.Test.YtmapdpcfanecdaaGreatKguxp36
import Derived.Test.YtmapdpcfanecdaaGreatKguxp40
import Derived.Test.YtmapdpcfanecdaaGreatKguxp41
import Derived.Test.YtmapdpcfanecdaaGreatKguxp42
namespace Go.Proofs.YtmapdpcfanecdaaGreat
set_option linter.unusedVariables false
set_option linter.unusedSimpArgs false
open Go.RowKit

set_option maxHeartbeats 4000000 in
set_option maxRecDepth 20000 in
theorem joinSpan_f (lo hi lo' hi' : Int) (w : World) :
    Calls Tryz.prog 48 #[sv ⟨false, lo, hi⟩, sv ⟨false, lo', hi'⟩, .bool false] w fun e w' => e = .returned (sv ⟨false, min lo lo', max hi hi'⟩) ∧ Below w.heap.size w w' := by
  go_enter Tryz.func48, Tryz.ntmps48
  go_wp2
  go_region_held3 (fun w' => w'.cell? ⟨w.heap.size, 1, none⟩ = some (.int .i64 lo) ∧ w'.cell? ⟨w.heap.size, 2, none⟩ = some (.int .i64 hi) ∧ w'.cell? ⟨w.heap.size + 1, 1, none⟩ = some (.int .i64 lo') ∧ w'.cell? ⟨w.heap.size + 1, 2, none⟩ = some (.int .i64 hi')) (simp [go_sem])
    (first
      | (go_at_call 93; refine (least2 _ _ lo lo' _ (by simp [go_sem]) (by simp [go_sem])).mono ?_; rintro e w' ⟨rfl, rfl⟩)
      | (go_at_call 94; refine (most2 _ _ hi hi' _ (by simp [go_sem]) (by simp [go_sem])).mono ?_; rintro e w' ⟨rfl, rfl⟩))
  all_goals go_wp2
  all_goals go_returns
  all_goals exact ⟨rfl, by go_grown⟩
end Go.Proofs.YtmapdpcfanecdaaGreat

namespace Go.Proofs.YtmapdpcfanecdaaGreat
set_option linter.unusedVariables false
set_option linter.unusedSimpArgs false
open Go.RowKit

set_option maxHeartbeats 4000000 in
set_option maxRecDepth 20000 in
theorem joinSpan_w (lo hi lo' hi' : Int) (w : World) :
    Calls Tryz.prog 48 #[sv ⟨false, lo, hi⟩, sv ⟨false, lo', hi'⟩, .bool true] w fun e w' => e = .returned (sv (wideSp ⟨false, lo, hi⟩ ⟨false, lo', hi'⟩)) ∧ Below w.heap.size w w' := by
  go_enter Tryz.func48, Tryz.ntmps48
  go_wp2
  go_region_held3 (fun w' => w'.cell? ⟨w.heap.size, 1, none⟩ = some (.int .i64 lo) ∧ w'.cell? ⟨w.heap.size, 2, none⟩ = some (.int .i64 hi) ∧ w'.cell? ⟨w.heap.size + 1, 1, none⟩ = some (.int .i64 lo') ∧ w'.cell? ⟨w.heap.size + 1, 2, none⟩ = some (.int .i64 hi')) (simp [go_sem])
    (first
      | (go_at_call 93; refine (least2 _ _ lo lo' _ (by simp [go_sem]) (by simp [go_sem])).mono ?_; rintro e w' ⟨rfl, rfl⟩)
      | (go_at_call 94; refine (most2 _ _ hi hi' _ (by simp [go_sem]) (by simp [go_sem])).mono ?_; rintro e w' ⟨rfl, rfl⟩))
  all_goals go_wp2
  all_goals go_returns
  all_goals exact ⟨ret_sp (wide_ff (by split <;> omega) (by split <;> omega)), by go_grown⟩
end Go.Proofs.YtmapdpcfanecdaaGreat

namespace Go.Proofs.YtmapdpcfanecdaaGreat
set_option linter.unusedVariables false
set_option linter.unusedSimpArgs false
open Go.RowKit

set_option maxHeartbeats 1000000 in
theorem meetSpan_n (s t : Sp) (w : World) (h : (s.n || t.n) = true) :
    Calls Tryz.prog 62 #[sv s, sv t] w fun e w' => e = .returned (sv ⟨true, 0, 0⟩) ∧ Below w.heap.size w w' := by
  obtain ⟨n, lo, hi⟩ := s
  obtain ⟨n', lo', hi'⟩ := t
  cases n with
  | true =>
    go_enter Tryz.func62, Tryz.ntmps62
    go_wp2
    go_returns
    exact ⟨rfl, by go_grown⟩
  | false =>
    cases n' with
    | true =>
      go_enter Tryz.func62, Tryz.ntmps62
      go_wp2
      go_returns
      exact ⟨rfl, by go_grown⟩
    | false => exact absurd h (by simp)

set_option maxHeartbeats 4000000 in
set_option maxRecDepth 20000 in
theorem meetSpan_f (lo hi lo' hi' : Int) (w : World) :
    Calls Tryz.prog 62 #[sv ⟨false, lo, hi⟩, sv ⟨false, lo', hi'⟩] w fun e w' => e = .returned (sv (meetSp ⟨false, lo, hi⟩ ⟨false, lo', hi'⟩)) ∧ Below w.heap.size w w' := by
  go_enter Tryz.func62, Tryz.ntmps62
  go_wp2
  go_region_held3 (fun w' => w'.cell? ⟨w.heap.size, 1, none⟩ = some (.int .i64 lo) ∧ w'.cell? ⟨w.heap.size, 2, none⟩ = some (.int .i64 hi) ∧ w'.cell? ⟨w.heap.size + 1, 1, none⟩ = some (.int .i64 lo') ∧ w'.cell? ⟨w.heap.size + 1, 2, none⟩ = some (.int .i64 hi')) (simp [go_sem])
    (first
      | (go_at_call 94; refine (most2 _ _ lo lo' _ (by simp [go_sem]) (by simp [go_sem])).mono ?_; rintro e w' ⟨rfl, rfl⟩)
      | (go_at_call 93; refine (least2 _ _ hi hi' _ (by simp [go_sem]) (by simp [go_sem])).mono ?_; rintro e w' ⟨rfl, rfl⟩))
  all_goals go_wp2
  all_goals go_returns
  all_goals exact ⟨ret_sp (by first | exact meet_ff rfl rfl (by assumption) | exact meet_e (by assumption)), by go_grown⟩

theorem meetSpan_any (s t : Sp) (w : World) :
    Calls Tryz.prog 62 #[sv s, sv t] w fun e w' => e = .returned (sv (meetSp s t)) ∧ Below w.heap.size w w' := by
  by_cases h : (s.n || t.n) = true
  · have e0 : meetSp s t = ⟨true, 0, 0⟩ := by unfold meetSp; rw [h]; rfl
    rw [e0]
    exact meetSpan_n s t w h
  · obtain ⟨n, lo, hi⟩ := s
    obtain ⟨n', lo', hi'⟩ := t
    cases n with
    | true => exact absurd rfl h
    | false =>
      cases n' with
      | true => exact absurd rfl h
      | false => exact meetSpan_f lo hi lo' hi' w
end Go.Proofs.YtmapdpcfanecdaaGreat

namespace Go.Proofs.YtmapdpcfanecdaaGreat
set_option linter.unusedVariables false
set_option linter.unusedSimpArgs false
open Go.RowKit

theorem wrapk {x : Int} (h : wrap64 x = x) : IntKind.i64.wrap x = x := by
  rw [IntKind.wrap_i64]
  unfold wrap64 at h
  exact h

theorem doSpan_any (k : Int) (s t : Sp) (w : World) (hk : k = 5 ∨ k = 6 ∨ k = 7) (hs : s.Ok) (ht : t.Ok) :
    Calls Tryz.prog 65 #[.int .i64 k, sv s, sv t] w fun e w' => e = .returned (sv (doSp k s t)) ∧ Below w.heap.size w w' := by
  by_cases h : (s.n || t.n) = true
  · have := doSpan_n k s t w h
    unfold doSp
    rw [if_pos h]
    exact this
  · have e0 : doSp k s t = hull (opOf k s.lo t.lo) (opOf k s.lo t.hi) (opOf k s.hi t.lo) (opOf k s.hi t.hi) := by unfold doSp; rw [if_neg h]
    rw [e0]
    obtain ⟨n, lo, hi⟩ := s
    obtain ⟨n', lo', hi'⟩ := t
    cases n with
    | true => exact absurd rfl h
    | false =>
      cases n' with
      | true => exact absurd rfl h
      | false =>
        rcases hk with rfl | rfl | rfl
        · exact doSpan_add lo hi lo' hi' _ _ _ _ w (wrapk (wrap_add hs.1 ht.1)) (wrapk (wrap_add hs.1 ht.2.1)) (wrapk (wrap_add hs.2.1 ht.1)) (wrapk (wrap_add hs.2.1 ht.2.1))
        · exact doSpan_sub lo hi lo' hi' _ _ _ _ w (wrapk (wrap_sub hs.1 ht.1)) (wrapk (wrap_sub hs.1 ht.2.1)) (wrapk (wrap_sub hs.2.1 ht.1)) (wrapk (wrap_sub hs.2.1 ht.2.1))
        · exact doSpan_mul lo hi lo' hi' _ _ _ _ w (wrapk (wrap_mul hs.1 ht.1)) (wrapk (wrap_mul hs.1 ht.2.1)) (wrapk (wrap_mul hs.2.1 ht.1)) (wrapk (wrap_mul hs.2.1 ht.2.1))

theorem joinSpan_any (s t : Sp) (w : World) :
    Calls Tryz.prog 48 #[sv s, sv t, .bool false] w fun e w' => e = .returned (sv (joinSp s t)) ∧ Below w.heap.size w w' := by
  by_cases h : (s.n || t.n) = true
  · exact joinSpan_n s t false w h
  · obtain ⟨n, lo, hi⟩ := s
    obtain ⟨n', lo', hi'⟩ := t
    cases n with
    | true => exact absurd rfl h
    | false =>
      cases n' with
      | true => exact absurd rfl h
      | false => exact joinSpan_f lo hi lo' hi' w

theorem wideSpan_any (s t : Sp) (w : World) :
    Calls Tryz.prog 48 #[sv s, sv t, .bool true] w fun e w' => e = .returned (sv (wideSp s t)) ∧ Below w.heap.size w w' := by
  by_cases h : (s.n || t.n) = true
  · have e0 : wideSp s t = joinSp s t := by
      unfold wideSp joinSp
      obtain ⟨n, lo, hi⟩ := s
      obtain ⟨n', lo', hi'⟩ := t
      cases n with
      | true => rfl
      | false =>
        cases n' with
        | true => rfl
        | false => exact absurd h (by simp)
    rw [e0]
    exact joinSpan_n s t true w h
  · obtain ⟨n, lo, hi⟩ := s
    obtain ⟨n', lo', hi'⟩ := t
    cases n with
    | true => exact absurd rfl h
    | false =>
      cases n' with
      | true => exact absurd rfl h
      | false => exact joinSpan_w lo hi lo' hi' w
end Go.Proofs.YtmapdpcfanecdaaGreat
