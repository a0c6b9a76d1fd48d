/- Walks over the document's own answers on spans: MeetSpan. -/
import Derived.Test.YtmapdpcfanecdabGreatKstpxp09
set_option linter.unusedSimpArgs false
set_option linter.unusedVariables false
namespace Go.Proofs.YtmapdpcfanecdabGreat
section
set_option maxHeartbeats 4000000
set_option maxRecDepth 20000
open Go.RowKit

theorem meetSpan_n (s t : Sp) (w : World) (h : (s.n || t.n) = true) :
  Calls Tryz.prog 60 #[sv s, sv t] w fun e w' => e = .returned (sv ⟨true, 0, 0⟩) ∧ Below w.heap.size w w' := by
 obtain ⟨n, lo, hi⟩ := s
 obtain ⟨n', lo', hi'⟩ := t
 cases n with
 | true =>
  go_enter Tryz.func60, Tryz.ntmps60
  go_wp2
  go_returns
  exact ⟨rfl, by go_grown⟩
 | false =>
  cases n' with
  | true =>
   go_enter Tryz.func60, Tryz.ntmps60
   go_wp2
   go_returns
   exact ⟨rfl, by go_grown⟩
  | false => exact absurd h (by simp)

theorem meetSpan_f (lo hi lo' hi' : Int) (w : World) :
  Calls Tryz.prog 60 #[sv ⟨false, lo, hi⟩, sv ⟨false, lo', hi'⟩] w fun e w' => e = .returned (sv (meetSp ⟨false, lo, hi⟩ ⟨false, lo', hi'⟩)) ∧ Below w.heap.size w w' := by
 go_enter Tryz.func60, Tryz.ntmps60
 go_wp2
 go_region_held3 (fun w' => w'.cell? ⟨w.heap.size, 1, none⟩ = some (.int .i64 lo) ∧ w'.cell? ⟨w.heap.size, 2, none⟩ = some (.int .i64 hi) ∧ w'.cell? ⟨w.heap.size + 1, 1, none⟩ = some (.int .i64 lo') ∧ w'.cell? ⟨w.heap.size + 1, 2, none⟩ = some (.int .i64 hi')) (simp [go_sem])
  (first
   | (go_at_call 95; refine (most2 _ _ lo lo' _ (by simp [go_sem]) (by simp [go_sem])).mono ?_; rintro e w' ⟨rfl, rfl⟩)
   | (go_at_call 94; refine (least2 _ _ hi hi' _ (by simp [go_sem]) (by simp [go_sem])).mono ?_; rintro e w' ⟨rfl, rfl⟩))
 all_goals go_wp2
 all_goals go_returns
 all_goals exact ⟨ret_sp (by first | exact meet_ff rfl rfl (by assumption) | exact meet_e (by assumption)), by go_grown⟩

theorem meetSpan_any (s t : Sp) (w : World) :
  Calls Tryz.prog 60 #[sv s, sv t] w fun e w' => e = .returned (sv (meetSp s t)) ∧ Below w.heap.size w w' := by
 by_cases h : (s.n || t.n) = true
 ·have e0 : meetSp s t = ⟨true, 0, 0⟩ := by unfold meetSp; rw [h]; rfl
  rw [e0]
  exact meetSpan_n s t w h
 ·obtain ⟨n, lo, hi⟩ := s
  obtain ⟨n', lo', hi'⟩ := t
  cases n with
  | true => exact absurd rfl h
  | false =>
   cases n' with
   | true => exact absurd rfl h
   | false => exact meetSpan_f lo hi lo' hi' w
end
end Go.Proofs.YtmapdpcfanecdabGreat
