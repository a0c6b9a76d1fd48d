/- The law's own helpers on spans: spanBegun, spanIs. -/
import Derived.Test.YtmapdpcfanecdaaSpF
namespace Go.Proofs.Ytmapdpcfanecdaa
set_option linter.unusedVariables false
set_option linter.unusedSimpArgs false
open Go.RowKit

set_option maxHeartbeats 1000000 in
theorem spanIs_yes (s : Sp) (c : Int) (w : World) (hz : c ≠ 0 → s = zeroSp) :
    Calls Try.prog 21 #[sv s, .int .i64 c, .int .i64 c, sv s] w fun r w' => r = .returned (.bool true) ∧ Below w.heap.size w w' := by
  by_cases h : c = 0
  · subst h
    clear hz
    obtain ⟨n, lo, hi⟩ := s
    go_enter Try.func21, Try.ntmps21
    go_wp2
    go_ret
    exact ⟨rfl, by go_grown⟩
  · obtain rfl := hz h
    clear hz
    go_enter Try.func21, Try.ntmps21
    go_wp2
    go_ret
    exact ⟨rfl, by go_grown⟩

theorem begun_do (w : World) : Calls Try.prog 11 #[.int .i64 5, sv ⟨false, 1, 2⟩, sv ⟨false, 3, 5⟩] w fun e w' => e = .returned (.tuple #[sv ⟨false, 4, 7⟩, .int .i64 0]) ∧ Below w.heap.size w w' := by
  have h := do_any 5 ⟨false, 1, 2⟩ ⟨false, 3, 5⟩ w
  rw [show doErr 5 ⟨false, 1, 2⟩ ⟨false, 3, 5⟩ = 0 from by decide +kernel, show spIf 0 (doSp 5 ⟨false, 1, 2⟩ ⟨false, 3, 5⟩) = ⟨false, 4, 7⟩ from by kernel_rfl] at h
  exact h
theorem begun_widen (w : World) : Calls Try.prog 8 #[sv ⟨false, 0, 0⟩, sv ⟨false, 0, 1⟩] w fun e w' => e = .returned (.tuple #[sv ⟨false, 0, 2147483647⟩, .int .i64 0]) ∧ Below w.heap.size w w' := by
  have h := widenF_any ⟨false, 0, 0⟩ ⟨false, 0, 1⟩ w
  rw [show ckSps ⟨false, 0, 0⟩ ⟨false, 0, 1⟩ = 0 from by decide +kernel, show spIf 0 (wideSp ⟨false, 0, 0⟩ ⟨false, 0, 1⟩) = ⟨false, 0, 2147483647⟩ from by kernel_rfl] at h
  exact h
theorem begun_has (w : World) : Calls Try.prog 10 #[sv ⟨false, 4, 7⟩, .int .i64 6] w fun e w' => e = .returned (.tuple #[.bool true, .int .i64 0]) ∧ Below w.heap.size w w' := by
  have h := has_any ⟨false, 4, 7⟩ 6 w
  rw [show ckSp ⟨false, 4, 7⟩ = 0 from by decide +kernel, show (decide ((0 : Int) = 0) && Sp.has ⟨false, 4, 7⟩ 6) = true from by decide +kernel] at h
  exact h
theorem begun_check (w : World) : Calls Try.prog 20 #[sv ⟨false, 4, 7⟩] w fun e w' => e = .returned (.int .i64 0) ∧ Below w.heap.size w w' := by
  have h := check_any ⟨false, 4, 7⟩ w
  rw [show ckSp ⟨false, 4, 7⟩ = 0 from by decide +kernel] at h
  exact h

set_option maxHeartbeats 4000000 in
theorem spanBegun_any (w : World) :
    Calls Try.prog 19 #[] w fun e w' => e = .returned (.bool true) ∧ Below w.heap.size w w' := by
  go_enter Try.func19, Try.ntmps19
  go_wp2_with (go_at_call 11; fail)
  refine (begun_do _).mono ?_
  rintro e w1 ⟨rfl, H1⟩
  go_wp2_with (go_at_call 8; fail)
  refine (begun_widen _).mono ?_
  rintro e w2 ⟨rfl, hb2⟩
  obtain ⟨c0, c1, c2⟩ := sp_cells hb2 (by simp)
  have y1 : w1.heap.size < w2.heap.size := by have := hb2.size; simp at this; omega
  have H2 : Below w.heap.size w w2 := (H1.alloc H1.size _).trans (hb2.mono (by simp; have := H1.size; omega))
  clear hb2
  go_wp2_with (go_at_call 10; fail)
  refine (begun_has _).mono ?_
  rintro e w3 ⟨rfl, hb3⟩
  have HH : Below (w2.heap.size + 1) (w2.alloc (.cells #[.bool false, .int .i64 0, .int .i64 2147483647] 23)) w3 := hb3.mono (by simp)
  have K : ∀ wx, Below (w2.heap.size + 1) (w2.alloc (.cells #[.bool false, .int .i64 0, .int .i64 2147483647] 23)) wx → (wx.cell? ⟨w1.heap.size, 0, none⟩ = some (.bool false) ∧ wx.cell? ⟨w1.heap.size, 1, none⟩ = some (.int .i64 4) ∧ wx.cell? ⟨w1.heap.size, 2, none⟩ = some (.int .i64 7)) ∧ (wx.cell? ⟨w2.heap.size, 0, none⟩ = some (.bool false) ∧ wx.cell? ⟨w2.heap.size, 1, none⟩ = some (.int .i64 0) ∧ wx.cell? ⟨w2.heap.size, 2, none⟩ = some (.int .i64 2147483647)) := by
    intro wx hb
    refine ⟨?_, sp_cells hb (Nat.lt_succ_self _)⟩
    rw [hb.cell (by simp; omega), hb.cell (by simp; omega), hb.cell (by simp; omega)]
    simp [go_sem, y1, c0, c1, c2]
  obtain ⟨⟨p0, p1, p2⟩, q0, q1, q2⟩ := K w3 HH
  have y2 : w1.heap.size < w3.heap.size := by have := HH.size; simp at this; omega
  have y3 : w2.heap.size < w3.heap.size := by have := HH.size; simp at this; omega
  have H3 : Below w.heap.size w w3 := (H2.alloc H2.size _).trans (HH.mono (by have := H2.size; omega))
  clear c0 c1 c2 hb3
  go_wp2_with (go_at_call 20; fail)
  refine (begun_check _).mono ?_
  rintro e w4 ⟨rfl, hb4⟩
  go_wp2
  go_ret
  exact ⟨rfl, H3.trans (hb4.mono H3.size)⟩
end Go.Proofs.Ytmapdpcfanecdaa
