/- Walks over package span: Join, Meet, Widen, Within. -/
import Derived.Test.YtmapdpcfanecdaaGreatKguxp25
namespace Go.Proofs.YtmapdpcfanecdaaGreat
set_option linter.unusedVariables false
set_option linter.unusedSimpArgs false
open Go.RowKit

/-- What comes beside an errno. -/
abbrev spIf (e : Int) (r : Sp) : Sp := if e = 0 then r else zeroSp

theorem tog_join (s t : Sp) (w : World) :
    Calls Tryz.prog 84 #[sv s, sv t, .func (.func 85) #[] #[]] w fun e w' => e = .returned (.tuple #[sv (spIf (ckSps s t) (joinSp s t)), .int .i64 (ckSps s t)]) ∧ Below w.heap.size w w' := by
  by_cases h : ckSps s t = 0
  · rw [h]; exact together_join s t w h
  · unfold spIf; rw [if_neg h]; exact together_err _ s t w h

set_option maxHeartbeats 1000000 in
theorem joinF_any (s t : Sp) (w : World) :
    Calls Tryz.prog 38 #[sv s, sv t] w fun e w' => e = .returned (.tuple #[sv (spIf (ckSps s t) (joinSp s t)), .int .i64 (ckSps s t)]) ∧ Below w.heap.size w w' := by
  have hT := tog_join s t
  generalize spIf (ckSps s t) (joinSp s t) = r at hT ⊢
  generalize ckSps s t = c at hT ⊢
  obtain ⟨n, lo, hi⟩ := s
  obtain ⟨n', lo', hi'⟩ := t
  obtain ⟨rn, rlo, rhi⟩ := r
  go_enter Tryz.func38, Tryz.ntmps38
  go_wp2_with (go_at_call 84; fail)
  refine (hT _).mono ?_
  rintro e w1 ⟨rfl, hb1⟩
  obtain ⟨-, -, ⟨r0, r1, r2⟩, ⟨f0, f1, f2⟩, z0, z1, z2⟩ := w3_cells (s := ⟨n, lo, hi⟩) (t := ⟨n', lo', hi'⟩) (r := zeroSp) hb1 (by simp)
  have H1 : Below w.heap.size w w1 := (w3_below ⟨n, lo, hi⟩ ⟨n', lo', hi'⟩ zeroSp w).trans (hb1.mono (by simp; omega))
  simp only [zeroSp] at r0 r1 r2
  clear hb1 hT
  go_wp2
  refine bodyPost_ret (v := .tuple #[sv ⟨rn, rlo, rhi⟩, .int .i64 c]) (by simp [results, Tryz.results38, go_sem, r0, r1, r2]) rfl ⟨rfl, ?_⟩
  exact ((H1.setCell (by simp; omega) _).setCell (by simp; omega) _).setCell (by simp; omega) _

theorem tog_meet (s t : Sp) (w : World) :
    Calls Tryz.prog 84 #[sv s, sv t, .func (.func 124) #[] #[]] w fun e w' => e = .returned (.tuple #[sv (spIf (ckSps s t) (meetSp s t)), .int .i64 (ckSps s t)]) ∧ Below w.heap.size w w' := by
  by_cases h : ckSps s t = 0
  · rw [h]; exact together_meet s t w h
  · unfold spIf; rw [if_neg h]; exact together_err _ s t w h

set_option maxHeartbeats 1000000 in
theorem meetF_any (s t : Sp) (w : World) :
    Calls Tryz.prog 90 #[sv s, sv t] w fun e w' => e = .returned (.tuple #[sv (spIf (ckSps s t) (meetSp s t)), .int .i64 (ckSps s t)]) ∧ Below w.heap.size w w' := by
  have hT := tog_meet s t
  generalize spIf (ckSps s t) (meetSp s t) = r at hT ⊢
  generalize ckSps s t = c at hT ⊢
  obtain ⟨n, lo, hi⟩ := s
  obtain ⟨n', lo', hi'⟩ := t
  obtain ⟨rn, rlo, rhi⟩ := r
  go_enter Tryz.func90, Tryz.ntmps90
  go_wp2_with (go_at_call 84; fail)
  refine (hT _).mono ?_
  rintro e w1 ⟨rfl, hb1⟩
  obtain ⟨-, -, ⟨r0, r1, r2⟩, ⟨f0, f1, f2⟩, z0, z1, z2⟩ := w3_cells (s := ⟨n, lo, hi⟩) (t := ⟨n', lo', hi'⟩) (r := zeroSp) hb1 (by simp)
  have H1 : Below w.heap.size w w1 := (w3_below ⟨n, lo, hi⟩ ⟨n', lo', hi'⟩ zeroSp w).trans (hb1.mono (by simp; omega))
  simp only [zeroSp] at r0 r1 r2
  clear hb1 hT
  go_wp2
  refine bodyPost_ret (v := .tuple #[sv ⟨rn, rlo, rhi⟩, .int .i64 c]) (by simp [results, Tryz.results90, go_sem, r0, r1, r2]) rfl ⟨rfl, ?_⟩
  exact ((H1.setCell (by simp; omega) _).setCell (by simp; omega) _).setCell (by simp; omega) _

theorem tog_widen (s t : Sp) (w : World) :
    Calls Tryz.prog 84 #[sv s, sv t, .func (.func 86) #[] #[]] w fun e w' => e = .returned (.tuple #[sv (spIf (ckSps s t) (wideSp s t)), .int .i64 (ckSps s t)]) ∧ Below w.heap.size w w' := by
  by_cases h : ckSps s t = 0
  · rw [h]; exact together_widen s t w h
  · unfold spIf; rw [if_neg h]; exact together_err _ s t w h

set_option maxHeartbeats 1000000 in
theorem widenF_any (s t : Sp) (w : World) :
    Calls Tryz.prog 39 #[sv s, sv t] w fun e w' => e = .returned (.tuple #[sv (spIf (ckSps s t) (wideSp s t)), .int .i64 (ckSps s t)]) ∧ Below w.heap.size w w' := by
  have hT := tog_widen s t
  generalize spIf (ckSps s t) (wideSp s t) = r at hT ⊢
  generalize ckSps s t = c at hT ⊢
  obtain ⟨n, lo, hi⟩ := s
  obtain ⟨n', lo', hi'⟩ := t
  obtain ⟨rn, rlo, rhi⟩ := r
  go_enter Tryz.func39, Tryz.ntmps39
  go_wp2_with (go_at_call 84; fail)
  refine (hT _).mono ?_
  rintro e w1 ⟨rfl, hb1⟩
  obtain ⟨-, -, ⟨r0, r1, r2⟩, ⟨f0, f1, f2⟩, z0, z1, z2⟩ := w3_cells (s := ⟨n, lo, hi⟩) (t := ⟨n', lo', hi'⟩) (r := zeroSp) hb1 (by simp)
  have H1 : Below w.heap.size w w1 := (w3_below ⟨n, lo, hi⟩ ⟨n', lo', hi'⟩ zeroSp w).trans (hb1.mono (by simp; omega))
  simp only [zeroSp] at r0 r1 r2
  clear hb1 hT
  go_wp2
  refine bodyPost_ret (v := .tuple #[sv ⟨rn, rlo, rhi⟩, .int .i64 c]) (by simp [results, Tryz.results39, go_sem, r0, r1, r2]) rfl ⟨rfl, ?_⟩
  exact ((H1.setCell (by simp; omega) _).setCell (by simp; omega) _).setCell (by simp; omega) _

set_option maxHeartbeats 1000000 in
theorem within_err (s t : Sp) (w : World) (h : ckSps s t ≠ 0) :
    Calls Tryz.prog 44 #[sv s, sv t] w fun e w' => e = .returned (.tuple #[.bool false, .int .i64 (ckSps s t)]) ∧ Below w.heap.size w w' := by
  have hT := meetF_any s t
  have h' : (ckSps s t == 0) = false := by simpa using h
  generalize spIf (ckSps s t) (meetSp s t) = r at hT
  generalize ckSps s t = c at hT h h' ⊢
  obtain ⟨n, lo, hi⟩ := s
  obtain ⟨n', lo', hi'⟩ := t
  obtain ⟨rn, rlo, rhi⟩ := r
  have h0 : Below w.heap.size w ((w.alloc (.cells #[.bool n, .int .i64 lo, .int .i64 hi] 26)).alloc (.cells #[.bool n', .int .i64 lo', .int .i64 hi'] 26)) := by go_grown
  go_enter Tryz.func44, Tryz.ntmps44
  go_wp2_with (go_at_call 90; fail)
  refine (hT _).mono ?_
  rintro e w1 ⟨rfl, hb1⟩
  obtain ⟨c0, c1, c2, d0, d1, d2⟩ := sp_cells2 hb1 (by simp)
  have H1 : Below w.heap.size w w1 := h0.trans (hb1.mono (by simp; omega))
  have z0 : w.heap.size < w1.heap.size := by have := hb1.size; simp at this; omega
  clear hb1 hT
  go_wp2
  go_ret2
  exact ⟨rfl, H1.alloc (by omega) _⟩

/-- Are two spans the same, part by part? -/
theorem sp_eq (r : Sp) (s : Sp) : @decide _ (r.dq s) = (r.n == s.n && (r.lo == s.lo && r.hi == s.hi)) := by
  obtain ⟨n, lo, hi⟩ := r
  obtain ⟨n', lo', hi'⟩ := s
  rw [Bool.eq_iff_iff]
  simp

set_option maxHeartbeats 1000000 in
theorem within_ok (s t : Sp) (w : World) (h : ckSps s t = 0) :
    Calls Tryz.prog 44 #[sv s, sv t] w fun e w' => e = .returned (.tuple #[.bool (@decide _ ((meetSp s t).dq s)), .int .i64 0]) ∧ Below w.heap.size w w' := by
  have hT := meetF_any s t
  rw [h] at hT
  have e0 : spIf 0 (meetSp s t) = meetSp s t := rfl
  rw [e0] at hT
  rw [sp_eq]
  clear e0 h
  generalize meetSp s t = r at hT ⊢
  obtain ⟨n, lo, hi⟩ := s
  obtain ⟨n', lo', hi'⟩ := t
  obtain ⟨rn, rlo, rhi⟩ := r
  have h0 : Below w.heap.size w ((w.alloc (.cells #[.bool n, .int .i64 lo, .int .i64 hi] 26)).alloc (.cells #[.bool n', .int .i64 lo', .int .i64 hi'] 26)) := by go_grown
  go_enter Tryz.func44, Tryz.ntmps44
  go_wp2_with (go_at_call 90; fail)
  refine (hT _).mono ?_
  rintro e w1 ⟨rfl, hb1⟩
  obtain ⟨c0, c1, c2, d0, d1, d2⟩ := sp_cells2 hb1 (by simp)
  have H1 : Below w.heap.size w w1 := h0.trans (hb1.mono (by simp; omega))
  have z0 : w.heap.size < w1.heap.size := by have := hb1.size; simp at this; omega
  clear hb1 hT
  go_wp2
  all_goals go_ret2
  all_goals exact ⟨ret_t2b (by simp_all), H1.alloc (by omega) _⟩

theorem within_any (s t : Sp) (w : World) :
    Calls Tryz.prog 44 #[sv s, sv t] w fun e w' => e = .returned (.tuple #[.bool (decide (ckSps s t = 0) && @decide _ ((meetSp s t).dq s)), .int .i64 (ckSps s t)]) ∧ Below w.heap.size w w' := by
  by_cases h : ckSps s t = 0
  · have := within_ok s t w h
    rw [h]
    simpa using this
  · have := within_err s t w h
    simpa [h] using this
end Go.Proofs.YtmapdpcfanecdaaGreat
