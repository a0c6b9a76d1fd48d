/- Walks over the document's own answers: guesses: Nothing, IsNothing, NoNumber, Single. -/
import Derived.Test.YtmapdpcfanecdaaGreatKpicxp16
import Derived.Test.YtmapdpcfanecdaaGreatKpicxp17
import Derived.Lib.MinMax
import Derived.Deep.AppendLies
import Derived.Deep.RegionHeldLaw
import Derived.Laws.OwnMore
import Derived.Test.YtmapdpcfanecdaaGreatKpicxp08
import Derived.Deep.QuietTactic
import Derived.BigQuiet
import Derived.Lib.QuietBelow
namespace Go.Proofs.YtmapdpcfanecdaaGreat
set_option linter.unusedVariables false
set_option linter.unusedSimpArgs false
open Go.RowKit

set_option maxHeartbeats 1000000 in
theorem joinSpan_n (s t : Sp) (b : Bool) (w : World) (h : (s.n || t.n) = true) :
    Calls Tryz.prog 48 #[sv s, sv t, .bool b] w fun e w' => e = .returned (sv (joinSp s t)) ∧ Below w.heap.size w w' := by
  obtain ⟨n, lo, hi⟩ := s
  obtain ⟨n', lo', hi'⟩ := t
  cases n with
  | true =>
    go_enter Tryz.func48, Tryz.ntmps48
    go_wp2
    go_returns
    exact ⟨rfl, by go_grown⟩
  | false =>
    cases n' with
    | true =>
      go_enter Tryz.func48, Tryz.ntmps48
      go_wp2
      go_returns
      exact ⟨rfl, by go_grown⟩
    | false => exact absurd h (by simp)

theorem wide_ff {lo hi lo' hi' a b : Int} (ha : a = if lo' < lo then -2147483648 else lo) (hb : b = if hi < hi' then 2147483647 else hi) : wideSp ⟨false, lo, hi⟩ ⟨false, lo', hi'⟩ = ⟨false, a, b⟩ := by
  subst ha hb
  rfl
end Go.Proofs.YtmapdpcfanecdaaGreat

namespace Go.Proofs.YtmapdpcfanecdaaGreat
set_option linter.unusedVariables false
set_option linter.unusedSimpArgs false
open Go.RowKit

/-- What comes beside an errno. -/
abbrev spIf (e : Int) (r : Sp) : Sp := if e = 0 then r else zeroSp

theorem tog_join (s t : Sp) (w : World) :
    Calls Tryz.prog 84 #[sv s, sv t, .func (.func 85) #[] #[]] w fun e w' => e = .returned (.tuple #[sv (spIf (ckSps s t) (joinSp s t)), .int .i64 (ckSps s t)]) ∧ Below w.heap.size w w' := by
  by_cases h : ckSps s t = 0
  · rw [h]; exact together_join s t w h
  · unfold spIf; rw [if_neg h]; exact together_err _ s t w h

set_option maxHeartbeats 1000000 in
theorem joinF_any (s t : Sp) (w : World) :
    Calls Tryz.prog 38 #[sv s, sv t] w fun e w' => e = .returned (.tuple #[sv (spIf (ckSps s t) (joinSp s t)), .int .i64 (ckSps s t)]) ∧ Below w.heap.size w w' := by
  have hT := tog_join s t
  generalize spIf (ckSps s t) (joinSp s t) = r at hT ⊢
  generalize ckSps s t = c at hT ⊢
  obtain ⟨n, lo, hi⟩ := s
  obtain ⟨n', lo', hi'⟩ := t
  obtain ⟨rn, rlo, rhi⟩ := r
  go_enter Tryz.func38, Tryz.ntmps38
  go_wp2_with (go_at_call 84; fail)
  refine (hT _).mono ?_
  rintro e w1 ⟨rfl, hb1⟩
  obtain ⟨-, -, ⟨r0, r1, r2⟩, ⟨f0, f1, f2⟩, z0, z1, z2⟩ := w3_cells (s := ⟨n, lo, hi⟩) (t := ⟨n', lo', hi'⟩) (r := zeroSp) hb1 (by simp)
  have H1 : Below w.heap.size w w1 := (w3_below ⟨n, lo, hi⟩ ⟨n', lo', hi'⟩ zeroSp w).trans (hb1.mono (by simp; omega))
  simp only [zeroSp] at r0 r1 r2
  clear hb1 hT
  go_wp2
  refine bodyPost_ret (v := .tuple #[sv ⟨rn, rlo, rhi⟩, .int .i64 c]) (by simp [results, Tryz.results38, go_sem, r0, r1, r2]) rfl ⟨rfl, ?_⟩
  exact ((H1.setCell (by simp; omega) _).setCell (by simp; omega) _).setCell (by simp; omega) _

theorem tog_meet (s t : Sp) (w : World) :
    Calls Tryz.prog 84 #[sv s, sv t, .func (.func 124) #[] #[]] w fun e w' => e = .returned (.tuple #[sv (spIf (ckSps s t) (meetSp s t)), .int .i64 (ckSps s t)]) ∧ Below w.heap.size w w' := by
  by_cases h : ckSps s t = 0
  · rw [h]; exact together_meet s t w h
  · unfold spIf; rw [if_neg h]; exact together_err _ s t w h

set_option maxHeartbeats 1000000 in
theorem meetF_any (s t : Sp) (w : World) :
    Calls Tryz.prog 90 #[sv s, sv t] w fun e w' => e = .returned (.tuple #[sv (spIf (ckSps s t) (meetSp s t)), .int .i64 (ckSps s t)]) ∧ Below w.heap.size w w' := by
  have hT := tog_meet s t
  generalize spIf (ckSps s t) (meetSp s t) = r at hT ⊢
  generalize ckSps s t = c at hT ⊢
  obtain ⟨n, lo, hi⟩ := s
  obtain ⟨n', lo', hi'⟩ := t
  obtain ⟨rn, rlo, rhi⟩ := r
  go_enter Tryz.func90, Tryz.ntmps90
  go_wp2_with (go_at_call 84; fail)
  refine (hT _).mono ?_
  rintro e w1 ⟨rfl, hb1⟩
  obtain ⟨-, -, ⟨r0, r1, r2⟩, ⟨f0, f1, f2⟩, z0, z1, z2⟩ := w3_cells (s := ⟨n, lo, hi⟩) (t := ⟨n', lo', hi'⟩) (r := zeroSp) hb1 (by simp)
  have H1 : Below w.heap.size w w1 := (w3_below ⟨n, lo, hi⟩ ⟨n', lo', hi'⟩ zeroSp w).trans (hb1.mono (by simp; omega))
  simp only [zeroSp] at r0 r1 r2
  clear hb1 hT
  go_wp2
  refine bodyPost_ret (v := .tuple #[sv ⟨rn, rlo, rhi⟩, .int .i64 c]) (by simp [results, Tryz.results90, go_sem, r0, r1, r2]) rfl ⟨rfl, ?_⟩
  exact ((H1.setCell (by simp; omega) _).setCell (by simp; omega) _).setCell (by simp; omega) _

theorem tog_widen (s t : Sp) (w : World) :
    Calls Tryz.prog 84 #[sv s, sv t, .func (.func 86) #[] #[]] w fun e w' => e = .returned (.tuple #[sv (spIf (ckSps s t) (wideSp s t)), .int .i64 (ckSps s t)]) ∧ Below w.heap.size w w' := by
  by_cases h : ckSps s t = 0
  · rw [h]; exact together_widen s t w h
  · unfold spIf; rw [if_neg h]; exact together_err _ s t w h

set_option maxHeartbeats 1000000 in
theorem widenF_any (s t : Sp) (w : World) :
    Calls Tryz.prog 39 #[sv s, sv t] w fun e w' => e = .returned (.tuple #[sv (spIf (ckSps s t) (wideSp s t)), .int .i64 (ckSps s t)]) ∧ Below w.heap.size w w' := by
  have hT := tog_widen s t
  generalize spIf (ckSps s t) (wideSp s t) = r at hT ⊢
  generalize ckSps s t = c at hT ⊢
  obtain ⟨n, lo, hi⟩ := s
  obtain ⟨n', lo', hi'⟩ := t
  obtain ⟨rn, rlo, rhi⟩ := r
  go_enter Tryz.func39, Tryz.ntmps39
  go_wp2_with (go_at_call 84; fail)
  refine (hT _).mono ?_
  rintro e w1 ⟨rfl, hb1⟩
  obtain ⟨-, -, ⟨r0, r1, r2⟩, ⟨f0, f1, f2⟩, z0, z1, z2⟩ := w3_cells (s := ⟨n, lo, hi⟩) (t := ⟨n', lo', hi'⟩) (r := zeroSp) hb1 (by simp)
  have H1 : Below w.heap.size w w1 := (w3_below ⟨n, lo, hi⟩ ⟨n', lo', hi'⟩ zeroSp w).trans (hb1.mono (by simp; omega))
  simp only [zeroSp] at r0 r1 r2
  clear hb1 hT
  go_wp2
  refine bodyPost_ret (v := .tuple #[sv ⟨rn, rlo, rhi⟩, .int .i64 c]) (by simp [results, Tryz.results39, go_sem, r0, r1, r2]) rfl ⟨rfl, ?_⟩
  exact ((H1.setCell (by simp; omega) _).setCell (by simp; omega) _).setCell (by simp; omega) _

set_option maxHeartbeats 1000000 in
theorem within_err (s t : Sp) (w : World) (h : ckSps s t ≠ 0) :
    Calls Tryz.prog 44 #[sv s, sv t] w fun e w' => e = .returned (.tuple #[.bool false, .int .i64 (ckSps s t)]) ∧ Below w.heap.size w w' := by
  have hT := meetF_any s t
  have h' : (ckSps s t == 0) = false := by simpa using h
  generalize spIf (ckSps s t) (meetSp s t) = r at hT
  generalize ckSps s t = c at hT h h' ⊢
  obtain ⟨n, lo, hi⟩ := s
  obtain ⟨n', lo', hi'⟩ := t
  obtain ⟨rn, rlo, rhi⟩ := r
  have h0 : Below w.heap.size w ((w.alloc (.cells #[.bool n, .int .i64 lo, .int .i64 hi] 26)).alloc (.cells #[.bool n', .int .i64 lo', .int .i64 hi'] 26)) := by go_grown
  go_enter Tryz.func44, Tryz.ntmps44
  go_wp2_with (go_at_call 90; fail)
  refine (hT _).mono ?_
  rintro e w1 ⟨rfl, hb1⟩
  obtain ⟨c0, c1, c2, d0, d1, d2⟩ := sp_cells2 hb1 (by simp)
  have H1 : Below w.heap.size w w1 := h0.trans (hb1.mono (by simp; omega))
  have z0 : w.heap.size < w1.heap.size := by have := hb1.size; simp at this; omega
  clear hb1 hT
  go_wp2
  go_ret2
  exact ⟨rfl, H1.alloc (by omega) _⟩

/-- Are two spans the same, part by part? -/
theorem sp_eq (r : Sp) (s : Sp) : @decide _ (r.dq s) = (r.n == s.n && (r.lo == s.lo && r.hi == s.hi)) := by
  obtain ⟨n, lo, hi⟩ := r
  obtain ⟨n', lo', hi'⟩ := s
  rw [Bool.eq_iff_iff]
  simp

set_option maxHeartbeats 1000000 in
theorem within_ok (s t : Sp) (w : World) (h : ckSps s t = 0) :
    Calls Tryz.prog 44 #[sv s, sv t] w fun e w' => e = .returned (.tuple #[.bool (@decide _ ((meetSp s t).dq s)), .int .i64 0]) ∧ Below w.heap.size w w' := by
  have hT := meetF_any s t
  rw [h] at hT
  have e0 : spIf 0 (meetSp s t) = meetSp s t := rfl
  rw [e0] at hT
  rw [sp_eq]
  clear e0 h
  generalize meetSp s t = r at hT ⊢
  obtain ⟨n, lo, hi⟩ := s
  obtain ⟨n', lo', hi'⟩ := t
  obtain ⟨rn, rlo, rhi⟩ := r
  have h0 : Below w.heap.size w ((w.alloc (.cells #[.bool n, .int .i64 lo, .int .i64 hi] 26)).alloc (.cells #[.bool n', .int .i64 lo', .int .i64 hi'] 26)) := by go_grown
  go_enter Tryz.func44, Tryz.ntmps44
  go_wp2_with (go_at_call 90; fail)
  refine (hT _).mono ?_
  rintro e w1 ⟨rfl, hb1⟩
  obtain ⟨c0, c1, c2, d0, d1, d2⟩ := sp_cells2 hb1 (by simp)
  have H1 : Below w.heap.size w w1 := h0.trans (hb1.mono (by simp; omega))
  have z0 : w.heap.size < w1.heap.size := by have := hb1.size; simp at this; omega
  clear hb1 hT
  go_wp2
  all_goals go_ret2
  all_goals exact ⟨ret_t2b (by simp_all), H1.alloc (by omega) _⟩

theorem within_any (s t : Sp) (w : World) :
    Calls Tryz.prog 44 #[sv s, sv t] w fun e w' => e = .returned (.tuple #[.bool (decide (ckSps s t = 0) && @decide _ ((meetSp s t).dq s)), .int .i64 (ckSps s t)]) ∧ Below w.heap.size w w' := by
  by_cases h : ckSps s t = 0
  · have := within_ok s t w h
    rw [h]
    simpa using this
  · have := within_err s t w h
    simpa [h] using this
end Go.Proofs.YtmapdpcfanecdaaGreat

namespace Go.Proofs.YtmapdpcfanecdaaGreat
set_option linter.unusedVariables false
set_option linter.unusedSimpArgs false
open Go.RowKit

set_option maxHeartbeats 4000000 in
set_option maxRecDepth 20000 in
theorem joinSpan_f (lo hi lo' hi' : Int) (w : World) :
    Calls Tryz.prog 48 #[sv ⟨false, lo, hi⟩, sv ⟨false, lo', hi'⟩, .bool false] w fun e w' => e = .returned (sv ⟨false, min lo lo', max hi hi'⟩) ∧ Below w.heap.size w w' := by
  go_enter Tryz.func48, Tryz.ntmps48
  go_wp2
  go_region_held3 (fun w' => w'.cell? ⟨w.heap.size, 1, none⟩ = some (.int .i64 lo) ∧ w'.cell? ⟨w.heap.size, 2, none⟩ = some (.int .i64 hi) ∧ w'.cell? ⟨w.heap.size + 1, 1, none⟩ = some (.int .i64 lo') ∧ w'.cell? ⟨w.heap.size + 1, 2, none⟩ = some (.int .i64 hi')) (simp [go_sem])
    (first
      | (go_at_call 93; refine (least2 _ _ lo lo' _ (by simp [go_sem]) (by simp [go_sem])).mono ?_; rintro e w' ⟨rfl, rfl⟩)
      | (go_at_call 94; refine (most2 _ _ hi hi' _ (by simp [go_sem]) (by simp [go_sem])).mono ?_; rintro e w' ⟨rfl, rfl⟩))
  all_goals go_wp2
  all_goals go_returns
  all_goals exact ⟨rfl, by go_grown⟩
end Go.Proofs.YtmapdpcfanecdaaGreat

namespace Go.Proofs.YtmapdpcfanecdaaGreat
set_option linter.unusedVariables false
set_option linter.unusedSimpArgs false
open Go.RowKit

set_option maxHeartbeats 4000000 in
set_option maxRecDepth 20000 in
theorem joinSpan_w (lo hi lo' hi' : Int) (w : World) :
    Calls Tryz.prog 48 #[sv ⟨false, lo, hi⟩, sv ⟨false, lo', hi'⟩, .bool true] w fun e w' => e = .returned (sv (wideSp ⟨false, lo, hi⟩ ⟨false, lo', hi'⟩)) ∧ Below w.heap.size w w' := by
  go_enter Tryz.func48, Tryz.ntmps48
  go_wp2
  go_region_held3 (fun w' => w'.cell? ⟨w.heap.size, 1, none⟩ = some (.int .i64 lo) ∧ w'.cell? ⟨w.heap.size, 2, none⟩ = some (.int .i64 hi) ∧ w'.cell? ⟨w.heap.size + 1, 1, none⟩ = some (.int .i64 lo') ∧ w'.cell? ⟨w.heap.size + 1, 2, none⟩ = some (.int .i64 hi')) (simp [go_sem])
    (first
      | (go_at_call 93; refine (least2 _ _ lo lo' _ (by simp [go_sem]) (by simp [go_sem])).mono ?_; rintro e w' ⟨rfl, rfl⟩)
      | (go_at_call 94; refine (most2 _ _ hi hi' _ (by simp [go_sem]) (by simp [go_sem])).mono ?_; rintro e w' ⟨rfl, rfl⟩))
  all_goals go_wp2
  all_goals go_returns
  all_goals exact ⟨ret_sp (wide_ff (by split <;> omega) (by split <;> omega)), by go_grown⟩
end Go.Proofs.YtmapdpcfanecdaaGreat

namespace Go.Proofs.YtmapdpcfanecdaaGreat
set_option linter.unusedVariables false
set_option linter.unusedSimpArgs false
open Go.RowKit

theorem joinSpan_any (s t : Sp) (w : World) :
    Calls Tryz.prog 48 #[sv s, sv t, .bool false] w fun e w' => e = .returned (sv (joinSp s t)) ∧ Below w.heap.size w w' := by
  by_cases h : (s.n || t.n) = true
  · exact joinSpan_n s t false w h
  · obtain ⟨n, lo, hi⟩ := s
    obtain ⟨n', lo', hi'⟩ := t
    cases n with
    | true => exact absurd rfl h
    | false =>
      cases n' with
      | true => exact absurd rfl h
      | false => exact joinSpan_f lo hi lo' hi' w

theorem wideSpan_any (s t : Sp) (w : World) :
    Calls Tryz.prog 48 #[sv s, sv t, .bool true] w fun e w' => e = .returned (sv (wideSp s t)) ∧ Below w.heap.size w w' := by
  by_cases h : (s.n || t.n) = true
  · have e0 : wideSp s t = joinSp s t := by
      unfold wideSp joinSp
      obtain ⟨n, lo, hi⟩ := s
      obtain ⟨n', lo', hi'⟩ := t
      cases n with
      | true => rfl
      | false =>
        cases n' with
        | true => rfl
        | false => exact absurd h (by simp)
    rw [e0]
    exact joinSpan_n s t true w h
  · obtain ⟨n, lo, hi⟩ := s
    obtain ⟨n', lo', hi'⟩ := t
    cases n with
    | true => exact absurd rfl h
    | false =>
      cases n' with
      | true => exact absurd rfl h
      | false => exact joinSpan_w lo hi lo' hi' w
end Go.Proofs.YtmapdpcfanecdaaGreat

namespace Go.Proofs.YtmapdpcfanecdaaGreat
set_option linter.unusedVariables false
set_option linter.unusedSimpArgs false
open Go.RowKit

set_option maxHeartbeats 1000000 in
theorem more_any (x : Int) (q : Nat) (h : Gs) (ss : Option Addr) (gc : Nat) (w : World) (hg : GuAt w q 0 h ss gc) (hs : IntsAt w ss h.s) (hl : h.s.length ≤ 9223372036854775807) :
    Calls Tryz.prog 41 #[.int .i64 x, .pointer (some ⟨q, 0, none⟩)] w fun e w' => e = .returned (.bool (!h.s.contains x)) ∧ Below w.heap.size w w' := by
  obtain ⟨⟨g0, g1, g2, g3, g4, g5, g6⟩, gz⟩ := id hg
  simp only [Nat.zero_add] at g6
  go_enter Tryz.func41, Tryz.ntmps41
  go_wp2_with (go_at_call 42; fail)
  refine (containsI_any x ss gc h.s _ hl hs).mono ?_
  rintro e w1 ⟨rfl, rfl⟩
  go_wp2
  go_ret
  exact ⟨ret_bool (by simp), Below.refl _ _⟩

end Go.Proofs.YtmapdpcfanecdaaGreat

namespace Go.Proofs.YtmapdpcfanecdaaGreat
set_option linter.unusedVariables false
set_option linter.unusedSimpArgs false
open Go.RowKit

theorem two_at (w : World) (g : Gs) (ss : Option Addr) (gc : Nat) (h : Gs) (st : Option Addr) (hc : Nat) :
    GuAt ((w.alloc (.cells #[.bool g.n, .bool g.sp.n, .int .i64 g.sp.lo, .int .i64 g.sp.hi, .bool g.t, .bool g.f, .slice ss g.s.length gc] 29)).alloc (.cells #[.bool h.n, .bool h.sp.n, .int .i64 h.sp.lo, .int .i64 h.sp.hi, .bool h.t, .bool h.f, .slice st h.s.length hc] 29)) w.heap.size 0 g ss gc ∧ GuAt ((w.alloc (.cells #[.bool g.n, .bool g.sp.n, .int .i64 g.sp.lo, .int .i64 g.sp.hi, .bool g.t, .bool g.f, .slice ss g.s.length gc] 29)).alloc (.cells #[.bool h.n, .bool h.sp.n, .int .i64 h.sp.lo, .int .i64 h.sp.hi, .bool h.t, .bool h.f, .slice st h.s.length hc] 29)) (w.heap.size + 1) 0 h st hc ∧ Below w.heap.size w ((w.alloc (.cells #[.bool g.n, .bool g.sp.n, .int .i64 g.sp.lo, .int .i64 g.sp.hi, .bool g.t, .bool g.f, .slice ss g.s.length gc] 29)).alloc (.cells #[.bool h.n, .bool h.sp.n, .int .i64 h.sp.lo, .int .i64 h.sp.hi, .bool h.t, .bool h.f, .slice st h.s.length hc] 29)) := by
  refine ⟨(GuAt.new w g ss gc).alloc _, ?_, by go_grown⟩
  have := GuAt.new (w.alloc (.cells #[.bool g.n, .bool g.sp.n, .int .i64 g.sp.lo, .int .i64 g.sp.hi, .bool g.t, .bool g.f, .slice ss g.s.length gc] 29)) h st hc
  rw [World.size_alloc] at this
  exact this

set_option maxHeartbeats 2000000 in
set_option maxRecDepth 10000 in
/-- Two guesses that read alike are the same. -/
theorem sameGuess_any (g : Gs) (ss : Option Addr) (gc : Nat) (st : Option Addr) (hc : Nat) (w : World) (hs : IntsAt w ss g.s) (ht : IntsAt w st g.s) (hgl : g.s.length ≤ maxLen) :
    Calls Tryz.prog 53 #[gv g ss gc, gv g st hc] w fun e w' => e = .returned (.bool true) ∧ Below w.heap.size w w' := by
  obtain ⟨G0, H0, B0⟩ := two_at w g ss gc g st hc
  have I0 := hs.below B0 (Nat.le_refl _)
  have J0 := ht.below B0 (Nat.le_refl _)
  obtain ⟨n, sp, t, f, sl⟩ := g
  go_enter Tryz.func53, Tryz.ntmps53
  go_wp2_with (go_at_call 95; fail)
  refine (sameInts_any ss st gc hc sl _ hgl I0 J0).mono ?_
  rintro e w1 ⟨rfl, hb1⟩
  go_wp2
  go_ret
  exact ⟨rfl, B0.trans (hb1.mono (by simp; omega))⟩
end Go.Proofs.YtmapdpcfanecdaaGreat

namespace Go.Proofs.YtmapdpcfanecdaaGreat
set_option linter.unusedVariables false
set_option linter.unusedSimpArgs false
open Go.RowKit

set_option maxHeartbeats 1000000 in
theorem nothingR_any (w : World) : Calls Tryz.prog 60 #[] w fun e w' => e = .returned (gv noneG none 0) ∧ Below w.heap.size w w' := by
  go_enter Tryz.func60, Tryz.ntmps60
  go_wp2
  refine bodyPost_ret (v := gv noneG none 0) (by simp [results, Tryz.results60, go_sem, noneG]) rfl ⟨rfl, by go_grown⟩

set_option maxHeartbeats 2000000 in
theorem isNothing_any (g : Gs) (ss : Option Addr) (gc : Nat) (w : World) :
    Calls Tryz.prog 61 #[gv g ss gc] w fun e w' => e = .returned (.bool (nothingGs g)) ∧ Below w.heap.size w w' := by
  have HR : Hid (nothingGs g = (g.sp.n && !(g.n || (g.t || (g.f || decide (0 < g.s.length)))))) := rfl
  generalize nothingGs g = r at HR ⊢
  obtain ⟨n, ⟨sn, lo, hi⟩, t, f, s⟩ := g
  cases n
  · cases sn
    · go_enter Tryz.func61, Tryz.ntmps61
      go_wp2
      go_ret
      exact ⟨ret_bool (by rw [HR.out]; simp), by go_grown⟩
    · cases t
      · cases f
        · by_cases h2 : s.length = 0
          · have h2' : ((s.length : Int) == 0) = true := by simp only [beq_iff_eq]; omega
            have h2'' : ¬ ((0 : Int) < (s.length : Int)) := by omega
            go_enter Tryz.func61, Tryz.ntmps61
            go_wp2
            go_ret
            exact ⟨ret_bool (by rw [HR.out]; simp [h2]), by go_grown⟩
          · have h2' : ((s.length : Int) == 0) = false := by simp only [beq_eq_false_iff_ne]; omega
            have h2'' : (0 : Int) < (s.length : Int) := by omega
            go_enter Tryz.func61, Tryz.ntmps61
            go_wp2
            go_ret
            exact ⟨ret_bool (by rw [HR.out]; first | (simp; done) | (simp; omega)), by go_grown⟩
        · go_enter Tryz.func61, Tryz.ntmps61
          go_wp2
          go_ret
          exact ⟨ret_bool (by rw [HR.out]; simp), by go_grown⟩
      · go_enter Tryz.func61, Tryz.ntmps61
        go_wp2
        go_ret
        exact ⟨ret_bool (by rw [HR.out]; simp), by go_grown⟩
  · go_enter Tryz.func61, Tryz.ntmps61
    go_wp2
    go_ret
    exact ⟨ret_bool (by rw [HR.out]; simp), by go_grown⟩

end Go.Proofs.YtmapdpcfanecdaaGreat
