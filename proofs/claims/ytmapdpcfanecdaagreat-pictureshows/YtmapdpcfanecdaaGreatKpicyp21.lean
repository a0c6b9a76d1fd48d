/- Walks over the document's own answers: guesses: Nothing, IsNothing, NoNumber, Single. -/
import Derived.Test.YtmapdpcfanecdaaGreatKpicyp02
import Derived.Test.YtmapdpcfanecdaaGreatKpicyp20
import Derived.Test.YtmapdpcfanecdaaGreatKpicyp01
import Derived.Deep.QuietTactic
import Derived.BigQuiet
import Derived.Test.YtmapdpcfanecdaaGreatKpicyp19
import Derived.Lib.MinMax
import Derived.Deep.AppendLies
import Derived.Deep.RegionHeldLaw
import Derived.Laws.OwnMore
import Derived.Test.YtmapdpcfanecdaaGreatKpicyp11
import Derived.Lib.QuietBelow
namespace Go.Proofs.YtmapdpcfanecdaaGreat
set_option linter.unusedVariables false
set_option linter.unusedSimpArgs false
open Go.RowKit

/-- Two spans that came in, and one that goes out, in memory. -/
abbrev w3 (s t r : Sp) (w : World) : World := ((w.alloc (.cells #[.bool s.n, .int .i64 s.lo, .int .i64 s.hi] 26)).alloc (.cells #[.bool t.n, .int .i64 t.lo, .int .i64 t.hi] 26)).alloc (.cells #[.bool r.n, .int .i64 r.lo, .int .i64 r.hi] 26)

theorem w3_cells {B : Nat} {s t r : Sp} {w w1 : World} (hb : Below B (w3 s t r w) w1) (hB : w.heap.size + 2 < B) : (w1.cell? ⟨w.heap.size, 0, none⟩ = some (.bool s.n) ∧ w1.cell? ⟨w.heap.size, 1, none⟩ = some (.int .i64 s.lo) ∧ w1.cell? ⟨w.heap.size, 2, none⟩ = some (.int .i64 s.hi)) ∧ (w1.cell? ⟨w.heap.size + 1, 0, none⟩ = some (.bool t.n) ∧ w1.cell? ⟨w.heap.size + 1, 1, none⟩ = some (.int .i64 t.lo) ∧ w1.cell? ⟨w.heap.size + 1, 2, none⟩ = some (.int .i64 t.hi)) ∧ (w1.cell? ⟨w.heap.size + 1 + 1, 0, none⟩ = some (.bool r.n) ∧ w1.cell? ⟨w.heap.size + 1 + 1, 1, none⟩ = some (.int .i64 r.lo) ∧ w1.cell? ⟨w.heap.size + 1 + 1, 2, none⟩ = some (.int .i64 r.hi)) ∧ (w1.frozen? ⟨w.heap.size + 1 + 1, 0, none⟩ = false ∧ w1.frozen? ⟨w.heap.size + 1 + 1, 1, none⟩ = false ∧ w1.frozen? ⟨w.heap.size + 1 + 1, 2, none⟩ = false) ∧ (w.heap.size < w1.heap.size ∧ w.heap.size + 1 < w1.heap.size ∧ w.heap.size + 1 + 1 < w1.heap.size) := by
  have hs := hb.size
  rw [hb.cell (by simp; omega), hb.cell (by simp; omega), hb.cell (by simp; omega), hb.cell (by simp; omega), hb.cell (by simp; omega), hb.cell (by simp; omega), hb.cell (by simp; omega), hb.cell (by simp; omega), hb.cell (by simp; omega), hb.frozen (by simp; omega), hb.frozen (by simp; omega), hb.frozen (by simp; omega)]
  simp [go_sem] at hs ⊢
  omega

theorem w3_below (s t r : Sp) (w : World) : Below w.heap.size w (w3 s t r w) := by go_grown

theorem join_ff {lo hi lo' hi' a b : Int} (ha : a = min lo lo') (hb : b = max hi hi') : joinSp ⟨false, lo, hi⟩ ⟨false, lo', hi'⟩ = ⟨false, a, b⟩ := by
  subst ha hb
  rfl

set_option maxHeartbeats 1000000 in
theorem widen_any (s t : Sp) (w : World) :
    Calls Tryz.prog 86 #[sv s, sv t] w fun e w' => e = .returned (sv (wideSp s t)) ∧ Below w.heap.size w w' := by
  obtain ⟨n, lo, hi⟩ := s
  obtain ⟨n', lo', hi'⟩ := t
  go_enter Tryz.func86, Tryz.ntmps86
  go_wp2_with (go_at_call 85; fail)
  refine (join_any ⟨n, lo, hi⟩ ⟨n', lo', hi'⟩ _).mono ?_
  rintro e w1 ⟨rfl, hb1⟩
  obtain ⟨⟨c0, c1, c2⟩, ⟨d0, d1, d2⟩, ⟨r0, r1, r2⟩, ⟨f0, f1, f2⟩, z0, z1, z2⟩ := w3_cells (s := ⟨n, lo, hi⟩) (t := ⟨n', lo', hi'⟩) (r := zeroSp) hb1 (by simp)
  have H1 : Below w.heap.size w w1 := (w3_below ⟨n, lo, hi⟩ ⟨n', lo', hi'⟩ zeroSp w).trans (hb1.mono (by simp; omega))
  clear hb1
  simp only [zeroSp] at r0 r1 r2
  cases n with
  | true =>
    have e0 : joinSp ⟨true, lo, hi⟩ ⟨n', lo', hi'⟩ = ⟨n', lo', hi'⟩ := rfl
    rw [e0]
    go_wp2
    refine bodyPost_ret (v := sv ⟨n', lo', hi'⟩) (by simp [results, Tryz.results86, go_sem, r0, r1, r2, z2]) rfl ⟨rfl, ?_⟩
    exact (((H1.setCell (by simp; omega) _).setCell (by simp; omega) _).setCell (by simp; omega) _).alloc (by simp; omega) _
  | false =>
    cases n' with
    | true =>
      have e0 : joinSp ⟨false, lo, hi⟩ ⟨true, lo', hi'⟩ = ⟨false, lo, hi⟩ := rfl
      rw [e0]
      go_wp2
      refine bodyPost_ret (v := sv ⟨false, lo, hi⟩) (by simp [results, Tryz.results86, go_sem, r0, r1, r2, z2]) rfl ⟨rfl, ?_⟩
      exact (((H1.setCell (by simp; omega) _).setCell (by simp; omega) _).setCell (by simp; omega) _).alloc (by simp; omega) _
    | false =>
    rcases Int.lt_or_le lo' lo with h1 | h1 <;> rcases Int.lt_or_le hi hi' with h2 | h2
    · have e0 : joinSp ⟨false, lo, hi⟩ ⟨false, lo', hi'⟩ = ⟨false, lo', hi'⟩ := join_ff (by omega) (by omega)
      rw [e0]
      go_wp2
      refine bodyPost_ret (v := sv ⟨false, -2147483648, 2147483647⟩) (by simp [results, Tryz.results86, go_sem, r0, r1, r2, z2]) rfl ⟨?_, ?_⟩
      · exact ret_sp (by simp [wideSp] <;> omega)
      · exact (((H1.setCell (by simp; omega) _).setCell (by simp; omega) _).setCell (by simp; omega) _).alloc (by simp; omega) _
    · have e0 : joinSp ⟨false, lo, hi⟩ ⟨false, lo', hi'⟩ = ⟨false, lo', hi⟩ := join_ff (by omega) (by omega)
      rw [e0]
      go_wp2
      refine bodyPost_ret (v := sv ⟨false, -2147483648, hi⟩) (by simp [results, Tryz.results86, go_sem, r0, r1, r2, z2]) rfl ⟨?_, ?_⟩
      · exact ret_sp (by simp [wideSp] <;> omega)
      · exact (((H1.setCell (by simp; omega) _).setCell (by simp; omega) _).setCell (by simp; omega) _).alloc (by simp; omega) _
    · have e0 : joinSp ⟨false, lo, hi⟩ ⟨false, lo', hi'⟩ = ⟨false, lo, hi'⟩ := join_ff (by omega) (by omega)
      rw [e0]
      go_wp2
      refine bodyPost_ret (v := sv ⟨false, lo, 2147483647⟩) (by simp [results, Tryz.results86, go_sem, r0, r1, r2, z2]) rfl ⟨?_, ?_⟩
      · exact ret_sp (by simp [wideSp] <;> omega)
      · exact (((H1.setCell (by simp; omega) _).setCell (by simp; omega) _).setCell (by simp; omega) _).alloc (by simp; omega) _
    · have e0 : joinSp ⟨false, lo, hi⟩ ⟨false, lo', hi'⟩ = ⟨false, lo, hi⟩ := join_ff (by omega) (by omega)
      rw [e0]
      go_wp2
      refine bodyPost_ret (v := sv ⟨false, lo, hi⟩) (by simp [results, Tryz.results86, go_sem, r0, r1, r2, z2]) rfl ⟨?_, ?_⟩
      · exact ret_sp (by simp [wideSp] <;> omega)
      · exact (((H1.setCell (by simp; omega) _).setCell (by simp; omega) _).setCell (by simp; omega) _).alloc (by simp; omega) _

set_option maxHeartbeats 1000000 in
theorem together_err (F : Nat) (s t : Sp) (w : World) (h : ckSps s t ≠ 0) :
    Calls Tryz.prog 84 #[sv s, sv t, .func (.func F) #[] #[]] w fun e w' => e = .returned (.tuple #[sv zeroSp, .int .i64 (ckSps s t)]) ∧ Below w.heap.size w w' := by
  obtain ⟨n, lo, hi⟩ := s
  obtain ⟨n', lo', hi'⟩ := t
  go_enter Tryz.func84, Tryz.ntmps84
  go_wp2_with (go_at_call 96; fail)
  refine (checkBoth_any ⟨n, lo, hi⟩ ⟨n', lo', hi'⟩ _).mono ?_
  rintro e w1 ⟨rfl, hb1⟩
  obtain ⟨⟨c0, c1, c2⟩, ⟨d0, d1, d2⟩, ⟨r0, r1, r2⟩, ⟨f0, f1, f2⟩, z0, z1, z2⟩ := w3_cells (s := ⟨n, lo, hi⟩) (t := ⟨n', lo', hi'⟩) (r := zeroSp) hb1 (by simp)
  have H1 : Below w.heap.size w w1 := (w3_below ⟨n, lo, hi⟩ ⟨n', lo', hi'⟩ zeroSp w).trans (hb1.mono (by simp; omega))
  clear hb1
  simp only [zeroSp] at r0 r1 r2
  go_wp2
  refine bodyPost_ret (v := .tuple #[sv zeroSp, .int .i64 (ckSps ⟨n, lo, hi⟩ ⟨n', lo', hi'⟩)]) (by simp [results, Tryz.results84, go_sem, r0, r1, r2, zeroSp]) rfl ⟨rfl, ?_⟩
  exact ((H1.setCell (by simp; omega) _).setCell (by simp; omega) _).setCell (by simp; omega) _

set_option maxHeartbeats 1000000 in
theorem together_join (s t : Sp) (w : World) (h : ckSps s t = 0) :
    Calls Tryz.prog 84 #[sv s, sv t, .func (.func 85) #[] #[]] w fun e w' => e = .returned (.tuple #[sv (joinSp s t), .int .i64 0]) ∧ Below w.heap.size w w' := by
  obtain ⟨n, lo, hi⟩ := s
  obtain ⟨n', lo', hi'⟩ := t
  go_enter Tryz.func84, Tryz.ntmps84
  go_wp2_with (go_at_call 96; fail)
  refine (checkBoth_any ⟨n, lo, hi⟩ ⟨n', lo', hi'⟩ _).mono ?_
  rintro e w1 ⟨rfl, hb1⟩
  obtain ⟨⟨c0, c1, c2⟩, ⟨d0, d1, d2⟩, ⟨r0, r1, r2⟩, ⟨f0, f1, f2⟩, z0, z1, z2⟩ := w3_cells (s := ⟨n, lo, hi⟩) (t := ⟨n', lo', hi'⟩) (r := zeroSp) hb1 (by simp)
  have H1 : Below w.heap.size w w1 := (w3_below ⟨n, lo, hi⟩ ⟨n', lo', hi'⟩ zeroSp w).trans (hb1.mono (by simp; omega))
  rw [h]
  simp only [zeroSp] at r0 r1 r2
  clear hb1
  go_wp2_with (go_at_call 85; fail)
  refine (join_any ⟨n, lo, hi⟩ ⟨n', lo', hi'⟩ _).mono ?_
  rintro e w2 ⟨rfl, hb2⟩
  have g0 := r0; have g1 := r1; have g2 := r2; have k0 := f0; have k1 := f1; have k2 := f2
  rw [← hb2.cell z2] at g0 g1 g2
  rw [← hb2.frozen z2] at k0 k1 k2
  have H2 : Below w.heap.size w w2 := H1.trans (hb2.mono (by omega))
  clear r0 r1 r2 f0 f1 f2 hb2 c0 c1 c2 d0 d1 d2
  generalize hr : joinSp ⟨n, lo, hi⟩ ⟨n', lo', hi'⟩ = r
  obtain ⟨rn, rlo, rhi⟩ := r
  go_wp2
  refine bodyPost_ret (v := .tuple #[sv ⟨rn, rlo, rhi⟩, .int .i64 0]) (by simp [results, Tryz.results84, go_sem, g0, g1, g2]) rfl ⟨by rw [hr], ?_⟩
  exact ((H2.setCell (by simp; omega) _).setCell (by simp; omega) _).setCell (by simp; omega) _

set_option maxHeartbeats 1000000 in
theorem together_widen (s t : Sp) (w : World) (h : ckSps s t = 0) :
    Calls Tryz.prog 84 #[sv s, sv t, .func (.func 86) #[] #[]] w fun e w' => e = .returned (.tuple #[sv (wideSp s t), .int .i64 0]) ∧ Below w.heap.size w w' := by
  obtain ⟨n, lo, hi⟩ := s
  obtain ⟨n', lo', hi'⟩ := t
  go_enter Tryz.func84, Tryz.ntmps84
  go_wp2_with (go_at_call 96; fail)
  refine (checkBoth_any ⟨n, lo, hi⟩ ⟨n', lo', hi'⟩ _).mono ?_
  rintro e w1 ⟨rfl, hb1⟩
  obtain ⟨⟨c0, c1, c2⟩, ⟨d0, d1, d2⟩, ⟨r0, r1, r2⟩, ⟨f0, f1, f2⟩, z0, z1, z2⟩ := w3_cells (s := ⟨n, lo, hi⟩) (t := ⟨n', lo', hi'⟩) (r := zeroSp) hb1 (by simp)
  have H1 : Below w.heap.size w w1 := (w3_below ⟨n, lo, hi⟩ ⟨n', lo', hi'⟩ zeroSp w).trans (hb1.mono (by simp; omega))
  rw [h]
  simp only [zeroSp] at r0 r1 r2
  clear hb1
  go_wp2_with (go_at_call 86; fail)
  refine (widen_any ⟨n, lo, hi⟩ ⟨n', lo', hi'⟩ _).mono ?_
  rintro e w2 ⟨rfl, hb2⟩
  have g0 := r0; have g1 := r1; have g2 := r2; have k0 := f0; have k1 := f1; have k2 := f2
  rw [← hb2.cell z2] at g0 g1 g2
  rw [← hb2.frozen z2] at k0 k1 k2
  have H2 : Below w.heap.size w w2 := H1.trans (hb2.mono (by omega))
  clear r0 r1 r2 f0 f1 f2 hb2 c0 c1 c2 d0 d1 d2
  generalize hr : wideSp ⟨n, lo, hi⟩ ⟨n', lo', hi'⟩ = r
  obtain ⟨rn, rlo, rhi⟩ := r
  go_wp2
  refine bodyPost_ret (v := .tuple #[sv ⟨rn, rlo, rhi⟩, .int .i64 0]) (by simp [results, Tryz.results84, go_sem, g0, g1, g2]) rfl ⟨by rw [hr], ?_⟩
  exact ((H2.setCell (by simp; omega) _).setCell (by simp; omega) _).setCell (by simp; omega) _

end Go.Proofs.YtmapdpcfanecdaaGreat

namespace Go.Proofs.YtmapdpcfanecdaaGreat
set_option linter.unusedVariables false
set_option linter.unusedSimpArgs false
open Go.RowKit

/-- What comes beside an errno. -/
abbrev spIf (e : Int) (r : Sp) : Sp := if e = 0 then r else zeroSp

theorem tog_join (s t : Sp) (w : World) :
    Calls Tryz.prog 84 #[sv s, sv t, .func (.func 85) #[] #[]] w fun e w' => e = .returned (.tuple #[sv (spIf (ckSps s t) (joinSp s t)), .int .i64 (ckSps s t)]) ∧ Below w.heap.size w w' := by
  by_cases h : ckSps s t = 0
  · rw [h]; exact together_join s t w h
  · unfold spIf; rw [if_neg h]; exact together_err _ s t w h

set_option maxHeartbeats 1000000 in
theorem joinF_any (s t : Sp) (w : World) :
    Calls Tryz.prog 38 #[sv s, sv t] w fun e w' => e = .returned (.tuple #[sv (spIf (ckSps s t) (joinSp s t)), .int .i64 (ckSps s t)]) ∧ Below w.heap.size w w' := by
  have hT := tog_join s t
  generalize spIf (ckSps s t) (joinSp s t) = r at hT ⊢
  generalize ckSps s t = c at hT ⊢
  obtain ⟨n, lo, hi⟩ := s
  obtain ⟨n', lo', hi'⟩ := t
  obtain ⟨rn, rlo, rhi⟩ := r
  go_enter Tryz.func38, Tryz.ntmps38
  go_wp2_with (go_at_call 84; fail)
  refine (hT _).mono ?_
  rintro e w1 ⟨rfl, hb1⟩
  obtain ⟨-, -, ⟨r0, r1, r2⟩, ⟨f0, f1, f2⟩, z0, z1, z2⟩ := w3_cells (s := ⟨n, lo, hi⟩) (t := ⟨n', lo', hi'⟩) (r := zeroSp) hb1 (by simp)
  have H1 : Below w.heap.size w w1 := (w3_below ⟨n, lo, hi⟩ ⟨n', lo', hi'⟩ zeroSp w).trans (hb1.mono (by simp; omega))
  simp only [zeroSp] at r0 r1 r2
  clear hb1 hT
  go_wp2
  refine bodyPost_ret (v := .tuple #[sv ⟨rn, rlo, rhi⟩, .int .i64 c]) (by simp [results, Tryz.results38, go_sem, r0, r1, r2]) rfl ⟨rfl, ?_⟩
  exact ((H1.setCell (by simp; omega) _).setCell (by simp; omega) _).setCell (by simp; omega) _

theorem tog_widen (s t : Sp) (w : World) :
    Calls Tryz.prog 84 #[sv s, sv t, .func (.func 86) #[] #[]] w fun e w' => e = .returned (.tuple #[sv (spIf (ckSps s t) (wideSp s t)), .int .i64 (ckSps s t)]) ∧ Below w.heap.size w w' := by
  by_cases h : ckSps s t = 0
  · rw [h]; exact together_widen s t w h
  · unfold spIf; rw [if_neg h]; exact together_err _ s t w h

set_option maxHeartbeats 1000000 in
theorem widenF_any (s t : Sp) (w : World) :
    Calls Tryz.prog 39 #[sv s, sv t] w fun e w' => e = .returned (.tuple #[sv (spIf (ckSps s t) (wideSp s t)), .int .i64 (ckSps s t)]) ∧ Below w.heap.size w w' := by
  have hT := tog_widen s t
  generalize spIf (ckSps s t) (wideSp s t) = r at hT ⊢
  generalize ckSps s t = c at hT ⊢
  obtain ⟨n, lo, hi⟩ := s
  obtain ⟨n', lo', hi'⟩ := t
  obtain ⟨rn, rlo, rhi⟩ := r
  go_enter Tryz.func39, Tryz.ntmps39
  go_wp2_with (go_at_call 84; fail)
  refine (hT _).mono ?_
  rintro e w1 ⟨rfl, hb1⟩
  obtain ⟨-, -, ⟨r0, r1, r2⟩, ⟨f0, f1, f2⟩, z0, z1, z2⟩ := w3_cells (s := ⟨n, lo, hi⟩) (t := ⟨n', lo', hi'⟩) (r := zeroSp) hb1 (by simp)
  have H1 : Below w.heap.size w w1 := (w3_below ⟨n, lo, hi⟩ ⟨n', lo', hi'⟩ zeroSp w).trans (hb1.mono (by simp; omega))
  simp only [zeroSp] at r0 r1 r2
  clear hb1 hT
  go_wp2
  refine bodyPost_ret (v := .tuple #[sv ⟨rn, rlo, rhi⟩, .int .i64 c]) (by simp [results, Tryz.results39, go_sem, r0, r1, r2]) rfl ⟨rfl, ?_⟩
  exact ((H1.setCell (by simp; omega) _).setCell (by simp; omega) _).setCell (by simp; omega) _

end Go.Proofs.YtmapdpcfanecdaaGreat

namespace Go.Proofs.YtmapdpcfanecdaaGreat
set_option linter.unusedVariables false
set_option linter.unusedSimpArgs false
open Go.RowKit

set_option maxHeartbeats 1000000 in
theorem heldOf_null (g : Gs) (ss : Option Addr) (gc : Nat) (vn site : Int) (w : World) (hs : IntsAt w ss g.s) (hgl : g.s.length ≤ 9223372036854775807) :
    Calls Tryz.prog 15 #[gv g ss gc, .agg #[.int .i64 0, .int .i64 vn], .int .i64 site] w fun e w' => e = .returned (.bool (g.n)) ∧ Below w.heap.size w w' := by
  go_enter Tryz.func15, Tryz.ntmps15
  go_wp2
  go_ret
  exact ⟨rfl, by go_grown⟩
set_option maxHeartbeats 1000000 in
theorem heldOf_num (g : Gs) (ss : Option Addr) (gc : Nat) (vn site : Int) (w : World) (hs : IntsAt w ss g.s) (hgl : g.s.length ≤ 9223372036854775807) :
    Calls Tryz.prog 15 #[gv g ss gc, .agg #[.int .i64 1, .int .i64 vn], .int .i64 site] w fun e w' => e = .returned (.bool (g.sp.has vn)) ∧ Below w.heap.size w w' := by
  have HI := hideH (fun w => inSpan_any g.sp vn w)
  generalize g.sp.has vn = r at *
  go_enter Tryz.func15, Tryz.ntmps15
  go_wp2_with (go_at_call 51; fail)
  refine (HI.out _).mono ?_
  rintro e w1 ⟨rfl, hb1⟩
  go_wp2
  go_ret
  exact ⟨rfl, (Below.trans (by go_grown) (hb1.mono (by simp; omega)))⟩
set_option maxHeartbeats 1000000 in
theorem heldOf_thing (g : Gs) (ss : Option Addr) (gc : Nat) (vn site : Int) (w : World) (hs : IntsAt w ss g.s) (hgl : g.s.length ≤ 9223372036854775807) :
    Calls Tryz.prog 15 #[gv g ss gc, .agg #[.int .i64 3, .int .i64 vn], .int .i64 site] w fun e w' => e = .returned (.bool (g.s.contains site)) ∧ Below w.heap.size w w' := by
  have I0 := (hs.alloc (.cells #[.bool g.n, .bool g.sp.n, .int .i64 g.sp.lo, .int .i64 g.sp.hi, .bool g.t, .bool g.f, .slice ss g.s.length gc] 29)).alloc (.cells #[.int .i64 3, .int .i64 vn] 31)
  go_enter Tryz.func15, Tryz.ntmps15
  go_wp2_with (go_at_call 49; fail)
  refine (hasR_any site ss gc g.s _ hgl I0).mono ?_
  rintro e w1 ⟨rfl, rfl⟩
  go_wp2
  go_ret
  exact ⟨ret_bool (by simp), by go_grown⟩
set_option maxHeartbeats 1000000 in
theorem heldOf_truth (g : Gs) (ss : Option Addr) (gc : Nat) (vn site : Int) (w : World) (hs : IntsAt w ss g.s) (hgl : g.s.length ≤ 9223372036854775807) :
    Calls Tryz.prog 15 #[gv g ss gc, .agg #[.int .i64 2, .int .i64 vn], .int .i64 site] w fun e w' => e = .returned (.bool ((g.t && decide (vn = 1)) || (g.f && decide (vn = 0)))) ∧ Below w.heap.size w w' := by
  obtain ⟨n, sp, t, f, sl⟩ := g
  have HR : Hid (∀ r, r = ((t && decide (vn = 1)) || (f && decide (vn = 0))) → ((t && decide (vn = 1)) || (f && decide (vn = 0))) = r) := fun r h => h.symm
  generalize hr : ((t && decide (vn = 1)) || (f && decide (vn = 0))) = res
  have H2 := hideH hr
  clear hr HR
  by_cases h1 : vn = 1
  · subst h1
    go_enter Tryz.func15, Tryz.ntmps15
    go_wp2
    go_ret
    exact ⟨ret_bool (by rw [← H2.out]; simp), by go_grown⟩
  have e1 : (vn == 1) = false := by simpa using h1
  by_cases h0 : vn = 0
  · subst h0
    go_enter Tryz.func15, Tryz.ntmps15
    go_wp2
    go_ret
    exact ⟨ret_bool (by rw [← H2.out]; simp), by go_grown⟩
  have e0 : (vn == 0) = false := by simpa using h0
  go_enter Tryz.func15, Tryz.ntmps15
  go_wp2
  go_ret
  exact ⟨ret_bool (by rw [← H2.out]; simp [h0, h1]), by go_grown⟩
end Go.Proofs.YtmapdpcfanecdaaGreat

namespace Go.Proofs.YtmapdpcfanecdaaGreat
set_option linter.unusedVariables false
set_option linter.unusedSimpArgs false
open Go.RowKit

set_option maxHeartbeats 2000000 in
theorem isNothing_any (g : Gs) (ss : Option Addr) (gc : Nat) (w : World) :
    Calls Tryz.prog 61 #[gv g ss gc] w fun e w' => e = .returned (.bool (nothingGs g)) ∧ Below w.heap.size w w' := by
  have HR : Hid (nothingGs g = (g.sp.n && !(g.n || (g.t || (g.f || decide (0 < g.s.length)))))) := rfl
  generalize nothingGs g = r at HR ⊢
  obtain ⟨n, ⟨sn, lo, hi⟩, t, f, s⟩ := g
  cases n
  · cases sn
    · go_enter Tryz.func61, Tryz.ntmps61
      go_wp2
      go_ret
      exact ⟨ret_bool (by rw [HR.out]; simp), by go_grown⟩
    · cases t
      · cases f
        · by_cases h2 : s.length = 0
          · have h2' : ((s.length : Int) == 0) = true := by simp only [beq_iff_eq]; omega
            have h2'' : ¬ ((0 : Int) < (s.length : Int)) := by omega
            go_enter Tryz.func61, Tryz.ntmps61
            go_wp2
            go_ret
            exact ⟨ret_bool (by rw [HR.out]; simp [h2]), by go_grown⟩
          · have h2' : ((s.length : Int) == 0) = false := by simp only [beq_eq_false_iff_ne]; omega
            have h2'' : (0 : Int) < (s.length : Int) := by omega
            go_enter Tryz.func61, Tryz.ntmps61
            go_wp2
            go_ret
            exact ⟨ret_bool (by rw [HR.out]; first | (simp; done) | (simp; omega)), by go_grown⟩
        · go_enter Tryz.func61, Tryz.ntmps61
          go_wp2
          go_ret
          exact ⟨ret_bool (by rw [HR.out]; simp), by go_grown⟩
      · go_enter Tryz.func61, Tryz.ntmps61
        go_wp2
        go_ret
        exact ⟨ret_bool (by rw [HR.out]; simp), by go_grown⟩
  · go_enter Tryz.func61, Tryz.ntmps61
    go_wp2
    go_ret
    exact ⟨ret_bool (by rw [HR.out]; simp), by go_grown⟩

end Go.Proofs.YtmapdpcfanecdaaGreat
