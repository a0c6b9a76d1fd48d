/- Walks over package span: Do. -/
import Derived.Test.YtmapdpcfanecdaaSpEadd
import Derived.Test.YtmapdpcfanecdaaSpEsub
import Derived.Test.YtmapdpcfanecdaaSpEmul
namespace Go.Proofs.Ytmapdpcfanecdaa
set_option linter.unusedVariables false
set_option linter.unusedSimpArgs false
open Go.RowKit

theorem wrap_small {x : Int} (h1 : -9223372036854775808 ≤ x) (h2 : x < 9223372036854775808) : wrap64 x = x := by unfold wrap64; omega

theorem mul_small {a b : Int} (ha : inNum a) (hb : inNum b) : -4611686018427387904 ≤ a * b ∧ a * b ≤ 4611686018427387904 := by
  have h1 : a.natAbs ≤ 2147483648 := by unfold inNum at ha; omega
  have h2 : b.natAbs ≤ 2147483648 := by unfold inNum at hb; omega
  have h3 : (a * b).natAbs ≤ 4611686018427387904 := by rw [Int.natAbs_mul]; exact Nat.mul_le_mul h1 h2
  omega

theorem wrap_add {a b : Int} (ha : inNum a) (hb : inNum b) : wrap64 (a + b) = a + b := by
  unfold inNum at ha hb
  exact wrap_small (by omega) (by omega)
theorem wrap_sub {a b : Int} (ha : inNum a) (hb : inNum b) : wrap64 (a - b) = a - b := by
  unfold inNum at ha hb
  exact wrap_small (by omega) (by omega)
theorem wrap_mul {a b : Int} (ha : inNum a) (hb : inNum b) : wrap64 (a * b) = a * b := by
  have := mul_small ha hb
  exact wrap_small (by omega) (by omega)

theorem rec_add (s t : Sp) (w : World) (hs : s.Ok) (ht : t.Ok) :
    Calls Try.prog 33 #[sv s, sv t, .func (.func 34) #[] #[]] w fun e w' => e = .returned (sv (doSp 5 s t)) ∧ Below w.heap.size w w' := by
  by_cases h : (s.n || t.n) = true
  · have := reckon_none 34 s t w h
    unfold doSp
    rw [if_pos h]
    exact this
  · have e0 : doSp 5 s t = hull (s.lo + t.lo) (s.lo + t.hi) (s.hi + t.lo) (s.hi + t.hi) := by unfold doSp; rw [if_neg h]; rfl
    rw [e0]
    obtain ⟨n, lo, hi⟩ := s
    obtain ⟨n', lo', hi'⟩ := t
    cases n with
    | true => exact absurd rfl h
    | false =>
      cases n' with
      | true => exact absurd rfl h
      | false => exact reckon_add lo hi lo' hi' w (wrap_add hs.1 ht.1) (wrap_add hs.1 ht.2.1) (wrap_add hs.2.1 ht.1) (wrap_add hs.2.1 ht.2.1)

theorem rec_sub (s t : Sp) (w : World) (hs : s.Ok) (ht : t.Ok) :
    Calls Try.prog 33 #[sv s, sv t, .func (.func 35) #[] #[]] w fun e w' => e = .returned (sv (doSp 6 s t)) ∧ Below w.heap.size w w' := by
  by_cases h : (s.n || t.n) = true
  · have := reckon_none 35 s t w h
    unfold doSp
    rw [if_pos h]
    exact this
  · have e0 : doSp 6 s t = hull (s.lo - t.lo) (s.lo - t.hi) (s.hi - t.lo) (s.hi - t.hi) := by unfold doSp; rw [if_neg h]; rfl
    rw [e0]
    obtain ⟨n, lo, hi⟩ := s
    obtain ⟨n', lo', hi'⟩ := t
    cases n with
    | true => exact absurd rfl h
    | false =>
      cases n' with
      | true => exact absurd rfl h
      | false => exact reckon_sub lo hi lo' hi' w (wrap_sub hs.1 ht.1) (wrap_sub hs.1 ht.2.1) (wrap_sub hs.2.1 ht.1) (wrap_sub hs.2.1 ht.2.1)

theorem rec_mul (s t : Sp) (w : World) (hs : s.Ok) (ht : t.Ok) :
    Calls Try.prog 33 #[sv s, sv t, .func (.func 36) #[] #[]] w fun e w' => e = .returned (sv (doSp 7 s t)) ∧ Below w.heap.size w w' := by
  by_cases h : (s.n || t.n) = true
  · have := reckon_none 36 s t w h
    unfold doSp
    rw [if_pos h]
    exact this
  · have e0 : doSp 7 s t = hull (s.lo * t.lo) (s.lo * t.hi) (s.hi * t.lo) (s.hi * t.hi) := by unfold doSp; rw [if_neg h]; rfl
    rw [e0]
    obtain ⟨n, lo, hi⟩ := s
    obtain ⟨n', lo', hi'⟩ := t
    cases n with
    | true => exact absurd rfl h
    | false =>
      cases n' with
      | true => exact absurd rfl h
      | false => exact reckon_mul lo hi lo' hi' w (wrap_mul hs.1 ht.1) (wrap_mul hs.1 ht.2.1) (wrap_mul hs.2.1 ht.1) (wrap_mul hs.2.1 ht.2.1)

set_option maxHeartbeats 1000000 in
theorem do_err (k : Int) (s t : Sp) (w : World) (h : ckSps s t ≠ 0) :
    Calls Try.prog 11 #[.int .i64 k, sv s, sv t] w fun e w' => e = .returned (.tuple #[sv zeroSp, .int .i64 (ckSps s t)]) ∧ Below w.heap.size w w' := by
  obtain ⟨n, lo, hi⟩ := s
  obtain ⟨n', lo', hi'⟩ := t
  go_enter Try.func11, Try.ntmps11
  go_wp2_with (go_at_call 32; fail)
  refine (checkBoth_any ⟨n, lo, hi⟩ ⟨n', lo', hi'⟩ _).mono ?_
  rintro e w1 ⟨rfl, hb1⟩
  obtain ⟨⟨c0, c1, c2⟩, ⟨d0, d1, d2⟩, ⟨r0, r1, r2⟩, ⟨f0, f1, f2⟩, z0, z1, z2⟩ := w3_cells (s := ⟨n, lo, hi⟩) (t := ⟨n', lo', hi'⟩) (r := zeroSp) hb1 (by simp)
  have H1 : Below w.heap.size w w1 := (w3_below ⟨n, lo, hi⟩ ⟨n', lo', hi'⟩ zeroSp w).trans (hb1.mono (by simp; omega))
  simp only [zeroSp] at r0 r1 r2
  clear hb1
  go_wp2
  refine bodyPost_ret (v := .tuple #[sv zeroSp, .int .i64 (ckSps ⟨n, lo, hi⟩ ⟨n', lo', hi'⟩)]) (by simp [results, Try.results11, go_sem, r0, r1, r2, zeroSp]) rfl ⟨rfl, ?_⟩
  exact ((H1.setCell (by simp; omega) _).setCell (by simp; omega) _).setCell (by simp; omega) _

set_option maxHeartbeats 1000000 in
theorem do_kind (k : Int) (s t : Sp) (w : World) (h : ckSps s t = 0) (h5 : (k == 5) = false) (h6 : (k == 6) = false) (h7 : (k == 7) = false) :
    Calls Try.prog 11 #[.int .i64 k, sv s, sv t] w fun e w' => e = .returned (.tuple #[sv zeroSp, .int .i64 6]) ∧ Below w.heap.size w w' := by
  obtain ⟨n, lo, hi⟩ := s
  obtain ⟨n', lo', hi'⟩ := t
  go_enter Try.func11, Try.ntmps11
  go_wp2_with (go_at_call 32; fail)
  refine (checkBoth_any ⟨n, lo, hi⟩ ⟨n', lo', hi'⟩ _).mono ?_
  rintro e w1 ⟨rfl, hb1⟩
  obtain ⟨⟨c0, c1, c2⟩, ⟨d0, d1, d2⟩, ⟨r0, r1, r2⟩, ⟨f0, f1, f2⟩, z0, z1, z2⟩ := w3_cells (s := ⟨n, lo, hi⟩) (t := ⟨n', lo', hi'⟩) (r := zeroSp) hb1 (by simp)
  have H1 : Below w.heap.size w w1 := (w3_below ⟨n, lo, hi⟩ ⟨n', lo', hi'⟩ zeroSp w).trans (hb1.mono (by simp; omega))
  simp only [zeroSp] at r0 r1 r2
  clear hb1
  rw [h]
  go_wp2
  refine bodyPost_ret (v := .tuple #[sv zeroSp, .int .i64 6]) (by simp [results, Try.results11, go_sem, r0, r1, r2, zeroSp]) rfl ⟨rfl, ?_⟩
  exact ((H1.setCell (by simp; omega) _).setCell (by simp; omega) _).setCell (by simp; omega) _

set_option maxHeartbeats 1000000 in
theorem do_add (s t : Sp) (w : World) (h : ckSps s t = 0) :
    Calls Try.prog 11 #[.int .i64 5, sv s, sv t] w fun e w' => e = .returned (.tuple #[sv (doSp 5 s t), .int .i64 0]) ∧ Below w.heap.size w w' := by
  obtain ⟨hs, ht⟩ := ckSps_ok.1 h
  have hR := fun w => rec_add s t w hs ht
  generalize doSp 5 s t = r at hR ⊢
  clear hs ht
  obtain ⟨n, lo, hi⟩ := s
  obtain ⟨n', lo', hi'⟩ := t
  obtain ⟨rn, rlo, rhi⟩ := r
  go_enter Try.func11, Try.ntmps11
  go_wp2_with (go_at_call 32; fail)
  refine (checkBoth_any ⟨n, lo, hi⟩ ⟨n', lo', hi'⟩ _).mono ?_
  rintro e w1 ⟨rfl, hb1⟩
  obtain ⟨⟨c0, c1, c2⟩, ⟨d0, d1, d2⟩, ⟨r0, r1, r2⟩, ⟨f0, f1, f2⟩, z0, z1, z2⟩ := w3_cells (s := ⟨n, lo, hi⟩) (t := ⟨n', lo', hi'⟩) (r := zeroSp) hb1 (by simp)
  have H1 : Below w.heap.size w w1 := (w3_below ⟨n, lo, hi⟩ ⟨n', lo', hi'⟩ zeroSp w).trans (hb1.mono (by simp; omega))
  simp only [zeroSp] at r0 r1 r2
  clear hb1
  rw [h]
  go_wp2_with (go_at_call 33; fail)
  refine (hR _).mono ?_
  rintro e w2 ⟨rfl, hb2⟩
  have g0 := r0; have g1 := r1; have g2 := r2; have k0 := f0; have k1 := f1; have k2 := f2
  rw [← hb2.cell z2] at g0 g1 g2
  rw [← hb2.frozen z2] at k0 k1 k2
  have H2 : Below w.heap.size w w2 := H1.trans (hb2.mono (by omega))
  clear r0 r1 r2 f0 f1 f2 hb2 c0 c1 c2 d0 d1 d2 hR
  go_wp2
  refine bodyPost_ret (v := .tuple #[sv ⟨rn, rlo, rhi⟩, .int .i64 0]) (by simp [results, Try.results11, go_sem, g0, g1, g2]) rfl ⟨rfl, ?_⟩
  exact ((H2.setCell (by simp; omega) _).setCell (by simp; omega) _).setCell (by simp; omega) _

set_option maxHeartbeats 1000000 in
theorem do_sub (s t : Sp) (w : World) (h : ckSps s t = 0) :
    Calls Try.prog 11 #[.int .i64 6, sv s, sv t] w fun e w' => e = .returned (.tuple #[sv (doSp 6 s t), .int .i64 0]) ∧ Below w.heap.size w w' := by
  obtain ⟨hs, ht⟩ := ckSps_ok.1 h
  have hR := fun w => rec_sub s t w hs ht
  generalize doSp 6 s t = r at hR ⊢
  clear hs ht
  obtain ⟨n, lo, hi⟩ := s
  obtain ⟨n', lo', hi'⟩ := t
  obtain ⟨rn, rlo, rhi⟩ := r
  go_enter Try.func11, Try.ntmps11
  go_wp2_with (go_at_call 32; fail)
  refine (checkBoth_any ⟨n, lo, hi⟩ ⟨n', lo', hi'⟩ _).mono ?_
  rintro e w1 ⟨rfl, hb1⟩
  obtain ⟨⟨c0, c1, c2⟩, ⟨d0, d1, d2⟩, ⟨r0, r1, r2⟩, ⟨f0, f1, f2⟩, z0, z1, z2⟩ := w3_cells (s := ⟨n, lo, hi⟩) (t := ⟨n', lo', hi'⟩) (r := zeroSp) hb1 (by simp)
  have H1 : Below w.heap.size w w1 := (w3_below ⟨n, lo, hi⟩ ⟨n', lo', hi'⟩ zeroSp w).trans (hb1.mono (by simp; omega))
  simp only [zeroSp] at r0 r1 r2
  clear hb1
  rw [h]
  go_wp2_with (go_at_call 33; fail)
  refine (hR _).mono ?_
  rintro e w2 ⟨rfl, hb2⟩
  have g0 := r0; have g1 := r1; have g2 := r2; have k0 := f0; have k1 := f1; have k2 := f2
  rw [← hb2.cell z2] at g0 g1 g2
  rw [← hb2.frozen z2] at k0 k1 k2
  have H2 : Below w.heap.size w w2 := H1.trans (hb2.mono (by omega))
  clear r0 r1 r2 f0 f1 f2 hb2 c0 c1 c2 d0 d1 d2 hR
  go_wp2
  refine bodyPost_ret (v := .tuple #[sv ⟨rn, rlo, rhi⟩, .int .i64 0]) (by simp [results, Try.results11, go_sem, g0, g1, g2]) rfl ⟨rfl, ?_⟩
  exact ((H2.setCell (by simp; omega) _).setCell (by simp; omega) _).setCell (by simp; omega) _

set_option maxHeartbeats 1000000 in
theorem do_mul (s t : Sp) (w : World) (h : ckSps s t = 0) :
    Calls Try.prog 11 #[.int .i64 7, sv s, sv t] w fun e w' => e = .returned (.tuple #[sv (doSp 7 s t), .int .i64 0]) ∧ Below w.heap.size w w' := by
  obtain ⟨hs, ht⟩ := ckSps_ok.1 h
  have hR := fun w => rec_mul s t w hs ht
  generalize doSp 7 s t = r at hR ⊢
  clear hs ht
  obtain ⟨n, lo, hi⟩ := s
  obtain ⟨n', lo', hi'⟩ := t
  obtain ⟨rn, rlo, rhi⟩ := r
  go_enter Try.func11, Try.ntmps11
  go_wp2_with (go_at_call 32; fail)
  refine (checkBoth_any ⟨n, lo, hi⟩ ⟨n', lo', hi'⟩ _).mono ?_
  rintro e w1 ⟨rfl, hb1⟩
  obtain ⟨⟨c0, c1, c2⟩, ⟨d0, d1, d2⟩, ⟨r0, r1, r2⟩, ⟨f0, f1, f2⟩, z0, z1, z2⟩ := w3_cells (s := ⟨n, lo, hi⟩) (t := ⟨n', lo', hi'⟩) (r := zeroSp) hb1 (by simp)
  have H1 : Below w.heap.size w w1 := (w3_below ⟨n, lo, hi⟩ ⟨n', lo', hi'⟩ zeroSp w).trans (hb1.mono (by simp; omega))
  simp only [zeroSp] at r0 r1 r2
  clear hb1
  rw [h]
  go_wp2_with (go_at_call 33; fail)
  refine (hR _).mono ?_
  rintro e w2 ⟨rfl, hb2⟩
  have g0 := r0; have g1 := r1; have g2 := r2; have k0 := f0; have k1 := f1; have k2 := f2
  rw [← hb2.cell z2] at g0 g1 g2
  rw [← hb2.frozen z2] at k0 k1 k2
  have H2 : Below w.heap.size w w2 := H1.trans (hb2.mono (by omega))
  clear r0 r1 r2 f0 f1 f2 hb2 c0 c1 c2 d0 d1 d2 hR
  go_wp2
  refine bodyPost_ret (v := .tuple #[sv ⟨rn, rlo, rhi⟩, .int .i64 0]) (by simp [results, Try.results11, go_sem, g0, g1, g2]) rfl ⟨rfl, ?_⟩
  exact ((H2.setCell (by simp; omega) _).setCell (by simp; omega) _).setCell (by simp; omega) _

/-- What Do tells. -/
def doErr (k : Int) (s t : Sp) : Int := if ckSps s t = 0 then (if k = 5 ∨ k = 6 ∨ k = 7 then 0 else 6) else ckSps s t

theorem do_any (k : Int) (s t : Sp) (w : World) :
    Calls Try.prog 11 #[.int .i64 k, sv s, sv t] w fun e w' => e = .returned (.tuple #[sv (spIf (doErr k s t) (doSp k s t)), .int .i64 (doErr k s t)]) ∧ Below w.heap.size w w' := by
  by_cases h : ckSps s t = 0
  · by_cases hk : k = 5 ∨ k = 6 ∨ k = 7
    · have e0 : doErr k s t = 0 := by unfold doErr; rw [if_pos h, if_pos hk]
      rw [e0]
      rcases hk with rfl | rfl | rfl
      · exact do_add s t w h
      · exact do_sub s t w h
      · exact do_mul s t w h
    · have e0 : doErr k s t = 6 := by unfold doErr; rw [if_pos h, if_neg hk]
      rw [e0]
      exact do_kind k s t w h (by simp; omega) (by simp; omega) (by simp; omega)
  · have e0 : doErr k s t = ckSps s t := by unfold doErr; rw [if_neg h]
    rw [e0]
    unfold spIf
    rw [if_neg h]
    exact do_err k s t w h
end Go.Proofs.Ytmapdpcfanecdaa
