/- Walks over the document's own answers on spans: DoSpan. -/
import Derived.Test.YtmapdpcfanecdaaGreatKguyp25
import Derived.Deep.AppendLies
import Derived.Deep.RegionHeldLaw
import Derived.Laws.OwnMore
namespace Go.Proofs.YtmapdpcfanecdaaGreat
set_option linter.unusedVariables false
set_option linter.unusedSimpArgs false
open Go.RowKit

theorem wrap_small {x : Int} (h1 : -9223372036854775808 ≤ x) (h2 : x < 9223372036854775808) : wrap64 x = x := by unfold wrap64; omega

theorem mul_small {a b : Int} (ha : inNum a) (hb : inNum b) : -4611686018427387904 ≤ a * b ∧ a * b ≤ 4611686018427387904 := by
  have h1 : a.natAbs ≤ 2147483648 := by unfold inNum at ha; omega
  have h2 : b.natAbs ≤ 2147483648 := by unfold inNum at hb; omega
  have h3 : (a * b).natAbs ≤ 4611686018427387904 := by rw [Int.natAbs_mul]; exact Nat.mul_le_mul h1 h2
  omega

theorem wrap_add {a b : Int} (ha : inNum a) (hb : inNum b) : wrap64 (a + b) = a + b := by
  unfold inNum at ha hb
  exact wrap_small (by omega) (by omega)
theorem wrap_sub {a b : Int} (ha : inNum a) (hb : inNum b) : wrap64 (a - b) = a - b := by
  unfold inNum at ha hb
  exact wrap_small (by omega) (by omega)
theorem wrap_mul {a b : Int} (ha : inNum a) (hb : inNum b) : wrap64 (a * b) = a * b := by
  have := mul_small ha hb
  exact wrap_small (by omega) (by omega)

theorem rec_add (s t : Sp) (w : World) (hs : s.Ok) (ht : t.Ok) :
    Calls Tryz.prog 97 #[sv s, sv t, .func (.func 98) #[] #[]] w fun e w' => e = .returned (sv (doSp 5 s t)) ∧ Below w.heap.size w w' := by
  by_cases h : (s.n || t.n) = true
  · have := reckon_none 98 s t w h
    unfold doSp
    rw [if_pos h]
    exact this
  · have e0 : doSp 5 s t = hull (s.lo + t.lo) (s.lo + t.hi) (s.hi + t.lo) (s.hi + t.hi) := by unfold doSp; rw [if_neg h]; rfl
    rw [e0]
    obtain ⟨n, lo, hi⟩ := s
    obtain ⟨n', lo', hi'⟩ := t
    cases n with
    | true => exact absurd rfl h
    | false =>
      cases n' with
      | true => exact absurd rfl h
      | false => exact reckon_add lo hi lo' hi' w (wrap_add hs.1 ht.1) (wrap_add hs.1 ht.2.1) (wrap_add hs.2.1 ht.1) (wrap_add hs.2.1 ht.2.1)

theorem rec_sub (s t : Sp) (w : World) (hs : s.Ok) (ht : t.Ok) :
    Calls Tryz.prog 97 #[sv s, sv t, .func (.func 99) #[] #[]] w fun e w' => e = .returned (sv (doSp 6 s t)) ∧ Below w.heap.size w w' := by
  by_cases h : (s.n || t.n) = true
  · have := reckon_none 99 s t w h
    unfold doSp
    rw [if_pos h]
    exact this
  · have e0 : doSp 6 s t = hull (s.lo - t.lo) (s.lo - t.hi) (s.hi - t.lo) (s.hi - t.hi) := by unfold doSp; rw [if_neg h]; rfl
    rw [e0]
    obtain ⟨n, lo, hi⟩ := s
    obtain ⟨n', lo', hi'⟩ := t
    cases n with
    | true => exact absurd rfl h
    | false =>
      cases n' with
      | true => exact absurd rfl h
      | false => exact reckon_sub lo hi lo' hi' w (wrap_sub hs.1 ht.1) (wrap_sub hs.1 ht.2.1) (wrap_sub hs.2.1 ht.1) (wrap_sub hs.2.1 ht.2.1)

theorem rec_mul (s t : Sp) (w : World) (hs : s.Ok) (ht : t.Ok) :
    Calls Tryz.prog 97 #[sv s, sv t, .func (.func 100) #[] #[]] w fun e w' => e = .returned (sv (doSp 7 s t)) ∧ Below w.heap.size w w' := by
  by_cases h : (s.n || t.n) = true
  · have := reckon_none 100 s t w h
    unfold doSp
    rw [if_pos h]
    exact this
  · have e0 : doSp 7 s t = hull (s.lo * t.lo) (s.lo * t.hi) (s.hi * t.lo) (s.hi * t.hi) := by unfold doSp; rw [if_neg h]; rfl
    rw [e0]
    obtain ⟨n, lo, hi⟩ := s
    obtain ⟨n', lo', hi'⟩ := t
    cases n with
    | true => exact absurd rfl h
    | false =>
      cases n' with
      | true => exact absurd rfl h
      | false => exact reckon_mul lo hi lo' hi' w (wrap_mul hs.1 ht.1) (wrap_mul hs.1 ht.2.1) (wrap_mul hs.2.1 ht.1) (wrap_mul hs.2.1 ht.2.1)

set_option maxHeartbeats 1000000 in
theorem do_err (k : Int) (s t : Sp) (w : World) (h : ckSps s t ≠ 0) :
    Calls Tryz.prog 54 #[.int .i64 k, sv s, sv t] w fun e w' => e = .returned (.tuple #[sv zeroSp, .int .i64 (ckSps s t)]) ∧ Below w.heap.size w w' := by
  obtain ⟨n, lo, hi⟩ := s
  obtain ⟨n', lo', hi'⟩ := t
  go_enter Tryz.func54, Tryz.ntmps54
  go_wp2_with (go_at_call 96; fail)
  refine (checkBoth_any ⟨n, lo, hi⟩ ⟨n', lo', hi'⟩ _).mono ?_
  rintro e w1 ⟨rfl, hb1⟩
  obtain ⟨⟨c0, c1, c2⟩, ⟨d0, d1, d2⟩, ⟨r0, r1, r2⟩, ⟨f0, f1, f2⟩, z0, z1, z2⟩ := w3_cells (s := ⟨n, lo, hi⟩) (t := ⟨n', lo', hi'⟩) (r := zeroSp) hb1 (by simp)
  have H1 : Below w.heap.size w w1 := (w3_below ⟨n, lo, hi⟩ ⟨n', lo', hi'⟩ zeroSp w).trans (hb1.mono (by simp; omega))
  simp only [zeroSp] at r0 r1 r2
  clear hb1
  go_wp2
  refine bodyPost_ret (v := .tuple #[sv zeroSp, .int .i64 (ckSps ⟨n, lo, hi⟩ ⟨n', lo', hi'⟩)]) (by simp [results, Tryz.results54, go_sem, r0, r1, r2, zeroSp]) rfl ⟨rfl, ?_⟩
  exact ((H1.setCell (by simp; omega) _).setCell (by simp; omega) _).setCell (by simp; omega) _

set_option maxHeartbeats 1000000 in
theorem do_kind (k : Int) (s t : Sp) (w : World) (h : ckSps s t = 0) (h5 : (k == 5) = false) (h6 : (k == 6) = false) (h7 : (k == 7) = false) :
    Calls Tryz.prog 54 #[.int .i64 k, sv s, sv t] w fun e w' => e = .returned (.tuple #[sv zeroSp, .int .i64 6]) ∧ Below w.heap.size w w' := by
  obtain ⟨n, lo, hi⟩ := s
  obtain ⟨n', lo', hi'⟩ := t
  go_enter Tryz.func54, Tryz.ntmps54
  go_wp2_with (go_at_call 96; fail)
  refine (checkBoth_any ⟨n, lo, hi⟩ ⟨n', lo', hi'⟩ _).mono ?_
  rintro e w1 ⟨rfl, hb1⟩
  obtain ⟨⟨c0, c1, c2⟩, ⟨d0, d1, d2⟩, ⟨r0, r1, r2⟩, ⟨f0, f1, f2⟩, z0, z1, z2⟩ := w3_cells (s := ⟨n, lo, hi⟩) (t := ⟨n', lo', hi'⟩) (r := zeroSp) hb1 (by simp)
  have H1 : Below w.heap.size w w1 := (w3_below ⟨n, lo, hi⟩ ⟨n', lo', hi'⟩ zeroSp w).trans (hb1.mono (by simp; omega))
  simp only [zeroSp] at r0 r1 r2
  clear hb1
  rw [h]
  go_wp2
  refine bodyPost_ret (v := .tuple #[sv zeroSp, .int .i64 6]) (by simp [results, Tryz.results54, go_sem, r0, r1, r2, zeroSp]) rfl ⟨rfl, ?_⟩
  exact ((H1.setCell (by simp; omega) _).setCell (by simp; omega) _).setCell (by simp; omega) _

set_option maxHeartbeats 1000000 in
theorem do_add (s t : Sp) (w : World) (h : ckSps s t = 0) :
    Calls Tryz.prog 54 #[.int .i64 5, sv s, sv t] w fun e w' => e = .returned (.tuple #[sv (doSp 5 s t), .int .i64 0]) ∧ Below w.heap.size w w' := by
  obtain ⟨hs, ht⟩ := ckSps_ok.1 h
  have hR := fun w => rec_add s t w hs ht
  generalize doSp 5 s t = r at hR ⊢
  clear hs ht
  obtain ⟨n, lo, hi⟩ := s
  obtain ⟨n', lo', hi'⟩ := t
  obtain ⟨rn, rlo, rhi⟩ := r
  go_enter Tryz.func54, Tryz.ntmps54
  go_wp2_with (go_at_call 96; fail)
  refine (checkBoth_any ⟨n, lo, hi⟩ ⟨n', lo', hi'⟩ _).mono ?_
  rintro e w1 ⟨rfl, hb1⟩
  obtain ⟨⟨c0, c1, c2⟩, ⟨d0, d1, d2⟩, ⟨r0, r1, r2⟩, ⟨f0, f1, f2⟩, z0, z1, z2⟩ := w3_cells (s := ⟨n, lo, hi⟩) (t := ⟨n', lo', hi'⟩) (r := zeroSp) hb1 (by simp)
  have H1 : Below w.heap.size w w1 := (w3_below ⟨n, lo, hi⟩ ⟨n', lo', hi'⟩ zeroSp w).trans (hb1.mono (by simp; omega))
  simp only [zeroSp] at r0 r1 r2
  clear hb1
  rw [h]
  go_wp2_with (go_at_call 97; fail)
  refine (hR _).mono ?_
  rintro e w2 ⟨rfl, hb2⟩
  have g0 := r0; have g1 := r1; have g2 := r2; have k0 := f0; have k1 := f1; have k2 := f2
  rw [← hb2.cell z2] at g0 g1 g2
  rw [← hb2.frozen z2] at k0 k1 k2
  have H2 : Below w.heap.size w w2 := H1.trans (hb2.mono (by omega))
  clear r0 r1 r2 f0 f1 f2 hb2 c0 c1 c2 d0 d1 d2 hR
  go_wp2
  refine bodyPost_ret (v := .tuple #[sv ⟨rn, rlo, rhi⟩, .int .i64 0]) (by simp [results, Tryz.results54, go_sem, g0, g1, g2]) rfl ⟨rfl, ?_⟩
  exact ((H2.setCell (by simp; omega) _).setCell (by simp; omega) _).setCell (by simp; omega) _

set_option maxHeartbeats 1000000 in
theorem do_sub (s t : Sp) (w : World) (h : ckSps s t = 0) :
    Calls Tryz.prog 54 #[.int .i64 6, sv s, sv t] w fun e w' => e = .returned (.tuple #[sv (doSp 6 s t), .int .i64 0]) ∧ Below w.heap.size w w' := by
  obtain ⟨hs, ht⟩ := ckSps_ok.1 h
  have hR := fun w => rec_sub s t w hs ht
  generalize doSp 6 s t = r at hR ⊢
  clear hs ht
  obtain ⟨n, lo, hi⟩ := s
  obtain ⟨n', lo', hi'⟩ := t
  obtain ⟨rn, rlo, rhi⟩ := r
  go_enter Tryz.func54, Tryz.ntmps54
  go_wp2_with (go_at_call 96; fail)
  refine (checkBoth_any ⟨n, lo, hi⟩ ⟨n', lo', hi'⟩ _).mono ?_
  rintro e w1 ⟨rfl, hb1⟩
  obtain ⟨⟨c0, c1, c2⟩, ⟨d0, d1, d2⟩, ⟨r0, r1, r2⟩, ⟨f0, f1, f2⟩, z0, z1, z2⟩ := w3_cells (s := ⟨n, lo, hi⟩) (t := ⟨n', lo', hi'⟩) (r := zeroSp) hb1 (by simp)
  have H1 : Below w.heap.size w w1 := (w3_below ⟨n, lo, hi⟩ ⟨n', lo', hi'⟩ zeroSp w).trans (hb1.mono (by simp; omega))
  simp only [zeroSp] at r0 r1 r2
  clear hb1
  rw [h]
  go_wp2_with (go_at_call 97; fail)
  refine (hR _).mono ?_
  rintro e w2 ⟨rfl, hb2⟩
  have g0 := r0; have g1 := r1; have g2 := r2; have k0 := f0; have k1 := f1; have k2 := f2
  rw [← hb2.cell z2] at g0 g1 g2
  rw [← hb2.frozen z2] at k0 k1 k2
  have H2 : Below w.heap.size w w2 := H1.trans (hb2.mono (by omega))
  clear r0 r1 r2 f0 f1 f2 hb2 c0 c1 c2 d0 d1 d2 hR
  go_wp2
  refine bodyPost_ret (v := .tuple #[sv ⟨rn, rlo, rhi⟩, .int .i64 0]) (by simp [results, Tryz.results54, go_sem, g0, g1, g2]) rfl ⟨rfl, ?_⟩
  exact ((H2.setCell (by simp; omega) _).setCell (by simp; omega) _).setCell (by simp; omega) _

set_option maxHeartbeats 1000000 in
theorem do_mul (s t : Sp) (w : World) (h : ckSps s t = 0) :
    Calls Tryz.prog 54 #[.int .i64 7, sv s, sv t] w fun e w' => e = .returned (.tuple #[sv (doSp 7 s t), .int .i64 0]) ∧ Below w.heap.size w w' := by
  obtain ⟨hs, ht⟩ := ckSps_ok.1 h
  have hR := fun w => rec_mul s t w hs ht
  generalize doSp 7 s t = r at hR ⊢
  clear hs ht
  obtain ⟨n, lo, hi⟩ := s
  obtain ⟨n', lo', hi'⟩ := t
  obtain ⟨rn, rlo, rhi⟩ := r
  go_enter Tryz.func54, Tryz.ntmps54
  go_wp2_with (go_at_call 96; fail)
  refine (checkBoth_any ⟨n, lo, hi⟩ ⟨n', lo', hi'⟩ _).mono ?_
  rintro e w1 ⟨rfl, hb1⟩
  obtain ⟨⟨c0, c1, c2⟩, ⟨d0, d1, d2⟩, ⟨r0, r1, r2⟩, ⟨f0, f1, f2⟩, z0, z1, z2⟩ := w3_cells (s := ⟨n, lo, hi⟩) (t := ⟨n', lo', hi'⟩) (r := zeroSp) hb1 (by simp)
  have H1 : Below w.heap.size w w1 := (w3_below ⟨n, lo, hi⟩ ⟨n', lo', hi'⟩ zeroSp w).trans (hb1.mono (by simp; omega))
  simp only [zeroSp] at r0 r1 r2
  clear hb1
  rw [h]
  go_wp2_with (go_at_call 97; fail)
  refine (hR _).mono ?_
  rintro e w2 ⟨rfl, hb2⟩
  have g0 := r0; have g1 := r1; have g2 := r2; have k0 := f0; have k1 := f1; have k2 := f2
  rw [← hb2.cell z2] at g0 g1 g2
  rw [← hb2.frozen z2] at k0 k1 k2
  have H2 : Below w.heap.size w w2 := H1.trans (hb2.mono (by omega))
  clear r0 r1 r2 f0 f1 f2 hb2 c0 c1 c2 d0 d1 d2 hR
  go_wp2
  refine bodyPost_ret (v := .tuple #[sv ⟨rn, rlo, rhi⟩, .int .i64 0]) (by simp [results, Tryz.results54, go_sem, g0, g1, g2]) rfl ⟨rfl, ?_⟩
  exact ((H2.setCell (by simp; omega) _).setCell (by simp; omega) _).setCell (by simp; omega) _

/-- What Do tells. -/
def doErr (k : Int) (s t : Sp) : Int := if ckSps s t = 0 then (if k = 5 ∨ k = 6 ∨ k = 7 then 0 else 6) else ckSps s t

theorem do_any (k : Int) (s t : Sp) (w : World) :
    Calls Tryz.prog 54 #[.int .i64 k, sv s, sv t] w fun e w' => e = .returned (.tuple #[sv (spIf (doErr k s t) (doSp k s t)), .int .i64 (doErr k s t)]) ∧ Below w.heap.size w w' := by
  by_cases h : ckSps s t = 0
  · by_cases hk : k = 5 ∨ k = 6 ∨ k = 7
    · have e0 : doErr k s t = 0 := by unfold doErr; rw [if_pos h, if_pos hk]
      rw [e0]
      rcases hk with rfl | rfl | rfl
      · exact do_add s t w h
      · exact do_sub s t w h
      · exact do_mul s t w h
    · have e0 : doErr k s t = 6 := by unfold doErr; rw [if_pos h, if_neg hk]
      rw [e0]
      exact do_kind k s t w h (by simp; omega) (by simp; omega) (by simp; omega)
  · have e0 : doErr k s t = ckSps s t := by unfold doErr; rw [if_neg h]
    rw [e0]
    unfold spIf
    rw [if_neg h]
    exact do_err k s t w h
end Go.Proofs.YtmapdpcfanecdaaGreat

namespace Go.Proofs.YtmapdpcfanecdaaGreat
set_option linter.unusedVariables false
set_option linter.unusedSimpArgs false
open Go.RowKit

set_option maxHeartbeats 1000000 in
theorem doSpan_n (k : Int) (s t : Sp) (w : World) (h : (s.n || t.n) = true) :
    Calls Tryz.prog 65 #[.int .i64 k, sv s, sv t] w fun e w' => e = .returned (sv ⟨true, 0, 0⟩) ∧ Below w.heap.size w w' := by
  obtain ⟨n, lo, hi⟩ := s
  obtain ⟨n', lo', hi'⟩ := t
  cases n with
  | true =>
    go_enter Tryz.func65, Tryz.ntmps65
    go_wp2
    go_returns
    exact ⟨rfl, by go_grown⟩
  | false =>
    cases n' with
    | true =>
      go_enter Tryz.func65, Tryz.ntmps65
      go_wp2
      go_returns
      exact ⟨rfl, by go_grown⟩
    | false => exact absurd h (by simp)

theorem ownsRow_lowS {w : World} {B : Nat} {e : TypeId} {z : Nat} {v : Value} {n : Nat} {xs : List Value} (h : w.ownsRow B e z v n xs) {k : Nat} (hk : v.ownBlock = some k) : B ≤ k := by
  rcases h.2 with ⟨rfl, _⟩ | ⟨g, cap, cur, rfl, hb, hg, _⟩
  · cases hk
  · cases hk
    exact hb

theorem Tryz.info_intS : (Tryz.prog.info? 3).map (fun i => (i.zero, i.size, i.bytes)) = some (some (.int .i64 0), 1, 8) := by kernel_rfl

theorem info_partsS {P : Program} {t : TypeId} {z : Option Value} {a b : Nat} (h : (P.info? t).map (fun i => (i.zero, i.size, i.bytes)) = some (z, a, b)) : ∃ i, P.info? t = some i ∧ i.zero = z ∧ i.size = a ∧ i.bytes = b := by
  cases hi : P.info? t with
  | none => rw [hi] at h; cases h
  | some i =>
    rw [hi] at h
    simp only [Option.map_some, Option.some.injEq, Prod.mk.injEq] at h
    exact ⟨i, rfl, h.1, h.2.1, h.2.2⟩

theorem min_max4 (a b c d : Int) : min4 a b c d ≤ max4 a b c d := by unfold min4 max4; omega
theorem hull_ok {a b c d : Int} (h : ckSp ⟨false, min4 a b c d, max4 a b c d⟩ = 0) : hull a b c d = ⟨false, min4 a b c d, max4 a b c d⟩ := by
  have := ckSp_ok.1 h
  exact hull_in this.1 this.2.1
theorem hull_no {a b c d : Int} (h : ckSp ⟨false, min4 a b c d, max4 a b c d⟩ ≠ 0) : hull a b c d = ⟨false, -2147483648, 2147483647⟩ := by
  unfold hull
  refine if_neg fun hc => h (ckSp_ok.2 ⟨hc.1, hc.2, (fun hn => by cases hn), min_max4 a b c d⟩)

/-- One element laid into a block of its own. -/
theorem news_one (w : World) (v : Value) (t : TypeId) : ∀ j u, [v][j]? = some u → (w.alloc (.cells #[v] t)).drew.cell? ((⟨w.heap.size, 0, none⟩ : Addr).add j) = some u := by
  intro j u hu
  have hadd : (⟨w.heap.size, 0, none⟩ : Addr).add j = ⟨w.heap.size, j, none⟩ := by unfold Addr.add; split <;> simp_all
  rw [hadd]
  have : (w.alloc (.cells #[v] t)).drew.cell? ⟨w.heap.size, j, none⟩ = #[v][j]? := by simp [go_sem]
  rw [this]
  simpa using hu
end Go.Proofs.YtmapdpcfanecdaaGreat
