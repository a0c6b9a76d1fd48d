/- Walks over the document's own answers on spans: DoSpan: add. -/
import Derived.Test.YtmapdpcfanecdabGreatKstpxp16
import Derived.Deep.AppendLies
import Derived.Deep.RegionHeldLaw
import Derived.Laws.OwnMore
set_option linter.unusedSimpArgs false
set_option linter.unusedVariables false
namespace Go.Proofs.YtmapdpcfanecdabGreat
section
set_option maxHeartbeats 1000000
set_option maxRecDepth 100000
open Go.RowKit

theorem wrap_small {x : Int} (h1 : -9223372036854775808 ≤ x) (h2 : x < 9223372036854775808) : wrap64 x = x := by unfold wrap64; omega

theorem mul_small {a b : Int} (ha : inNum a) (hb : inNum b) : -4611686018427387904 ≤ a * b ∧ a * b ≤ 4611686018427387904 := by
 have h1 : a.natAbs ≤ 2147483648 := by unfold inNum at ha; omega
 have h2 : b.natAbs ≤ 2147483648 := by unfold inNum at hb; omega
 have h3 : (a * b).natAbs ≤ 4611686018427387904 := by rw [Int.natAbs_mul]; exact Nat.mul_le_mul h1 h2
 omega

theorem wrap_add {a b : Int} (ha : inNum a) (hb : inNum b) : wrap64 (a + b) = a + b := by
 unfold inNum at ha hb
 exact wrap_small (by omega) (by omega)
theorem wrap_sub {a b : Int} (ha : inNum a) (hb : inNum b) : wrap64 (a - b) = a - b := by
 unfold inNum at ha hb
 exact wrap_small (by omega) (by omega)
theorem wrap_mul {a b : Int} (ha : inNum a) (hb : inNum b) : wrap64 (a * b) = a * b := by
 have := mul_small ha hb
 exact wrap_small (by omega) (by omega)

theorem rec_add (s t : Sp) (w : World) (hs : s.Ok) (ht : t.Ok) :
  Calls Tryz.prog 145 #[sv s, sv t, .func (.func 146) #[] #[]] w fun e w' => e = .returned (sv (doSp 5 s t)) ∧ Below w.heap.size w w' := by
 by_cases h : (s.n || t.n) = true
 ·have := reckon_none 146 s t w h
  unfold doSp
  rw [if_pos h]
  exact this
 ·have e0 : doSp 5 s t = hull (s.lo + t.lo) (s.lo + t.hi) (s.hi + t.lo) (s.hi + t.hi) := by unfold doSp; rw [if_neg h]; rfl
  rw [e0]
  obtain ⟨n, lo, hi⟩ := s
  obtain ⟨n', lo', hi'⟩ := t
  cases n with
  | true => exact absurd rfl h
  | false =>
   cases n' with
   | true => exact absurd rfl h
   | false => exact reckon_add lo hi lo' hi' w (wrap_add hs.1 ht.1) (wrap_add hs.1 ht.2.1) (wrap_add hs.2.1 ht.1) (wrap_add hs.2.1 ht.2.1)

theorem rec_sub (s t : Sp) (w : World) (hs : s.Ok) (ht : t.Ok) :
  Calls Tryz.prog 145 #[sv s, sv t, .func (.func 147) #[] #[]] w fun e w' => e = .returned (sv (doSp 6 s t)) ∧ Below w.heap.size w w' := by
 by_cases h : (s.n || t.n) = true
 ·have := reckon_none 147 s t w h
  unfold doSp
  rw [if_pos h]
  exact this
 ·have e0 : doSp 6 s t = hull (s.lo - t.lo) (s.lo - t.hi) (s.hi - t.lo) (s.hi - t.hi) := by unfold doSp; rw [if_neg h]; rfl
  rw [e0]
  obtain ⟨n, lo, hi⟩ := s
  obtain ⟨n', lo', hi'⟩ := t
  cases n with
  | true => exact absurd rfl h
  | false =>
   cases n' with
   | true => exact absurd rfl h
   | false => exact reckon_sub lo hi lo' hi' w (wrap_sub hs.1 ht.1) (wrap_sub hs.1 ht.2.1) (wrap_sub hs.2.1 ht.1) (wrap_sub hs.2.1 ht.2.1)

theorem rec_mul (s t : Sp) (w : World) (hs : s.Ok) (ht : t.Ok) :
  Calls Tryz.prog 145 #[sv s, sv t, .func (.func 148) #[] #[]] w fun e w' => e = .returned (sv (doSp 7 s t)) ∧ Below w.heap.size w w' := by
 by_cases h : (s.n || t.n) = true
 ·have := reckon_none 148 s t w h
  unfold doSp
  rw [if_pos h]
  exact this
 ·have e0 : doSp 7 s t = hull (s.lo * t.lo) (s.lo * t.hi) (s.hi * t.lo) (s.hi * t.hi) := by unfold doSp; rw [if_neg h]; rfl
  rw [e0]
  obtain ⟨n, lo, hi⟩ := s
  obtain ⟨n', lo', hi'⟩ := t
  cases n with
  | true => exact absurd rfl h
  | false =>
   cases n' with
   | true => exact absurd rfl h
   | false => exact reckon_mul lo hi lo' hi' w (wrap_mul hs.1 ht.1) (wrap_mul hs.1 ht.2.1) (wrap_mul hs.2.1 ht.1) (wrap_mul hs.2.1 ht.2.1)

theorem do_err (k : Int) (s t : Sp) (w : World) (h : ckSps s t ≠ 0) :
  Calls Tryz.prog 120 #[.int .i64 k, sv s, sv t] w fun e w' => e = .returned (.tuple #[sv zeroSp, .int .i64 (ckSps s t)]) ∧ Below w.heap.size w w' := by
 obtain ⟨n, lo, hi⟩ := s
 obtain ⟨n', lo', hi'⟩ := t
 go_enter Tryz.func120, Tryz.ntmps120
 go_wp2_with (go_at_call 138; fail)
 refine (checkBoth_any ⟨n, lo, hi⟩ ⟨n', lo', hi'⟩ _).mono ?_
 rintro e w1 ⟨rfl, hb1⟩
 obtain ⟨⟨c0, c1, c2⟩, ⟨d0, d1, d2⟩, ⟨r0, r1, r2⟩, ⟨f0, f1, f2⟩, z0, z1, z2⟩ := w3_cells (s := ⟨n, lo, hi⟩) (t := ⟨n', lo', hi'⟩) (r := zeroSp) hb1 (by simp)
 have H1 : Below w.heap.size w w1 := (w3_below ⟨n, lo, hi⟩ ⟨n', lo', hi'⟩ zeroSp w).trans (hb1.mono (by simp; omega))
 simp only [zeroSp] at r0 r1 r2
 clear hb1
 go_wp2
 refine bodyPost_ret (v := .tuple #[sv zeroSp, .int .i64 (ckSps ⟨n, lo, hi⟩ ⟨n', lo', hi'⟩)]) (by simp [results, Tryz.results120, go_sem, r0, r1, r2, zeroSp]) rfl ⟨rfl, ?_⟩
 exact ((H1.setCell (by simp; omega) _).setCell (by simp; omega) _).setCell (by simp; omega) _

theorem do_kind (k : Int) (s t : Sp) (w : World) (h : ckSps s t = 0) (h5 : (k == 5) = false) (h6 : (k == 6) = false) (h7 : (k == 7) = false) :
  Calls Tryz.prog 120 #[.int .i64 k, sv s, sv t] w fun e w' => e = .returned (.tuple #[sv zeroSp, .int .i64 6]) ∧ Below w.heap.size w w' := by
 obtain ⟨n, lo, hi⟩ := s
 obtain ⟨n', lo', hi'⟩ := t
 go_enter Tryz.func120, Tryz.ntmps120
 go_wp2_with (go_at_call 138; fail)
 refine (checkBoth_any ⟨n, lo, hi⟩ ⟨n', lo', hi'⟩ _).mono ?_
 rintro e w1 ⟨rfl, hb1⟩
 obtain ⟨⟨c0, c1, c2⟩, ⟨d0, d1, d2⟩, ⟨r0, r1, r2⟩, ⟨f0, f1, f2⟩, z0, z1, z2⟩ := w3_cells (s := ⟨n, lo, hi⟩) (t := ⟨n', lo', hi'⟩) (r := zeroSp) hb1 (by simp)
 have H1 : Below w.heap.size w w1 := (w3_below ⟨n, lo, hi⟩ ⟨n', lo', hi'⟩ zeroSp w).trans (hb1.mono (by simp; omega))
 simp only [zeroSp] at r0 r1 r2
 clear hb1
 rw [h]
 go_wp2
 refine bodyPost_ret (v := .tuple #[sv zeroSp, .int .i64 6]) (by simp [results, Tryz.results120, go_sem, r0, r1, r2, zeroSp]) rfl ⟨rfl, ?_⟩
 exact ((H1.setCell (by simp; omega) _).setCell (by simp; omega) _).setCell (by simp; omega) _

theorem prf_8f7489 {p : Prop} (h : p := by
 clear hs ht
 obtain ⟨n, lo, hi⟩ := s
 obtain ⟨n', lo', hi'⟩ := t
 obtain ⟨rn, rlo, rhi⟩ := r
 go_enter Tryz.func120, Tryz.ntmps120
 go_wp2_with (go_at_call 138; fail)
 refine (checkBoth_any ⟨n, lo, hi⟩ ⟨n', lo', hi'⟩ _).mono ?_
 rintro e w1 ⟨rfl, hb1⟩
 obtain ⟨⟨c0, c1, c2⟩, ⟨d0, d1, d2⟩, ⟨r0, r1, r2⟩, ⟨f0, f1, f2⟩, z0, z1, z2⟩ := w3_cells (s := ⟨n, lo, hi⟩) (t := ⟨n', lo', hi'⟩) (r := zeroSp) hb1 (by simp)
 have H1 : Below w.heap.size w w1 := (w3_below ⟨n, lo, hi⟩ ⟨n', lo', hi'⟩ zeroSp w).trans (hb1.mono (by simp; omega))
 simp only [zeroSp] at r0 r1 r2
 clear hb1
 rw [h]
 go_wp2_with (go_at_call 145; fail)
 refine (hR _).mono ?_
 rintro e w2 ⟨rfl, hb2⟩
 have g0 := r0; have g1 := r1; have g2 := r2; have k0 := f0; have k1 := f1; have k2 := f2
 rw [← hb2.cell z2] at g0 g1 g2
 rw [← hb2.frozen z2] at k0 k1 k2
 have H2 : Below w.heap.size w w2 := H1.trans (hb2.mono (by omega))
 clear r0 r1 r2 f0 f1 f2 hb2 c0 c1 c2 d0 d1 d2 hR
 go_wp2
 refine bodyPost_ret (v := .tuple #[sv ⟨rn, rlo, rhi⟩, .int .i64 0]) (by simp [results, Tryz.results120, go_sem, g0, g1, g2]) rfl ⟨rfl, ?_⟩
 exact ((H2.setCell (by simp; omega) _).setCell (by simp; omega) _).setCell (by simp; omega) _) : p := h
theorem do_add (s t : Sp) (w : World) (h : ckSps s t = 0) :
  Calls Tryz.prog 120 #[.int .i64 5, sv s, sv t] w fun e w' => e = .returned (.tuple #[sv (doSp 5 s t), .int .i64 0]) ∧ Below w.heap.size w w' := by
 obtain ⟨hs, ht⟩ := ckSps_ok.1 h
 have hR := fun w => rec_add s t w hs ht
 generalize doSp 5 s t = r at hR ⊢
 exact prf_8f7489

theorem do_sub (s t : Sp) (w : World) (h : ckSps s t = 0) :
  Calls Tryz.prog 120 #[.int .i64 6, sv s, sv t] w fun e w' => e = .returned (.tuple #[sv (doSp 6 s t), .int .i64 0]) ∧ Below w.heap.size w w' := by
 obtain ⟨hs, ht⟩ := ckSps_ok.1 h
 have hR := fun w => rec_sub s t w hs ht
 generalize doSp 6 s t = r at hR ⊢
 exact prf_8f7489

theorem do_mul (s t : Sp) (w : World) (h : ckSps s t = 0) :
  Calls Tryz.prog 120 #[.int .i64 7, sv s, sv t] w fun e w' => e = .returned (.tuple #[sv (doSp 7 s t), .int .i64 0]) ∧ Below w.heap.size w w' := by
 obtain ⟨hs, ht⟩ := ckSps_ok.1 h
 have hR := fun w => rec_mul s t w hs ht
 generalize doSp 7 s t = r at hR ⊢
 exact prf_8f7489

/-- What Do tells. -/
def doErr (k : Int) (s t : Sp) : Int := if ckSps s t = 0 then (if k = 5 ∨ k = 6 ∨ k = 7 then 0 else 6) else ckSps s t

theorem do_any (k : Int) (s t : Sp) (w : World) :
  Calls Tryz.prog 120 #[.int .i64 k, sv s, sv t] w fun e w' => e = .returned (.tuple #[sv (spIf (doErr k s t) (doSp k s t)), .int .i64 (doErr k s t)]) ∧ Below w.heap.size w w' := by
 by_cases h : ckSps s t = 0
 ·by_cases hk : k = 5 ∨ k = 6 ∨ k = 7
  ·have e0 : doErr k s t = 0 := by unfold doErr; rw [if_pos h, if_pos hk]
   rw [e0]
   rcases hk with rfl | rfl | rfl
   ·exact do_add s t w h
   ·exact do_sub s t w h
   ·exact do_mul s t w h
  ·have e0 : doErr k s t = 6 := by unfold doErr; rw [if_pos h, if_neg hk]
   rw [e0]
   exact do_kind k s t w h (by simp; omega) (by simp; omega) (by simp; omega)
 ·have e0 : doErr k s t = ckSps s t := by unfold doErr; rw [if_neg h]
  rw [e0]
  unfold spIf
  rw [if_neg h]
  exact do_err k s t w h
end
section
set_option maxHeartbeats 1000000
open Go.RowKit

theorem doSpan_n (k : Int) (s t : Sp) (w : World) (h : (s.n || t.n) = true) :
  Calls Tryz.prog 63 #[.int .i64 k, sv s, sv t] w fun e w' => e = .returned (sv ⟨true, 0, 0⟩) ∧ Below w.heap.size w w' := by
 obtain ⟨n, lo, hi⟩ := s
 obtain ⟨n', lo', hi'⟩ := t
 cases n with
 | true =>
  go_enter Tryz.func63, Tryz.ntmps63
  go_wp2
  go_returns
  exact ⟨rfl, by go_grown⟩
 | false =>
  cases n' with
  | true =>
   go_enter Tryz.func63, Tryz.ntmps63
   go_wp2
   go_returns
   exact ⟨rfl, by go_grown⟩
  | false => exact absurd h (by simp)

theorem ownsRow_lowS {w : World} {B : Nat} {e : TypeId} {z : Nat} {v : Value} {n : Nat} {xs : List Value} (h : w.ownsRow B e z v n xs) {k : Nat} (hk : v.ownBlock = some k) : B ≤ k := by
 rcases h.2 with ⟨rfl, _⟩ | ⟨g, cap, cur, rfl, hb, hg, _⟩
 ·cases hk
 ·cases hk
  exact hb

theorem Tryz.info_intS : (Tryz.prog.info? 3).map (fun i => (i.zero, i.size, i.bytes)) = some (some (.int .i64 0), 1, 8) := by kernel_rfl

theorem info_partsS {P : Program} {t : TypeId} {z : Option Value} {a b : Nat} (h : (P.info? t).map (fun i => (i.zero, i.size, i.bytes)) = some (z, a, b)) : ∃ i, P.info? t = some i ∧ i.zero = z ∧ i.size = a ∧ i.bytes = b := by
 cases hi : P.info? t with
 | none => rw [hi] at h; cases h
 | some i =>
  rw [hi] at h
  simp only [Option.map_some, Option.some.injEq, Prod.mk.injEq] at h
  exact ⟨i, rfl, h.1, h.2.1, h.2.2⟩

theorem min_max4 (a b c d : Int) : min4 a b c d ≤ max4 a b c d := by unfold min4 max4; omega
theorem hull_ok {a b c d : Int} (h : ckSp ⟨false, min4 a b c d, max4 a b c d⟩ = 0) : hull a b c d = ⟨false, min4 a b c d, max4 a b c d⟩ := by
 have := ckSp_ok.1 h
 exact hull_in this.1 this.2.1
theorem hull_no {a b c d : Int} (h : ckSp ⟨false, min4 a b c d, max4 a b c d⟩ ≠ 0) : hull a b c d = ⟨false, -2147483648, 2147483647⟩ := by
 unfold hull
 refine if_neg fun hc => h (ckSp_ok.2 ⟨hc.1, hc.2, (fun hn => by cases hn), min_max4 a b c d⟩)

/-- One element laid into a block of its own. -/
theorem news_one (w : World) (v : Value) (t : TypeId) : ∀ j u, [v][j]? = some u → (w.alloc (.cells #[v] t)).drew.cell? ((⟨w.heap.size, 0, none⟩ : Addr).add j) = some u := by
 intro j u hu
 have hadd : (⟨w.heap.size, 0, none⟩ : Addr).add j = ⟨w.heap.size, j, none⟩ := by unfold Addr.add; split <;> simp_all
 rw [hadd]
 have : (w.alloc (.cells #[v] t)).drew.cell? ⟨w.heap.size, j, none⟩ = #[v][j]? := by simp [go_sem]
 rw [this]
 simpa using hu
end
section
set_option maxHeartbeats 8000000
set_option maxRecDepth 100000
open Go.RowKit

theorem prf_db585f {p : Prop} (h : p := by
 go_wp2
 go_loopw [7, 11] (fun l k wr => ∃ J : Nat, J ≤ 2 ∧ k = .int .i64 J ∧ wr.ownsRow W.heap.size 3 1 l (0 + J) (([a, b, c, d].take (0 + J)).map (.int .i64)) ∧ Below W.heap.size W wr) (fun _ k _ => 2 - (intOf k).toNat)
 case atStart => exact ⟨0, by omega, rfl, hown, hbr⟩
 case round =>
  obtain ⟨J, hJ, rfl, hown1, hbr1⟩ := hrel
  clear hown hbr
  rcases (by omega : J = 0 ∨ J = 1 ∨ J = 2) with rfl | rfl | rfl
  ·go_wp2
   go_region_held_law (fun w' => w'.cell? ⟨ga, 0, none⟩ = some (.int .i64 lo) ∧ w'.cell? ⟨gb, 0, none⟩ = some (.int .i64 lo'))
    (first | exact K00 _ hbr1.drew | exact K00 _ (hbr1.alloc hbr1.size _).drew | exact K00 _ HBn)
    (first
     | (refine step_append_lies _ rfl _ _ 59 rfl W.heap.size 3 ti (.int .i64 0) 1 8 Tryz.underlying59 hi0 hz0 hz1 hz2 rfl (by decide) _ _ _ rfl ((hown1.alloc _).drew) ⟨wr.heap.size, 0, none⟩ 1 1 [.int .i64 a] rfl rfl (news_one _ _ _) (fun x hx => by simp at hx; subst hx; rfl) (by decide) (by unfold maxLen; omega) (by omega) (by simp; have := hbr1.size; omega) _ rfl ?_; intro g1 cap1 wn hownn hgrown hatn hltn; have HBn : Below W.heap.size W wn := (hbr1.alloc hbr1.size _).drew.grown hgrown (by simp; have := hbr1.size; omega) (fun j hj => ownsRow_lowS hown1 hj)))
   go_wp2
   go_roundw
   case rel => exact ⟨1, by omega, rfl, hownn, HBn⟩
   case measure => simp [intOf]
  ·go_wp2
   go_region_held_law (fun w' => w'.cell? ⟨ga, 0, none⟩ = some (.int .i64 lo) ∧ w'.cell? ⟨gb, 1, none⟩ = some (.int .i64 hi'))
    (first | exact K01 _ hbr1.drew | exact K01 _ (hbr1.alloc hbr1.size _).drew | exact K01 _ HBn)
    (first
     | (refine step_append_lies _ rfl _ _ 59 rfl W.heap.size 3 ti (.int .i64 0) 1 8 Tryz.underlying59 hi0 hz0 hz1 hz2 rfl (by decide) _ _ _ rfl ((hown1.alloc _).drew) ⟨wr.heap.size, 0, none⟩ 1 1 [.int .i64 b] rfl rfl (news_one _ _ _) (fun x hx => by simp at hx; subst hx; rfl) (by decide) (by unfold maxLen; omega) (by omega) (by simp; have := hbr1.size; omega) _ rfl ?_; intro g1 cap1 wn hownn hgrown hatn hltn; have HBn : Below W.heap.size W wn := (hbr1.alloc hbr1.size _).drew.grown hgrown (by simp; have := hbr1.size; omega) (fun j hj => ownsRow_lowS hown1 hj)))
   go_wp2
   go_roundw
   case rel => exact ⟨2, by omega, rfl, hownn, HBn⟩
   case measure => simp [intOf]
  ·go_wp2
   go_roundw
   case rel => exact ⟨1, by omega, rfl, hown1, hbr1⟩
   case measure => simp [intOf]) : p := h
theorem prf_7cd1c7 {p : Prop} (h : p := by
 go_wp2
 go_loopw [7, 11] (fun l k wr => ∃ J : Nat, J ≤ 2 ∧ k = .int .i64 J ∧ wr.ownsRow W.heap.size 3 1 l (2 + J) (([a, b, c, d].take (2 + J)).map (.int .i64)) ∧ Below W.heap.size W wr) (fun _ k _ => 2 - (intOf k).toNat)
 case atStart => exact ⟨0, by omega, rfl, hown, hbr⟩
 case round =>
  obtain ⟨J, hJ, rfl, hown1, hbr1⟩ := hrel
  clear hown hbr
  rcases (by omega : J = 0 ∨ J = 1 ∨ J = 2) with rfl | rfl | rfl
  ·go_wp2
   go_region_held_law (fun w' => w'.cell? ⟨ga, 1, none⟩ = some (.int .i64 hi) ∧ w'.cell? ⟨gb, 0, none⟩ = some (.int .i64 lo'))
    (first | exact K10 _ hbr1.drew | exact K10 _ (hbr1.alloc hbr1.size _).drew | exact K10 _ HBn)
    (first
     | (refine step_append_lies _ rfl _ _ 59 rfl W.heap.size 3 ti (.int .i64 0) 1 8 Tryz.underlying59 hi0 hz0 hz1 hz2 rfl (by decide) _ _ _ rfl ((hown1.alloc _).drew) ⟨wr.heap.size, 0, none⟩ 1 1 [.int .i64 c] rfl rfl (news_one _ _ _) (fun x hx => by simp at hx; subst hx; rfl) (by decide) (by unfold maxLen; omega) (by omega) (by simp; have := hbr1.size; omega) _ rfl ?_; intro g1 cap1 wn hownn hgrown hatn hltn; have HBn : Below W.heap.size W wn := (hbr1.alloc hbr1.size _).drew.grown hgrown (by simp; have := hbr1.size; omega) (fun j hj => ownsRow_lowS hown1 hj)))
   go_wp2
   go_roundw
   case rel => exact ⟨1, by omega, rfl, hownn, HBn⟩
   case measure => simp [intOf]
  ·go_wp2
   go_region_held_law (fun w' => w'.cell? ⟨ga, 1, none⟩ = some (.int .i64 hi) ∧ w'.cell? ⟨gb, 1, none⟩ = some (.int .i64 hi'))
    (first | exact K11 _ hbr1.drew | exact K11 _ (hbr1.alloc hbr1.size _).drew | exact K11 _ HBn)
    (first
     | (refine step_append_lies _ rfl _ _ 59 rfl W.heap.size 3 ti (.int .i64 0) 1 8 Tryz.underlying59 hi0 hz0 hz1 hz2 rfl (by decide) _ _ _ rfl ((hown1.alloc _).drew) ⟨wr.heap.size, 0, none⟩ 1 1 [.int .i64 d] rfl rfl (news_one _ _ _) (fun x hx => by simp at hx; subst hx; rfl) (by decide) (by unfold maxLen; omega) (by omega) (by simp; have := hbr1.size; omega) _ rfl ?_; intro g1 cap1 wn hownn hgrown hatn hltn; have HBn : Below W.heap.size W wn := (hbr1.alloc hbr1.size _).drew.grown hgrown (by simp; have := hbr1.size; omega) (fun j hj => ownsRow_lowS hown1 hj)))
   go_wp2
   go_roundw
   case rel => exact ⟨2, by omega, rfl, hownn, HBn⟩
   case measure => simp [intOf]
  ·go_wp2
   go_roundw
   case rel => exact ⟨2, by omega, rfl, hown1, hbr1⟩
   case measure => simp [intOf]) : p := h
theorem prf_125584 {p : Prop} (h : p := by
 obtain ⟨ti, hi0, hz0, hz1, hz2⟩ := info_partsS Tryz.info_intS
 go_enter Tryz.func63, Tryz.ntmps63
 go_wp2
 go_region_held3 (fun w' => w'.cell? ⟨w.heap.size, 1, none⟩ = some (.int .i64 lo) ∧ w'.cell? ⟨w.heap.size, 2, none⟩ = some (.int .i64 hi) ∧ w'.cell? ⟨w.heap.size + 1, 1, none⟩ = some (.int .i64 lo') ∧ w'.cell? ⟨w.heap.size + 1, 2, none⟩ = some (.int .i64 hi')) (simp [go_sem])
  (fail)
 ·have HB : Below w.heap.size w ((((((w.alloc (.cells #[.bool false, .int .i64 lo, .int .i64 hi] 58)).alloc (.cells #[.bool false, .int .i64 lo', .int .i64 hi'] 58)).alloc (.cells #[.bool false, .int .i64 0, .int .i64 0] 58)).alloc (.cells #[.int .i64 lo, .int .i64 hi] 3)).alloc (.cells #[.int .i64 lo', .int .i64 hi'] 3)).drew) := by go_grown
  have f0 : ((((((w.alloc (.cells #[.bool false, .int .i64 lo, .int .i64 hi] 58)).alloc (.cells #[.bool false, .int .i64 lo', .int .i64 hi'] 58)).alloc (.cells #[.bool false, .int .i64 0, .int .i64 0] 58)).alloc (.cells #[.int .i64 lo, .int .i64 hi] 3)).alloc (.cells #[.int .i64 lo', .int .i64 hi'] 3)).drew).cell? ⟨w.heap.size + 1 + 1 + 1, 0, none⟩ = some (.int .i64 lo) := by simp [go_sem]
  have f1 : ((((((w.alloc (.cells #[.bool false, .int .i64 lo, .int .i64 hi] 58)).alloc (.cells #[.bool false, .int .i64 lo', .int .i64 hi'] 58)).alloc (.cells #[.bool false, .int .i64 0, .int .i64 0] 58)).alloc (.cells #[.int .i64 lo, .int .i64 hi] 3)).alloc (.cells #[.int .i64 lo', .int .i64 hi'] 3)).drew).cell? ⟨w.heap.size + 1 + 1 + 1, 1, none⟩ = some (.int .i64 hi) := by simp [go_sem]
  have f2 : ((((((w.alloc (.cells #[.bool false, .int .i64 lo, .int .i64 hi] 58)).alloc (.cells #[.bool false, .int .i64 lo', .int .i64 hi'] 58)).alloc (.cells #[.bool false, .int .i64 0, .int .i64 0] 58)).alloc (.cells #[.int .i64 lo, .int .i64 hi] 3)).alloc (.cells #[.int .i64 lo', .int .i64 hi'] 3)).drew).cell? ⟨w.heap.size + 1 + 1 + 1 + 1, 0, none⟩ = some (.int .i64 lo') := by simp [go_sem]
  have f3 : ((((((w.alloc (.cells #[.bool false, .int .i64 lo, .int .i64 hi] 58)).alloc (.cells #[.bool false, .int .i64 lo', .int .i64 hi'] 58)).alloc (.cells #[.bool false, .int .i64 0, .int .i64 0] 58)).alloc (.cells #[.int .i64 lo, .int .i64 hi] 3)).alloc (.cells #[.int .i64 lo', .int .i64 hi'] 3)).drew).cell? ⟨w.heap.size + 1 + 1 + 1 + 1, 1, none⟩ = some (.int .i64 hi') := by simp [go_sem]
  have zz : ((((((w.alloc (.cells #[.bool false, .int .i64 lo, .int .i64 hi] 58)).alloc (.cells #[.bool false, .int .i64 lo', .int .i64 hi'] 58)).alloc (.cells #[.bool false, .int .i64 0, .int .i64 0] 58)).alloc (.cells #[.int .i64 lo, .int .i64 hi] 3)).alloc (.cells #[.int .i64 lo', .int .i64 hi'] 3)).drew).heap.size = w.heap.size + 5 := by simp
  have za : w.heap.size + 1 + 1 + 1 < ((((((w.alloc (.cells #[.bool false, .int .i64 lo, .int .i64 hi] 58)).alloc (.cells #[.bool false, .int .i64 lo', .int .i64 hi'] 58)).alloc (.cells #[.bool false, .int .i64 0, .int .i64 0] 58)).alloc (.cells #[.int .i64 lo, .int .i64 hi] 3)).alloc (.cells #[.int .i64 lo', .int .i64 hi'] 3)).drew).heap.size := by simp
  have zb : w.heap.size + 1 + 1 + 1 + 1 < ((((((w.alloc (.cells #[.bool false, .int .i64 lo, .int .i64 hi] 58)).alloc (.cells #[.bool false, .int .i64 lo', .int .i64 hi'] 58)).alloc (.cells #[.bool false, .int .i64 0, .int .i64 0] 58)).alloc (.cells #[.int .i64 lo, .int .i64 hi] 3)).alloc (.cells #[.int .i64 lo', .int .i64 hi'] 3)).drew).heap.size := by simp
  have KR : ∀ wx, Below ((((((w.alloc (.cells #[.bool false, .int .i64 lo, .int .i64 hi] 58)).alloc (.cells #[.bool false, .int .i64 lo', .int .i64 hi'] 58)).alloc (.cells #[.bool false, .int .i64 0, .int .i64 0] 58)).alloc (.cells #[.int .i64 lo, .int .i64 hi] 3)).alloc (.cells #[.int .i64 lo', .int .i64 hi'] 3)).drew).heap.size ((((((w.alloc (.cells #[.bool false, .int .i64 lo, .int .i64 hi] 58)).alloc (.cells #[.bool false, .int .i64 lo', .int .i64 hi'] 58)).alloc (.cells #[.bool false, .int .i64 0, .int .i64 0] 58)).alloc (.cells #[.int .i64 lo, .int .i64 hi] 3)).alloc (.cells #[.int .i64 lo', .int .i64 hi'] 3)).drew) wx → wx.cell? ⟨w.heap.size + 1 + 1, 0, none⟩ = some (.bool false) ∧ wx.cell? ⟨w.heap.size + 1 + 1, 1, none⟩ = some (.int .i64 0) ∧ wx.cell? ⟨w.heap.size + 1 + 1, 2, none⟩ = some (.int .i64 0) ∧ wx.frozen? ⟨w.heap.size + 1 + 1, 0, none⟩ = false ∧ wx.frozen? ⟨w.heap.size + 1 + 1, 1, none⟩ = false ∧ wx.frozen? ⟨w.heap.size + 1 + 1, 2, none⟩ = false := by
   intro wx hb
   rw [hb.cell (by simp), hb.cell (by simp), hb.cell (by simp), hb.frozen (by simp), hb.frozen (by simp), hb.frozen (by simp)]
   simp [go_sem]
  generalize ((((((w.alloc (.cells #[.bool false, .int .i64 lo, .int .i64 hi] 58)).alloc (.cells #[.bool false, .int .i64 lo', .int .i64 hi'] 58)).alloc (.cells #[.bool false, .int .i64 0, .int .i64 0] 58)).alloc (.cells #[.int .i64 lo, .int .i64 hi] 3)).alloc (.cells #[.int .i64 lo', .int .i64 hi'] 3)).drew) = W at HB f0 f1 f2 f3 zz za zb KR ⊢
  generalize w.heap.size + 1 + 1 + 1 + 1 = gb at f2 f3 zb ⊢
  generalize w.heap.size + 1 + 1 + 1 = ga at f0 f1 za ⊢
  have K : ∀ wx, Below W.heap.size W wx → wx.cell? ⟨ga, 0, none⟩ = some (.int .i64 lo) ∧ wx.cell? ⟨ga, 1, none⟩ = some (.int .i64 hi) ∧ wx.cell? ⟨gb, 0, none⟩ = some (.int .i64 lo') ∧ wx.cell? ⟨gb, 1, none⟩ = some (.int .i64 hi') := by
   intro wx hb
   rw [hb.cell za, hb.cell za, hb.cell zb, hb.cell zb]
   exact ⟨f0, f1, f2, f3⟩
  have K00 := fun wx hb => (show _ ∧ _ from ⟨(K wx hb).1, (K wx hb).2.2.1⟩)
  have K01 := fun wx hb => (show _ ∧ _ from ⟨(K wx hb).1, (K wx hb).2.2.2⟩)
  have K10 := fun wx hb => (show _ ∧ _ from ⟨(K wx hb).2.1, (K wx hb).2.2.1⟩)
  have K11 := fun wx hb => (show _ ∧ _ from ⟨(K wx hb).2.1, (K wx hb).2.2.2⟩)
  clear K f0 f1 f2 f3
  go_wp2
  go_loopw [7, 10] (fun l i wr => ∃ I : Nat, I ≤ 2 ∧ i = .int .i64 I ∧ wr.ownsRow W.heap.size 3 1 l (2 * I) (([a, b, c, d].take (2 * I)).map (.int .i64)) ∧ Below W.heap.size W wr) (fun _ i _ => 2 - (intOf i).toNat)
  case atStart => exact ⟨0, by omega, rfl, ⟨by simp, .inl ⟨rfl, by simp⟩⟩, Below.refl _ _⟩
  case round =>
   obtain ⟨I, hI, rfl, hown, hbr⟩ := hrel
   rcases (by omega : I = 0 ∨ I = 1 ∨ I = 2) with rfl | rfl | rfl
   ·rw [show ((0 : Nat) : Int) = 0 from rfl]
    exact prf_db585f
   ·rw [show ((1 : Nat) : Int) = 1 from rfl]
    exact prf_7cd1c7
   ·clear K00 K01 K10 K11
    rw [show 2 * 2 = 4 from rfl] at hown
    obtain ⟨g, cap, rfl, hg1, hg2⟩ := hown.form (by omega)
    have q0 := hown.cellAt 0 (by omega)
    have q1 := hown.cellAt 1 (by omega)
    have q2 := hown.cellAt 2 (by omega)
    have q3 := hown.cellAt 3 (by omega)
    simp only [List.take, List.map, List.getElem?_cons_zero, List.getElem?_cons_succ] at q0 q1 q2 q3
    clear hown
    clear h1 h2 h3 h4
    go_wp2_with (first
     | (go_at_call 94; refine (least4 _ _ a b c d _ q0 q1 q2 q3).mono ?_; rintro e w' ⟨rfl, rfl⟩)
     | (go_at_call 95; refine (most4 _ _ a b c d _ q0 q1 q2 q3).mono ?_; rintro e w' ⟨rfl, rfl⟩)
     | (go_at_call 93; fail))
    refine (checkSpan_any ⟨false, min4 a b c d, max4 a b c d⟩ _).mono ?_
    rintro e w5 ⟨rfl, hb5⟩
    have HB5 : Below W.heap.size W w5 := (hbr.alloc hbr.size _).trans (hb5.mono (by simp; have := hbr.size; omega))
    have H5 : Below w.heap.size w w5 := HB.trans (HB5.mono (by omega))
    obtain ⟨r0, r1, r2, k0, k1, k2⟩ := KR w5 HB5
    obtain ⟨o0, o1, o2⟩ := sp_cells hb5 (by simp)
    have y1 : w'.heap.size < w5.heap.size := by have := hb5.size; simp at this; omega
    have y2 : w.heap.size + 1 + 1 < w'.heap.size := by have := hbr.size; omega
    clear KR hb5 HB5 hbr HB q0 q1 q2 q3
    by_cases hc : ckSp ⟨false, min4 a b c d, max4 a b c d⟩ = 0
    ·rw [hc]
     have hH := hull_ok hc
     generalize min4 a b c d = mn at *
     generalize max4 a b c d = mx at *
     go_wp2
     refine bodyPost_ret (v := sv ⟨false, mn, mx⟩) (by simp [results, Tryz.results63, go_sem, r0, r1, r2]) rfl ⟨by rw [hH], ?_⟩
     exact ((H5.setCell (by simp; omega) _).setCell (by simp; omega) _).setCell (by simp; omega) _
    ·have hH := hull_no hc
     generalize ckSp ⟨false, min4 a b c d, max4 a b c d⟩ = ck at *
     generalize min4 a b c d = mn at *
     generalize max4 a b c d = mx at *
     go_wp2
     refine bodyPost_ret (v := sv ⟨false, -2147483648, 2147483647⟩) (by simp [results, Tryz.results63, go_sem, r0, r1, r2]) rfl ⟨by rw [hH], ?_⟩
     exact ((H5.setCell (by simp; omega) _).setCell (by simp; omega) _).setCell (by simp; omega) _
 ·have HB : Below w.heap.size w ((((((w.alloc (.cells #[.bool false, .int .i64 lo, .int .i64 hi] 58)).alloc (.cells #[.bool false, .int .i64 lo', .int .i64 hi'] 58)).alloc (.cells #[.bool false, .int .i64 0, .int .i64 0] 58)).alloc (.cells #[.int .i64 lo', .int .i64 hi'] 3)).alloc (.cells #[.int .i64 lo, .int .i64 hi] 3)).drew) := by go_grown
  have f0 : ((((((w.alloc (.cells #[.bool false, .int .i64 lo, .int .i64 hi] 58)).alloc (.cells #[.bool false, .int .i64 lo', .int .i64 hi'] 58)).alloc (.cells #[.bool false, .int .i64 0, .int .i64 0] 58)).alloc (.cells #[.int .i64 lo', .int .i64 hi'] 3)).alloc (.cells #[.int .i64 lo, .int .i64 hi] 3)).drew).cell? ⟨w.heap.size + 1 + 1 + 1 + 1, 0, none⟩ = some (.int .i64 lo) := by simp [go_sem]
  have f1 : ((((((w.alloc (.cells #[.bool false, .int .i64 lo, .int .i64 hi] 58)).alloc (.cells #[.bool false, .int .i64 lo', .int .i64 hi'] 58)).alloc (.cells #[.bool false, .int .i64 0, .int .i64 0] 58)).alloc (.cells #[.int .i64 lo', .int .i64 hi'] 3)).alloc (.cells #[.int .i64 lo, .int .i64 hi] 3)).drew).cell? ⟨w.heap.size + 1 + 1 + 1 + 1, 1, none⟩ = some (.int .i64 hi) := by simp [go_sem]
  have f2 : ((((((w.alloc (.cells #[.bool false, .int .i64 lo, .int .i64 hi] 58)).alloc (.cells #[.bool false, .int .i64 lo', .int .i64 hi'] 58)).alloc (.cells #[.bool false, .int .i64 0, .int .i64 0] 58)).alloc (.cells #[.int .i64 lo', .int .i64 hi'] 3)).alloc (.cells #[.int .i64 lo, .int .i64 hi] 3)).drew).cell? ⟨w.heap.size + 1 + 1 + 1, 0, none⟩ = some (.int .i64 lo') := by simp [go_sem]
  have f3 : ((((((w.alloc (.cells #[.bool false, .int .i64 lo, .int .i64 hi] 58)).alloc (.cells #[.bool false, .int .i64 lo', .int .i64 hi'] 58)).alloc (.cells #[.bool false, .int .i64 0, .int .i64 0] 58)).alloc (.cells #[.int .i64 lo', .int .i64 hi'] 3)).alloc (.cells #[.int .i64 lo, .int .i64 hi] 3)).drew).cell? ⟨w.heap.size + 1 + 1 + 1, 1, none⟩ = some (.int .i64 hi') := by simp [go_sem]
  have zz : ((((((w.alloc (.cells #[.bool false, .int .i64 lo, .int .i64 hi] 58)).alloc (.cells #[.bool false, .int .i64 lo', .int .i64 hi'] 58)).alloc (.cells #[.bool false, .int .i64 0, .int .i64 0] 58)).alloc (.cells #[.int .i64 lo', .int .i64 hi'] 3)).alloc (.cells #[.int .i64 lo, .int .i64 hi] 3)).drew).heap.size = w.heap.size + 5 := by simp
  have za : w.heap.size + 1 + 1 + 1 + 1 < ((((((w.alloc (.cells #[.bool false, .int .i64 lo, .int .i64 hi] 58)).alloc (.cells #[.bool false, .int .i64 lo', .int .i64 hi'] 58)).alloc (.cells #[.bool false, .int .i64 0, .int .i64 0] 58)).alloc (.cells #[.int .i64 lo', .int .i64 hi'] 3)).alloc (.cells #[.int .i64 lo, .int .i64 hi] 3)).drew).heap.size := by simp
  have zb : w.heap.size + 1 + 1 + 1 < ((((((w.alloc (.cells #[.bool false, .int .i64 lo, .int .i64 hi] 58)).alloc (.cells #[.bool false, .int .i64 lo', .int .i64 hi'] 58)).alloc (.cells #[.bool false, .int .i64 0, .int .i64 0] 58)).alloc (.cells #[.int .i64 lo', .int .i64 hi'] 3)).alloc (.cells #[.int .i64 lo, .int .i64 hi] 3)).drew).heap.size := by simp
  have KR : ∀ wx, Below ((((((w.alloc (.cells #[.bool false, .int .i64 lo, .int .i64 hi] 58)).alloc (.cells #[.bool false, .int .i64 lo', .int .i64 hi'] 58)).alloc (.cells #[.bool false, .int .i64 0, .int .i64 0] 58)).alloc (.cells #[.int .i64 lo', .int .i64 hi'] 3)).alloc (.cells #[.int .i64 lo, .int .i64 hi] 3)).drew).heap.size ((((((w.alloc (.cells #[.bool false, .int .i64 lo, .int .i64 hi] 58)).alloc (.cells #[.bool false, .int .i64 lo', .int .i64 hi'] 58)).alloc (.cells #[.bool false, .int .i64 0, .int .i64 0] 58)).alloc (.cells #[.int .i64 lo', .int .i64 hi'] 3)).alloc (.cells #[.int .i64 lo, .int .i64 hi] 3)).drew) wx → wx.cell? ⟨w.heap.size + 1 + 1, 0, none⟩ = some (.bool false) ∧ wx.cell? ⟨w.heap.size + 1 + 1, 1, none⟩ = some (.int .i64 0) ∧ wx.cell? ⟨w.heap.size + 1 + 1, 2, none⟩ = some (.int .i64 0) ∧ wx.frozen? ⟨w.heap.size + 1 + 1, 0, none⟩ = false ∧ wx.frozen? ⟨w.heap.size + 1 + 1, 1, none⟩ = false ∧ wx.frozen? ⟨w.heap.size + 1 + 1, 2, none⟩ = false := by
   intro wx hb
   rw [hb.cell (by simp), hb.cell (by simp), hb.cell (by simp), hb.frozen (by simp), hb.frozen (by simp), hb.frozen (by simp)]
   simp [go_sem]
  generalize ((((((w.alloc (.cells #[.bool false, .int .i64 lo, .int .i64 hi] 58)).alloc (.cells #[.bool false, .int .i64 lo', .int .i64 hi'] 58)).alloc (.cells #[.bool false, .int .i64 0, .int .i64 0] 58)).alloc (.cells #[.int .i64 lo', .int .i64 hi'] 3)).alloc (.cells #[.int .i64 lo, .int .i64 hi] 3)).drew) = W at HB f0 f1 f2 f3 zz za zb KR ⊢
  generalize w.heap.size + 1 + 1 + 1 + 1 = ga at f0 f1 za ⊢
  generalize w.heap.size + 1 + 1 + 1 = gb at f2 f3 zb ⊢
  have K : ∀ wx, Below W.heap.size W wx → wx.cell? ⟨ga, 0, none⟩ = some (.int .i64 lo) ∧ wx.cell? ⟨ga, 1, none⟩ = some (.int .i64 hi) ∧ wx.cell? ⟨gb, 0, none⟩ = some (.int .i64 lo') ∧ wx.cell? ⟨gb, 1, none⟩ = some (.int .i64 hi') := by
   intro wx hb
   rw [hb.cell za, hb.cell za, hb.cell zb, hb.cell zb]
   exact ⟨f0, f1, f2, f3⟩
  have K00 := fun wx hb => (show _ ∧ _ from ⟨(K wx hb).1, (K wx hb).2.2.1⟩)
  have K01 := fun wx hb => (show _ ∧ _ from ⟨(K wx hb).1, (K wx hb).2.2.2⟩)
  have K10 := fun wx hb => (show _ ∧ _ from ⟨(K wx hb).2.1, (K wx hb).2.2.1⟩)
  have K11 := fun wx hb => (show _ ∧ _ from ⟨(K wx hb).2.1, (K wx hb).2.2.2⟩)
  clear K f0 f1 f2 f3
  go_wp2
  go_loopw [7, 10] (fun l i wr => ∃ I : Nat, I ≤ 2 ∧ i = .int .i64 I ∧ wr.ownsRow W.heap.size 3 1 l (2 * I) (([a, b, c, d].take (2 * I)).map (.int .i64)) ∧ Below W.heap.size W wr) (fun _ i _ => 2 - (intOf i).toNat)
  case atStart => exact ⟨0, by omega, rfl, ⟨by simp, .inl ⟨rfl, by simp⟩⟩, Below.refl _ _⟩
  case round =>
   obtain ⟨I, hI, rfl, hown, hbr⟩ := hrel
   rcases (by omega : I = 0 ∨ I = 1 ∨ I = 2) with rfl | rfl | rfl
   ·rw [show ((0 : Nat) : Int) = 0 from rfl]
    exact prf_db585f
   ·rw [show ((1 : Nat) : Int) = 1 from rfl]
    exact prf_7cd1c7
   ·clear K00 K01 K10 K11
    rw [show 2 * 2 = 4 from rfl] at hown
    obtain ⟨g, cap, rfl, hg1, hg2⟩ := hown.form (by omega)
    have q0 := hown.cellAt 0 (by omega)
    have q1 := hown.cellAt 1 (by omega)
    have q2 := hown.cellAt 2 (by omega)
    have q3 := hown.cellAt 3 (by omega)
    simp only [List.take, List.map, List.getElem?_cons_zero, List.getElem?_cons_succ] at q0 q1 q2 q3
    clear hown
    clear h1 h2 h3 h4
    go_wp2_with (first
     | (go_at_call 94; refine (least4 _ _ a b c d _ q0 q1 q2 q3).mono ?_; rintro e w' ⟨rfl, rfl⟩)
     | (go_at_call 95; refine (most4 _ _ a b c d _ q0 q1 q2 q3).mono ?_; rintro e w' ⟨rfl, rfl⟩)
     | (go_at_call 93; fail))
    refine (checkSpan_any ⟨false, min4 a b c d, max4 a b c d⟩ _).mono ?_
    rintro e w5 ⟨rfl, hb5⟩
    have HB5 : Below W.heap.size W w5 := (hbr.alloc hbr.size _).trans (hb5.mono (by simp; have := hbr.size; omega))
    have H5 : Below w.heap.size w w5 := HB.trans (HB5.mono (by omega))
    obtain ⟨r0, r1, r2, k0, k1, k2⟩ := KR w5 HB5
    obtain ⟨o0, o1, o2⟩ := sp_cells hb5 (by simp)
    have y1 : w'.heap.size < w5.heap.size := by have := hb5.size; simp at this; omega
    have y2 : w.heap.size + 1 + 1 < w'.heap.size := by have := hbr.size; omega
    clear KR hb5 HB5 hbr HB q0 q1 q2 q3
    by_cases hc : ckSp ⟨false, min4 a b c d, max4 a b c d⟩ = 0
    ·rw [hc]
     have hH := hull_ok hc
     generalize min4 a b c d = mn at *
     generalize max4 a b c d = mx at *
     go_wp2
     refine bodyPost_ret (v := sv ⟨false, mn, mx⟩) (by simp [results, Tryz.results63, go_sem, r0, r1, r2]) rfl ⟨by rw [hH], ?_⟩
     exact ((H5.setCell (by simp; omega) _).setCell (by simp; omega) _).setCell (by simp; omega) _
    ·have hH := hull_no hc
     generalize ckSp ⟨false, min4 a b c d, max4 a b c d⟩ = ck at *
     generalize min4 a b c d = mn at *
     generalize max4 a b c d = mx at *
     go_wp2
     refine bodyPost_ret (v := sv ⟨false, -2147483648, 2147483647⟩) (by simp [results, Tryz.results63, go_sem, r0, r1, r2]) rfl ⟨by rw [hH], ?_⟩
     exact ((H5.setCell (by simp; omega) _).setCell (by simp; omega) _).setCell (by simp; omega) _) : p := h
theorem doSpan_add (lo hi lo' hi' a b c d : Int) (w : World) (h1 : IntKind.i64.wrap (lo + lo') = a) (h2 : IntKind.i64.wrap (lo + hi') = b) (h3 : IntKind.i64.wrap (hi + lo') = c) (h4 : IntKind.i64.wrap (hi + hi') = d) :
  Calls Tryz.prog 63 #[.int .i64 5, sv ⟨false, lo, hi⟩, sv ⟨false, lo', hi'⟩] w fun e w' => e = .returned (sv (hull a b c d)) ∧ Below w.heap.size w w' := prf_125584
end
end Go.Proofs.YtmapdpcfanecdabGreat
