/- Walks over the document's own answers on spans: DoSpan. -/
import Derived.Test.YtmapdpcfanecdabGreatKstpxp01
import Derived.Test.YtmapdpcfanecdabGreatKstpxp04
import Derived.Test.YtmapdpcfanecdabGreatKstpxp05
import Derived.Test.YtmapdpcfanecdabGreatKstpxp06
import Derived.Test.YtmapdpcfanecdabGreatKstpxp07
import Derived.Deep.RegionHeld3
import Derived.Test.YtmapdpcfanecdabGreatKstpxp10
import Derived.Test.YtmapdpcfanecdabGreatKstpxp11
import Derived.Test.YtmapdpcfanecdabGreatKstpxp12
import Derived.Test.YtmapdpcfanecdabGreatKstpxp09
import Derived.Deep.AppendLies
import Derived.Deep.RegionHeldLaw
import Derived.Laws.OwnMore
set_option linter.unusedSimpArgs false
set_option linter.unusedVariables false
namespace Go.Proofs.YtmapdpcfanecdabGreat
section
set_option maxHeartbeats 1000000
open Go.RowKit

theorem checkOne_any (V F : Int) (s : Option Addr) (len cap : Nat) (i : Ins) (w : World) (hV : 1 ≤ V) (hV' : V ≤ 8) (hF : 0 ≤ F) (hF' : F ≤ 3) (hL : len ≤ 60) :
  Calls Tryz.prog 39 #[.agg #[.int .i64 V, .int .i64 F, .slice s len cap], .agg #[.int .i64 i.k, .int .i64 i.tgt, .int .i64 i.a, .int .i64 i.b, .int .i64 i.n, .int .i64 i.g]] w fun e w' => e = .returned (.int .i64 (ckOne V F len i)) ∧ Below w.heap.size w w' := by
 obtain ⟨k, tto, a, b, n, g⟩ := i
 by_cases h : btw k 1 19 = true
 ·rcases btw_cases h with rfl | rfl | rfl | rfl | rfl | rfl | rfl | rfl | rfl | rfl | rfl | rfl | rfl | rfl | rfl | rfl | rfl | rfl | rfl
  ·exact checkOne_1 V F s len cap tto a b n g w hV hV' hF hF' hL
  ·exact checkOne_2 V F s len cap tto a b n g w hV hV' hF hF' hL
  ·exact checkOne_3 V F s len cap tto a b n g w hV hV' hF hF' hL
  ·exact checkOne_4 V F s len cap tto a b n g w hV hV' hF hF' hL
  ·exact checkOne_5 V F s len cap tto a b n g w hV hV' hF hF' hL
  ·exact checkOne_6 V F s len cap tto a b n g w hV hV' hF hF' hL
  ·exact checkOne_7 V F s len cap tto a b n g w hV hV' hF hF' hL
  ·exact checkOne_8 V F s len cap tto a b n g w hV hV' hF hF' hL
  ·exact checkOne_9 V F s len cap tto a b n g w hV hV' hF hF' hL
  ·exact checkOne_10 V F s len cap tto a b n g w hV hV' hF hF' hL
  ·exact checkOne_11 V F s len cap tto a b n g w hV hV' hF hF' hL
  ·exact checkOne_12 V F s len cap tto a b n g w hV hV' hF hF' hL
  ·exact checkOne_13 V F s len cap tto a b n g w hV hV' hF hF' hL
  ·exact checkOne_14 V F s len cap tto a b n g w hV hV' hF hF' hL
  ·exact checkOne_15 V F s len cap tto a b n g w hV hV' hF hF' hL
  ·exact checkOne_16 V F s len cap tto a b n g w hV hV' hF hF' hL
  ·exact checkOne_17 V F s len cap tto a b n g w hV hV' hF hF' hL
  ·exact checkOne_18 V F s len cap tto a b n g w hV hV' hF hF' hL
  ·exact checkOne_19 V F s len cap tto a b n g w hV hV' hF hF' hL
 ·exact checkOne_no V F s len cap k tto a b n g w hV hV' hF hF' hL (by simpa using h)

theorem ckAll_step {V F L : Int} {c : List Ins} {k : Nat} (h : k < c.length) : ckAll V F L (c.drop k) = if ckOne V F L c[k] = 0 then ckAll V F L (c.drop (k + 1)) else ckOne V F L c[k] := by
 rw [List.drop_eq_getElem_cons h]; rfl

theorem checkProgram_loop (V F : Int) (b off cap : Nat) (c : List Ins) (w : World) (hV : 1 ≤ V) (hV' : V ≤ 8) (hF : 0 ≤ F) (hF' : F ≤ 3) (hL : c.length ≤ 60) (hb : b < w.heap.size) (hc : ∀ k (h : k < c.length), InsAt w b (off + k * 6) c[k]) :
  Calls Tryz.prog 12 #[.agg #[.int .i64 V, .int .i64 F, .slice (some ⟨b, off, none⟩) c.length cap]] w fun e w' => e = .returned (.int .i64 (ckAll V F c.length c)) ∧ Below w.heap.size w w' := by
 have t1 : btw V 1 8 = true := btw_true hV hV'
 have t2 : btw F 0 3 = true := btw_true hF hF'
 go_enter Tryz.func12, Tryz.ntmps12
 go_wp2_with (go_at_call 38; refine (between_any _ _ _ _).mono ?_; rintro e w' ⟨rfl, rfl⟩)
 go_loopw [3] (fun i wr => ∃ k : Nat, k ≤ c.length ∧ i = .int .i64 k ∧ Below (w.heap.size + 1) (w.alloc (.cells #[.int .i64 V, .int .i64 F, .slice (some ⟨b, off, none⟩) c.length cap] 24)) wr ∧ Hid (ckAll V F c.length (c.drop k) = ckAll V F c.length c)) (fun i _ => c.length - (intOf i).toNat)
 case atStart => exact ⟨0, Nat.zero_le _, rfl, Below.refl _ _, rfl⟩
 case round =>
  obtain ⟨k, hk, rfl, hbr, HR⟩ := hrel
  have q0 : wr.cell? ⟨w.heap.size, 0, none⟩ = some (.int .i64 V) := by rw [hbr.cell (by simp)]; simp [go_sem]
  have q1 : wr.cell? ⟨w.heap.size, 1, none⟩ = some (.int .i64 F) := by rw [hbr.cell (by simp)]; simp [go_sem]
  have q2 : wr.cell? ⟨w.heap.size, 2, none⟩ = some (.slice (some ⟨b, off, none⟩) c.length cap) := by rw [hbr.cell (by simp)]; simp [go_sem]
  have s1 : w.heap.size < wr.heap.size := by have := hbr.size; simp at this; omega
  have s2 : b < wr.heap.size := by omega
  by_cases hlt : k < c.length
  ·have hi : InsAt wr b (off + k * 6) c[k] := ((hc k hlt).below (Below.alloc (Below.refl w.heap.size w) (Nat.le_refl _) _) hb).below hbr (by omega)
   obtain ⟨i0, i1, i2, i3, i4, i5⟩ := hi
   have n0 : (0 : Int) ≤ (k : Int) := by omega
   have n1 : (k : Int) < (c.length : Int) := by omega
   go_wp2
   go_region_held3 (fun w' => w'.cell? ⟨w.heap.size, 0, none⟩ = some (.int .i64 V) ∧ w'.cell? ⟨w.heap.size, 1, none⟩ = some (.int .i64 F) ∧ w'.cell? ⟨w.heap.size, 2, none⟩ = some (.slice (some ⟨b, off, none⟩) c.length cap)
    ∧ w'.cell? ⟨b, off + k * 6, none⟩ = some (.int .i64 c[k].k) ∧ w'.cell? ⟨b, off + k * 6 + 1, none⟩ = some (.int .i64 c[k].tgt) ∧ w'.cell? ⟨b, off + k * 6 + 2, none⟩ = some (.int .i64 c[k].a) ∧ w'.cell? ⟨b, off + k * 6 + 3, none⟩ = some (.int .i64 c[k].b) ∧ w'.cell? ⟨b, off + k * 6 + 4, none⟩ = some (.int .i64 c[k].n) ∧ w'.cell? ⟨b, off + k * 6 + 5, none⟩ = some (.int .i64 c[k].g))
    (first | (simp only [World.cell?_drew, q0, q1, q2, i0, i1, i2, i3, i4, i5, and_self]; done) | (simp only [hc1 _ _ (show _ < wr.drew.heap.size from s1), hc1 _ _ (show b < wr.drew.heap.size from s2), World.cell?_drew, q0, q1, q2, i0, i1, i2, i3, i4, i5, and_self]; done))
    ((go_at_call 39; refine (checkOne_any V F _ _ _ c[k] _ hV hV' hF hF' hL).mono ?_; rintro e w1 ⟨rfl, hb1⟩; obtain ⟨hc1, hf1⟩ := bcell hb1))
   clear hc1 hf1
   have HB : Below (w.heap.size + 1) (w.alloc (.cells #[.int .i64 V, .int .i64 F, .slice (some ⟨b, off, none⟩) c.length cap] 24)) w1 := hbr.drew.trans (Below.mono hb1 (show w.heap.size + 1 ≤ wr.heap.size by omega))
   have HS := ckAll_step (V := V) (F := F) (L := c.length) hlt
   by_cases hz : ckOne V F c.length c[k] = 0
   ·rw [hz]
    go_wp2
    go_roundw
    case rel => exact ⟨k + 1, by omega, by go_num, HB, by have := HR.out; rw [HS, if_pos hz] at this; exact this⟩
    case measure => simp [intOf]; omega
   ·rw [if_neg hz] at HS
    have hz' : (ckOne V F c.length c[k] != 0) = true := by simpa using hz
    go_wp2
    go_ret
    exact ⟨ret_int (by have := HR.out; rw [HS] at this; exact this), (Below.alloc (Below.refl _ _) (Nat.le_refl _) _).trans (HB.mono (by omega))⟩
  ·go_wp2
   go_ret
   exact ⟨ret_int (by have := HR.out; rw [List.drop_eq_nil_of_le (by omega)] at this; exact this), (Below.alloc (Below.refl _ _) (Nat.le_refl _) _).trans (hbr.mono (by omega))⟩

theorem checkProgram_nil (V F : Int) (s : Option Addr) (cap : Nat) (w : World) (hV : 1 ≤ V) (hV' : V ≤ 8) (hF : 0 ≤ F) (hF' : F ≤ 3) :
  Calls Tryz.prog 12 #[.agg #[.int .i64 V, .int .i64 F, .slice s 0 cap]] w fun e w' => e = .returned (.int .i64 0) ∧ Below w.heap.size w w' := by
 have t1 : btw V 1 8 = true := btw_true hV hV'
 have t2 : btw F 0 3 = true := btw_true hF hF'
 go_enter Tryz.func12, Tryz.ntmps12
 go_wp2_with (go_at_call 38; refine (between_any _ _ _ _).mono ?_; rintro e w' ⟨rfl, rfl⟩)
 go_rounds 1
 go_ret
 exact ⟨rfl, by go_grown⟩

theorem checkProgram_many (V F : Int) (s : Option Addr) (len cap : Nat) (w : World) (hV : 1 ≤ V) (hV' : V ≤ 8) (hF : 0 ≤ F) (hF' : F ≤ 3) (hl : 60 < len) :
  Calls Tryz.prog 12 #[.agg #[.int .i64 V, .int .i64 F, .slice s len cap]] w fun e w' => e = .returned (.int .i64 2) ∧ Below w.heap.size w w' := by
 have t1 : btw V 1 8 = true := btw_true hV hV'
 have t2 : btw F 0 3 = true := btw_true hF hF'
 have t3 : (60 : Int) < (len : Int) := by omega
 go_enter Tryz.func12, Tryz.ntmps12
 go_wp2_with (go_at_call 38; refine (between_any _ _ _ _).mono ?_; rintro e w' ⟨rfl, rfl⟩)
 go_ret
 exact ⟨rfl, by go_grown⟩

theorem checkProgram_vars (V F : Int) (s : Option Addr) (len cap : Nat) (w : World) (t1 : btw V 1 8 = false) :
  Calls Tryz.prog 12 #[.agg #[.int .i64 V, .int .i64 F, .slice s len cap]] w fun e w' => e = .returned (.int .i64 3) ∧ Below w.heap.size w w' := by
 go_enter Tryz.func12, Tryz.ntmps12
 go_wp2_with (go_at_call 38; refine (between_any _ _ _ _).mono ?_; rintro e w' ⟨rfl, rfl⟩)
 go_ret
 exact ⟨rfl, by go_grown⟩

theorem checkProgram_fields (V F : Int) (s : Option Addr) (len cap : Nat) (w : World) (t1 : btw V 1 8 = true) (t2 : btw F 0 3 = false) :
  Calls Tryz.prog 12 #[.agg #[.int .i64 V, .int .i64 F, .slice s len cap]] w fun e w' => e = .returned (.int .i64 3) ∧ Below w.heap.size w w' := by
 go_enter Tryz.func12, Tryz.ntmps12
 go_wp2_with (go_at_call 38; refine (between_any _ _ _ _).mono ?_; rintro e w' ⟨rfl, rfl⟩)
 go_ret
 exact ⟨rfl, by go_grown⟩

/-- The reference's check of a program, whatever it is handed. -/
theorem checkProgram_any (V F : Int) (s : Option Addr) (cap : Nat) (c : List Ins) (w : World) (h : CodeAt w s c) :
  Calls Tryz.prog 12 #[.agg #[.int .i64 V, .int .i64 F, .slice s c.length cap]] w fun e w' => e = .returned (.int .i64 (ckProg V F c)) ∧ Below w.heap.size w w' := by
 unfold ckProg
 cases t1 : btw V 1 8 with
 | false => simpa using checkProgram_vars V F s c.length cap w t1
 | true =>
  cases t2 : btw F 0 3 with
  | false => simpa using checkProgram_fields V F s c.length cap w t1 t2
  | true =>
   have ⟨hV, hV'⟩ : 1 ≤ V ∧ V ≤ 8 := by simpa [btw] using t1
   have ⟨hF, hF'⟩ : 0 ≤ F ∧ F ≤ 3 := by simpa [btw] using t2
   by_cases hl : 60 < c.length
   ·simpa [hl] using checkProgram_many V F s c.length cap w hV hV' hF hF' hl
   ·rcases h with rfl | ⟨b, off, rfl, hb, hc⟩
    ·simpa [ckAll] using checkProgram_nil V F s cap w hV hV' hF hF'
    ·simpa [hl] using checkProgram_loop V F b off cap c w hV hV' hF hF' (by omega) hb hc
end
section
set_option maxHeartbeats 1000000
set_option maxRecDepth 100000
open Go.RowKit

theorem wrap_small {x : Int} (h1 : -9223372036854775808 ≤ x) (h2 : x < 9223372036854775808) : wrap64 x = x := by unfold wrap64; omega

theorem mul_small {a b : Int} (ha : inNum a) (hb : inNum b) : -4611686018427387904 ≤ a * b ∧ a * b ≤ 4611686018427387904 := by
 have h1 : a.natAbs ≤ 2147483648 := by unfold inNum at ha; omega
 have h2 : b.natAbs ≤ 2147483648 := by unfold inNum at hb; omega
 have h3 : (a * b).natAbs ≤ 4611686018427387904 := by rw [Int.natAbs_mul]; exact Nat.mul_le_mul h1 h2
 omega

theorem wrap_add {a b : Int} (ha : inNum a) (hb : inNum b) : wrap64 (a + b) = a + b := by
 unfold inNum at ha hb
 exact wrap_small (by omega) (by omega)
theorem wrap_sub {a b : Int} (ha : inNum a) (hb : inNum b) : wrap64 (a - b) = a - b := by
 unfold inNum at ha hb
 exact wrap_small (by omega) (by omega)
theorem wrap_mul {a b : Int} (ha : inNum a) (hb : inNum b) : wrap64 (a * b) = a * b := by
 have := mul_small ha hb
 exact wrap_small (by omega) (by omega)

theorem rec_add (s t : Sp) (w : World) (hs : s.Ok) (ht : t.Ok) :
  Calls Tryz.prog 145 #[sv s, sv t, .func (.func 146) #[] #[]] w fun e w' => e = .returned (sv (doSp 5 s t)) ∧ Below w.heap.size w w' := by
 by_cases h : (s.n || t.n) = true
 ·have := reckon_none 146 s t w h
  unfold doSp
  rw [if_pos h]
  exact this
 ·have e0 : doSp 5 s t = hull (s.lo + t.lo) (s.lo + t.hi) (s.hi + t.lo) (s.hi + t.hi) := by unfold doSp; rw [if_neg h]; rfl
  rw [e0]
  obtain ⟨n, lo, hi⟩ := s
  obtain ⟨n', lo', hi'⟩ := t
  cases n with
  | true => exact absurd rfl h
  | false =>
   cases n' with
   | true => exact absurd rfl h
   | false => exact reckon_add lo hi lo' hi' w (wrap_add hs.1 ht.1) (wrap_add hs.1 ht.2.1) (wrap_add hs.2.1 ht.1) (wrap_add hs.2.1 ht.2.1)

theorem rec_sub (s t : Sp) (w : World) (hs : s.Ok) (ht : t.Ok) :
  Calls Tryz.prog 145 #[sv s, sv t, .func (.func 147) #[] #[]] w fun e w' => e = .returned (sv (doSp 6 s t)) ∧ Below w.heap.size w w' := by
 by_cases h : (s.n || t.n) = true
 ·have := reckon_none 147 s t w h
  unfold doSp
  rw [if_pos h]
  exact this
 ·have e0 : doSp 6 s t = hull (s.lo - t.lo) (s.lo - t.hi) (s.hi - t.lo) (s.hi - t.hi) := by unfold doSp; rw [if_neg h]; rfl
  rw [e0]
  obtain ⟨n, lo, hi⟩ := s
  obtain ⟨n', lo', hi'⟩ := t
  cases n with
  | true => exact absurd rfl h
  | false =>
   cases n' with
   | true => exact absurd rfl h
   | false => exact reckon_sub lo hi lo' hi' w (wrap_sub hs.1 ht.1) (wrap_sub hs.1 ht.2.1) (wrap_sub hs.2.1 ht.1) (wrap_sub hs.2.1 ht.2.1)

theorem rec_mul (s t : Sp) (w : World) (hs : s.Ok) (ht : t.Ok) :
  Calls Tryz.prog 145 #[sv s, sv t, .func (.func 148) #[] #[]] w fun e w' => e = .returned (sv (doSp 7 s t)) ∧ Below w.heap.size w w' := by
 by_cases h : (s.n || t.n) = true
 ·have := reckon_none 148 s t w h
  unfold doSp
  rw [if_pos h]
  exact this
 ·have e0 : doSp 7 s t = hull (s.lo * t.lo) (s.lo * t.hi) (s.hi * t.lo) (s.hi * t.hi) := by unfold doSp; rw [if_neg h]; rfl
  rw [e0]
  obtain ⟨n, lo, hi⟩ := s
  obtain ⟨n', lo', hi'⟩ := t
  cases n with
  | true => exact absurd rfl h
  | false =>
   cases n' with
   | true => exact absurd rfl h
   | false => exact reckon_mul lo hi lo' hi' w (wrap_mul hs.1 ht.1) (wrap_mul hs.1 ht.2.1) (wrap_mul hs.2.1 ht.1) (wrap_mul hs.2.1 ht.2.1)

theorem do_err (k : Int) (s t : Sp) (w : World) (h : ckSps s t ≠ 0) :
  Calls Tryz.prog 120 #[.int .i64 k, sv s, sv t] w fun e w' => e = .returned (.tuple #[sv zeroSp, .int .i64 (ckSps s t)]) ∧ Below w.heap.size w w' := by
 obtain ⟨n, lo, hi⟩ := s
 obtain ⟨n', lo', hi'⟩ := t
 go_enter Tryz.func120, Tryz.ntmps120
 go_wp2_with (go_at_call 138; fail)
 refine (checkBoth_any ⟨n, lo, hi⟩ ⟨n', lo', hi'⟩ _).mono ?_
 rintro e w1 ⟨rfl, hb1⟩
 obtain ⟨⟨c0, c1, c2⟩, ⟨d0, d1, d2⟩, ⟨r0, r1, r2⟩, ⟨f0, f1, f2⟩, z0, z1, z2⟩ := w3_cells (s := ⟨n, lo, hi⟩) (t := ⟨n', lo', hi'⟩) (r := zeroSp) hb1 (by simp)
 have H1 : Below w.heap.size w w1 := (w3_below ⟨n, lo, hi⟩ ⟨n', lo', hi'⟩ zeroSp w).trans (hb1.mono (by simp; omega))
 simp only [zeroSp] at r0 r1 r2
 clear hb1
 go_wp2
 refine bodyPost_ret (v := .tuple #[sv zeroSp, .int .i64 (ckSps ⟨n, lo, hi⟩ ⟨n', lo', hi'⟩)]) (by simp [results, Tryz.results120, go_sem, r0, r1, r2, zeroSp]) rfl ⟨rfl, ?_⟩
 exact ((H1.setCell (by simp; omega) _).setCell (by simp; omega) _).setCell (by simp; omega) _

theorem do_kind (k : Int) (s t : Sp) (w : World) (h : ckSps s t = 0) (h5 : (k == 5) = false) (h6 : (k == 6) = false) (h7 : (k == 7) = false) :
  Calls Tryz.prog 120 #[.int .i64 k, sv s, sv t] w fun e w' => e = .returned (.tuple #[sv zeroSp, .int .i64 6]) ∧ Below w.heap.size w w' := by
 obtain ⟨n, lo, hi⟩ := s
 obtain ⟨n', lo', hi'⟩ := t
 go_enter Tryz.func120, Tryz.ntmps120
 go_wp2_with (go_at_call 138; fail)
 refine (checkBoth_any ⟨n, lo, hi⟩ ⟨n', lo', hi'⟩ _).mono ?_
 rintro e w1 ⟨rfl, hb1⟩
 obtain ⟨⟨c0, c1, c2⟩, ⟨d0, d1, d2⟩, ⟨r0, r1, r2⟩, ⟨f0, f1, f2⟩, z0, z1, z2⟩ := w3_cells (s := ⟨n, lo, hi⟩) (t := ⟨n', lo', hi'⟩) (r := zeroSp) hb1 (by simp)
 have H1 : Below w.heap.size w w1 := (w3_below ⟨n, lo, hi⟩ ⟨n', lo', hi'⟩ zeroSp w).trans (hb1.mono (by simp; omega))
 simp only [zeroSp] at r0 r1 r2
 clear hb1
 rw [h]
 go_wp2
 refine bodyPost_ret (v := .tuple #[sv zeroSp, .int .i64 6]) (by simp [results, Tryz.results120, go_sem, r0, r1, r2, zeroSp]) rfl ⟨rfl, ?_⟩
 exact ((H1.setCell (by simp; omega) _).setCell (by simp; omega) _).setCell (by simp; omega) _

theorem prf_8f7489 {p : Prop} (h : p := by
 clear hs ht
 obtain ⟨n, lo, hi⟩ := s
 obtain ⟨n', lo', hi'⟩ := t
 obtain ⟨rn, rlo, rhi⟩ := r
 go_enter Tryz.func120, Tryz.ntmps120
 go_wp2_with (go_at_call 138; fail)
 refine (checkBoth_any ⟨n, lo, hi⟩ ⟨n', lo', hi'⟩ _).mono ?_
 rintro e w1 ⟨rfl, hb1⟩
 obtain ⟨⟨c0, c1, c2⟩, ⟨d0, d1, d2⟩, ⟨r0, r1, r2⟩, ⟨f0, f1, f2⟩, z0, z1, z2⟩ := w3_cells (s := ⟨n, lo, hi⟩) (t := ⟨n', lo', hi'⟩) (r := zeroSp) hb1 (by simp)
 have H1 : Below w.heap.size w w1 := (w3_below ⟨n, lo, hi⟩ ⟨n', lo', hi'⟩ zeroSp w).trans (hb1.mono (by simp; omega))
 simp only [zeroSp] at r0 r1 r2
 clear hb1
 rw [h]
 go_wp2_with (go_at_call 145; fail)
 refine (hR _).mono ?_
 rintro e w2 ⟨rfl, hb2⟩
 have g0 := r0; have g1 := r1; have g2 := r2; have k0 := f0; have k1 := f1; have k2 := f2
 rw [← hb2.cell z2] at g0 g1 g2
 rw [← hb2.frozen z2] at k0 k1 k2
 have H2 : Below w.heap.size w w2 := H1.trans (hb2.mono (by omega))
 clear r0 r1 r2 f0 f1 f2 hb2 c0 c1 c2 d0 d1 d2 hR
 go_wp2
 refine bodyPost_ret (v := .tuple #[sv ⟨rn, rlo, rhi⟩, .int .i64 0]) (by simp [results, Tryz.results120, go_sem, g0, g1, g2]) rfl ⟨rfl, ?_⟩
 exact ((H2.setCell (by simp; omega) _).setCell (by simp; omega) _).setCell (by simp; omega) _) : p := h
theorem do_add (s t : Sp) (w : World) (h : ckSps s t = 0) :
  Calls Tryz.prog 120 #[.int .i64 5, sv s, sv t] w fun e w' => e = .returned (.tuple #[sv (doSp 5 s t), .int .i64 0]) ∧ Below w.heap.size w w' := by
 obtain ⟨hs, ht⟩ := ckSps_ok.1 h
 have hR := fun w => rec_add s t w hs ht
 generalize doSp 5 s t = r at hR ⊢
 exact prf_8f7489

theorem do_sub (s t : Sp) (w : World) (h : ckSps s t = 0) :
  Calls Tryz.prog 120 #[.int .i64 6, sv s, sv t] w fun e w' => e = .returned (.tuple #[sv (doSp 6 s t), .int .i64 0]) ∧ Below w.heap.size w w' := by
 obtain ⟨hs, ht⟩ := ckSps_ok.1 h
 have hR := fun w => rec_sub s t w hs ht
 generalize doSp 6 s t = r at hR ⊢
 exact prf_8f7489

theorem do_mul (s t : Sp) (w : World) (h : ckSps s t = 0) :
  Calls Tryz.prog 120 #[.int .i64 7, sv s, sv t] w fun e w' => e = .returned (.tuple #[sv (doSp 7 s t), .int .i64 0]) ∧ Below w.heap.size w w' := by
 obtain ⟨hs, ht⟩ := ckSps_ok.1 h
 have hR := fun w => rec_mul s t w hs ht
 generalize doSp 7 s t = r at hR ⊢
 exact prf_8f7489

/-- What Do tells. -/
def doErr (k : Int) (s t : Sp) : Int := if ckSps s t = 0 then (if k = 5 ∨ k = 6 ∨ k = 7 then 0 else 6) else ckSps s t

theorem do_any (k : Int) (s t : Sp) (w : World) :
  Calls Tryz.prog 120 #[.int .i64 k, sv s, sv t] w fun e w' => e = .returned (.tuple #[sv (spIf (doErr k s t) (doSp k s t)), .int .i64 (doErr k s t)]) ∧ Below w.heap.size w w' := by
 by_cases h : ckSps s t = 0
 ·by_cases hk : k = 5 ∨ k = 6 ∨ k = 7
  ·have e0 : doErr k s t = 0 := by unfold doErr; rw [if_pos h, if_pos hk]
   rw [e0]
   rcases hk with rfl | rfl | rfl
   ·exact do_add s t w h
   ·exact do_sub s t w h
   ·exact do_mul s t w h
  ·have e0 : doErr k s t = 6 := by unfold doErr; rw [if_pos h, if_neg hk]
   rw [e0]
   exact do_kind k s t w h (by simp; omega) (by simp; omega) (by simp; omega)
 ·have e0 : doErr k s t = ckSps s t := by unfold doErr; rw [if_neg h]
  rw [e0]
  unfold spIf
  rw [if_neg h]
  exact do_err k s t w h
end
section
set_option maxHeartbeats 1000000
set_option maxRecDepth 100000
open Go.RowKit

theorem doSpan_n (k : Int) (s t : Sp) (w : World) (h : (s.n || t.n) = true) :
  Calls Tryz.prog 63 #[.int .i64 k, sv s, sv t] w fun e w' => e = .returned (sv ⟨true, 0, 0⟩) ∧ Below w.heap.size w w' := by
 obtain ⟨n, lo, hi⟩ := s
 obtain ⟨n', lo', hi'⟩ := t
 cases n with
 | true =>
  go_enter Tryz.func63, Tryz.ntmps63
  go_wp2
  go_returns
  exact ⟨rfl, by go_grown⟩
 | false =>
  cases n' with
  | true =>
   go_enter Tryz.func63, Tryz.ntmps63
   go_wp2
   go_returns
   exact ⟨rfl, by go_grown⟩
  | false => exact absurd h (by simp)

theorem ownsRow_lowS {w : World} {B : Nat} {e : TypeId} {z : Nat} {v : Value} {n : Nat} {xs : List Value} (h : w.ownsRow B e z v n xs) {k : Nat} (hk : v.ownBlock = some k) : B ≤ k := by
 rcases h.2 with ⟨rfl, _⟩ | ⟨g, cap, cur, rfl, hb, hg, _⟩
 ·cases hk
 ·cases hk
  exact hb

theorem Tryz.info_intS : (Tryz.prog.info? 3).map (fun i => (i.zero, i.size, i.bytes)) = some (some (.int .i64 0), 1, 8) := by kernel_rfl

theorem info_partsS {P : Program} {t : TypeId} {z : Option Value} {a b : Nat} (h : (P.info? t).map (fun i => (i.zero, i.size, i.bytes)) = some (z, a, b)) : ∃ i, P.info? t = some i ∧ i.zero = z ∧ i.size = a ∧ i.bytes = b := by
 cases hi : P.info? t with
 | none => rw [hi] at h; cases h
 | some i =>
  rw [hi] at h
  simp only [Option.map_some, Option.some.injEq, Prod.mk.injEq] at h
  exact ⟨i, rfl, h.1, h.2.1, h.2.2⟩

theorem min_max4 (a b c d : Int) : min4 a b c d ≤ max4 a b c d := by unfold min4 max4; omega
theorem hull_ok {a b c d : Int} (h : ckSp ⟨false, min4 a b c d, max4 a b c d⟩ = 0) : hull a b c d = ⟨false, min4 a b c d, max4 a b c d⟩ := by
 have := ckSp_ok.1 h
 exact hull_in this.1 this.2.1
theorem hull_no {a b c d : Int} (h : ckSp ⟨false, min4 a b c d, max4 a b c d⟩ ≠ 0) : hull a b c d = ⟨false, -2147483648, 2147483647⟩ := by
 unfold hull
 refine if_neg fun hc => h (ckSp_ok.2 ⟨hc.1, hc.2, (fun hn => by cases hn), min_max4 a b c d⟩)

/-- One element laid into a block of its own. -/
theorem news_one (w : World) (v : Value) (t : TypeId) : ∀ j u, [v][j]? = some u → (w.alloc (.cells #[v] t)).drew.cell? ((⟨w.heap.size, 0, none⟩ : Addr).add j) = some u := by
 intro j u hu
 have hadd : (⟨w.heap.size, 0, none⟩ : Addr).add j = ⟨w.heap.size, j, none⟩ := by unfold Addr.add; split <;> simp_all
 rw [hadd]
 have : (w.alloc (.cells #[v] t)).drew.cell? ⟨w.heap.size, j, none⟩ = #[v][j]? := by simp [go_sem]
 rw [this]
 simpa using hu
theorem prf_db585f {p : Prop} (h : p := by
 go_wp2
 go_loopw [7, 11] (fun l k wr => ∃ J : Nat, J ≤ 2 ∧ k = .int .i64 J ∧ wr.ownsRow W.heap.size 3 1 l (0 + J) (([a, b, c, d].take (0 + J)).map (.int .i64)) ∧ Below W.heap.size W wr) (fun _ k _ => 2 - (intOf k).toNat)
 case atStart => exact ⟨0, by omega, rfl, hown, hbr⟩
 case round =>
  obtain ⟨J, hJ, rfl, hown1, hbr1⟩ := hrel
  clear hown hbr
  rcases (by omega : J = 0 ∨ J = 1 ∨ J = 2) with rfl | rfl | rfl
  ·go_wp2
   go_region_held_law (fun w' => w'.cell? ⟨ga, 0, none⟩ = some (.int .i64 lo) ∧ w'.cell? ⟨gb, 0, none⟩ = some (.int .i64 lo'))
    (first | exact K00 _ hbr1.drew | exact K00 _ (hbr1.alloc hbr1.size _).drew | exact K00 _ HBn)
    (first
     | (refine step_append_lies _ rfl _ _ 59 rfl W.heap.size 3 ti (.int .i64 0) 1 8 Tryz.underlying59 hi0 hz0 hz1 hz2 rfl (by decide) _ _ _ rfl ((hown1.alloc _).drew) ⟨wr.heap.size, 0, none⟩ 1 1 [.int .i64 a] rfl rfl (news_one _ _ _) (fun x hx => by simp at hx; subst hx; rfl) (by decide) (by unfold maxLen; omega) (by omega) (by simp; have := hbr1.size; omega) _ rfl ?_; intro g1 cap1 wn hownn hgrown hatn hltn; have HBn : Below W.heap.size W wn := (hbr1.alloc hbr1.size _).drew.grown hgrown (by simp; have := hbr1.size; omega) (fun j hj => ownsRow_lowS hown1 hj)))
   go_wp2
   go_roundw
   case rel => exact ⟨1, by omega, rfl, hownn, HBn⟩
   case measure => simp [intOf]
  ·go_wp2
   go_region_held_law (fun w' => w'.cell? ⟨ga, 0, none⟩ = some (.int .i64 lo) ∧ w'.cell? ⟨gb, 1, none⟩ = some (.int .i64 hi'))
    (first | exact K01 _ hbr1.drew | exact K01 _ (hbr1.alloc hbr1.size _).drew | exact K01 _ HBn)
    (first
     | (refine step_append_lies _ rfl _ _ 59 rfl W.heap.size 3 ti (.int .i64 0) 1 8 Tryz.underlying59 hi0 hz0 hz1 hz2 rfl (by decide) _ _ _ rfl ((hown1.alloc _).drew) ⟨wr.heap.size, 0, none⟩ 1 1 [.int .i64 b] rfl rfl (news_one _ _ _) (fun x hx => by simp at hx; subst hx; rfl) (by decide) (by unfold maxLen; omega) (by omega) (by simp; have := hbr1.size; omega) _ rfl ?_; intro g1 cap1 wn hownn hgrown hatn hltn; have HBn : Below W.heap.size W wn := (hbr1.alloc hbr1.size _).drew.grown hgrown (by simp; have := hbr1.size; omega) (fun j hj => ownsRow_lowS hown1 hj)))
   go_wp2
   go_roundw
   case rel => exact ⟨2, by omega, rfl, hownn, HBn⟩
   case measure => simp [intOf]
  ·go_wp2
   go_roundw
   case rel => exact ⟨1, by omega, rfl, hown1, hbr1⟩
   case measure => simp [intOf]) : p := h
theorem prf_7cd1c7 {p : Prop} (h : p := by
 go_wp2
 go_loopw [7, 11] (fun l k wr => ∃ J : Nat, J ≤ 2 ∧ k = .int .i64 J ∧ wr.ownsRow W.heap.size 3 1 l (2 + J) (([a, b, c, d].take (2 + J)).map (.int .i64)) ∧ Below W.heap.size W wr) (fun _ k _ => 2 - (intOf k).toNat)
 case atStart => exact ⟨0, by omega, rfl, hown, hbr⟩
 case round =>
  obtain ⟨J, hJ, rfl, hown1, hbr1⟩ := hrel
  clear hown hbr
  rcases (by omega : J = 0 ∨ J = 1 ∨ J = 2) with rfl | rfl | rfl
  ·go_wp2
   go_region_held_law (fun w' => w'.cell? ⟨ga, 1, none⟩ = some (.int .i64 hi) ∧ w'.cell? ⟨gb, 0, none⟩ = some (.int .i64 lo'))
    (first | exact K10 _ hbr1.drew | exact K10 _ (hbr1.alloc hbr1.size _).drew | exact K10 _ HBn)
    (first
     | (refine step_append_lies _ rfl _ _ 59 rfl W.heap.size 3 ti (.int .i64 0) 1 8 Tryz.underlying59 hi0 hz0 hz1 hz2 rfl (by decide) _ _ _ rfl ((hown1.alloc _).drew) ⟨wr.heap.size, 0, none⟩ 1 1 [.int .i64 c] rfl rfl (news_one _ _ _) (fun x hx => by simp at hx; subst hx; rfl) (by decide) (by unfold maxLen; omega) (by omega) (by simp; have := hbr1.size; omega) _ rfl ?_; intro g1 cap1 wn hownn hgrown hatn hltn; have HBn : Below W.heap.size W wn := (hbr1.alloc hbr1.size _).drew.grown hgrown (by simp; have := hbr1.size; omega) (fun j hj => ownsRow_lowS hown1 hj)))
   go_wp2
   go_roundw
   case rel => exact ⟨1, by omega, rfl, hownn, HBn⟩
   case measure => simp [intOf]
  ·go_wp2
   go_region_held_law (fun w' => w'.cell? ⟨ga, 1, none⟩ = some (.int .i64 hi) ∧ w'.cell? ⟨gb, 1, none⟩ = some (.int .i64 hi'))
    (first | exact K11 _ hbr1.drew | exact K11 _ (hbr1.alloc hbr1.size _).drew | exact K11 _ HBn)
    (first
     | (refine step_append_lies _ rfl _ _ 59 rfl W.heap.size 3 ti (.int .i64 0) 1 8 Tryz.underlying59 hi0 hz0 hz1 hz2 rfl (by decide) _ _ _ rfl ((hown1.alloc _).drew) ⟨wr.heap.size, 0, none⟩ 1 1 [.int .i64 d] rfl rfl (news_one _ _ _) (fun x hx => by simp at hx; subst hx; rfl) (by decide) (by unfold maxLen; omega) (by omega) (by simp; have := hbr1.size; omega) _ rfl ?_; intro g1 cap1 wn hownn hgrown hatn hltn; have HBn : Below W.heap.size W wn := (hbr1.alloc hbr1.size _).drew.grown hgrown (by simp; have := hbr1.size; omega) (fun j hj => ownsRow_lowS hown1 hj)))
   go_wp2
   go_roundw
   case rel => exact ⟨2, by omega, rfl, hownn, HBn⟩
   case measure => simp [intOf]
  ·go_wp2
   go_roundw
   case rel => exact ⟨2, by omega, rfl, hown1, hbr1⟩
   case measure => simp [intOf]) : p := h
theorem prf_125584 {p : Prop} (h : p := by
 obtain ⟨ti, hi0, hz0, hz1, hz2⟩ := info_partsS Tryz.info_intS
 go_enter Tryz.func63, Tryz.ntmps63
 go_wp2
 go_region_held3 (fun w' => w'.cell? ⟨w.heap.size, 1, none⟩ = some (.int .i64 lo) ∧ w'.cell? ⟨w.heap.size, 2, none⟩ = some (.int .i64 hi) ∧ w'.cell? ⟨w.heap.size + 1, 1, none⟩ = some (.int .i64 lo') ∧ w'.cell? ⟨w.heap.size + 1, 2, none⟩ = some (.int .i64 hi')) (simp [go_sem])
  (fail)
 ·have HB : Below w.heap.size w ((((((w.alloc (.cells #[.bool false, .int .i64 lo, .int .i64 hi] 58)).alloc (.cells #[.bool false, .int .i64 lo', .int .i64 hi'] 58)).alloc (.cells #[.bool false, .int .i64 0, .int .i64 0] 58)).alloc (.cells #[.int .i64 lo, .int .i64 hi] 3)).alloc (.cells #[.int .i64 lo', .int .i64 hi'] 3)).drew) := by go_grown
  have f0 : ((((((w.alloc (.cells #[.bool false, .int .i64 lo, .int .i64 hi] 58)).alloc (.cells #[.bool false, .int .i64 lo', .int .i64 hi'] 58)).alloc (.cells #[.bool false, .int .i64 0, .int .i64 0] 58)).alloc (.cells #[.int .i64 lo, .int .i64 hi] 3)).alloc (.cells #[.int .i64 lo', .int .i64 hi'] 3)).drew).cell? ⟨w.heap.size + 1 + 1 + 1, 0, none⟩ = some (.int .i64 lo) := by simp [go_sem]
  have f1 : ((((((w.alloc (.cells #[.bool false, .int .i64 lo, .int .i64 hi] 58)).alloc (.cells #[.bool false, .int .i64 lo', .int .i64 hi'] 58)).alloc (.cells #[.bool false, .int .i64 0, .int .i64 0] 58)).alloc (.cells #[.int .i64 lo, .int .i64 hi] 3)).alloc (.cells #[.int .i64 lo', .int .i64 hi'] 3)).drew).cell? ⟨w.heap.size + 1 + 1 + 1, 1, none⟩ = some (.int .i64 hi) := by simp [go_sem]
  have f2 : ((((((w.alloc (.cells #[.bool false, .int .i64 lo, .int .i64 hi] 58)).alloc (.cells #[.bool false, .int .i64 lo', .int .i64 hi'] 58)).alloc (.cells #[.bool false, .int .i64 0, .int .i64 0] 58)).alloc (.cells #[.int .i64 lo, .int .i64 hi] 3)).alloc (.cells #[.int .i64 lo', .int .i64 hi'] 3)).drew).cell? ⟨w.heap.size + 1 + 1 + 1 + 1, 0, none⟩ = some (.int .i64 lo') := by simp [go_sem]
  have f3 : ((((((w.alloc (.cells #[.bool false, .int .i64 lo, .int .i64 hi] 58)).alloc (.cells #[.bool false, .int .i64 lo', .int .i64 hi'] 58)).alloc (.cells #[.bool false, .int .i64 0, .int .i64 0] 58)).alloc (.cells #[.int .i64 lo, .int .i64 hi] 3)).alloc (.cells #[.int .i64 lo', .int .i64 hi'] 3)).drew).cell? ⟨w.heap.size + 1 + 1 + 1 + 1, 1, none⟩ = some (.int .i64 hi') := by simp [go_sem]
  have zz : ((((((w.alloc (.cells #[.bool false, .int .i64 lo, .int .i64 hi] 58)).alloc (.cells #[.bool false, .int .i64 lo', .int .i64 hi'] 58)).alloc (.cells #[.bool false, .int .i64 0, .int .i64 0] 58)).alloc (.cells #[.int .i64 lo, .int .i64 hi] 3)).alloc (.cells #[.int .i64 lo', .int .i64 hi'] 3)).drew).heap.size = w.heap.size + 5 := by simp
  have za : w.heap.size + 1 + 1 + 1 < ((((((w.alloc (.cells #[.bool false, .int .i64 lo, .int .i64 hi] 58)).alloc (.cells #[.bool false, .int .i64 lo', .int .i64 hi'] 58)).alloc (.cells #[.bool false, .int .i64 0, .int .i64 0] 58)).alloc (.cells #[.int .i64 lo, .int .i64 hi] 3)).alloc (.cells #[.int .i64 lo', .int .i64 hi'] 3)).drew).heap.size := by simp
  have zb : w.heap.size + 1 + 1 + 1 + 1 < ((((((w.alloc (.cells #[.bool false, .int .i64 lo, .int .i64 hi] 58)).alloc (.cells #[.bool false, .int .i64 lo', .int .i64 hi'] 58)).alloc (.cells #[.bool false, .int .i64 0, .int .i64 0] 58)).alloc (.cells #[.int .i64 lo, .int .i64 hi] 3)).alloc (.cells #[.int .i64 lo', .int .i64 hi'] 3)).drew).heap.size := by simp
  have KR : ∀ wx, Below ((((((w.alloc (.cells #[.bool false, .int .i64 lo, .int .i64 hi] 58)).alloc (.cells #[.bool false, .int .i64 lo', .int .i64 hi'] 58)).alloc (.cells #[.bool false, .int .i64 0, .int .i64 0] 58)).alloc (.cells #[.int .i64 lo, .int .i64 hi] 3)).alloc (.cells #[.int .i64 lo', .int .i64 hi'] 3)).drew).heap.size ((((((w.alloc (.cells #[.bool false, .int .i64 lo, .int .i64 hi] 58)).alloc (.cells #[.bool false, .int .i64 lo', .int .i64 hi'] 58)).alloc (.cells #[.bool false, .int .i64 0, .int .i64 0] 58)).alloc (.cells #[.int .i64 lo, .int .i64 hi] 3)).alloc (.cells #[.int .i64 lo', .int .i64 hi'] 3)).drew) wx → wx.cell? ⟨w.heap.size + 1 + 1, 0, none⟩ = some (.bool false) ∧ wx.cell? ⟨w.heap.size + 1 + 1, 1, none⟩ = some (.int .i64 0) ∧ wx.cell? ⟨w.heap.size + 1 + 1, 2, none⟩ = some (.int .i64 0) ∧ wx.frozen? ⟨w.heap.size + 1 + 1, 0, none⟩ = false ∧ wx.frozen? ⟨w.heap.size + 1 + 1, 1, none⟩ = false ∧ wx.frozen? ⟨w.heap.size + 1 + 1, 2, none⟩ = false := by
   intro wx hb
   rw [hb.cell (by simp), hb.cell (by simp), hb.cell (by simp), hb.frozen (by simp), hb.frozen (by simp), hb.frozen (by simp)]
   simp [go_sem]
  generalize ((((((w.alloc (.cells #[.bool false, .int .i64 lo, .int .i64 hi] 58)).alloc (.cells #[.bool false, .int .i64 lo', .int .i64 hi'] 58)).alloc (.cells #[.bool false, .int .i64 0, .int .i64 0] 58)).alloc (.cells #[.int .i64 lo, .int .i64 hi] 3)).alloc (.cells #[.int .i64 lo', .int .i64 hi'] 3)).drew) = W at HB f0 f1 f2 f3 zz za zb KR ⊢
  generalize w.heap.size + 1 + 1 + 1 + 1 = gb at f2 f3 zb ⊢
  generalize w.heap.size + 1 + 1 + 1 = ga at f0 f1 za ⊢
  have K : ∀ wx, Below W.heap.size W wx → wx.cell? ⟨ga, 0, none⟩ = some (.int .i64 lo) ∧ wx.cell? ⟨ga, 1, none⟩ = some (.int .i64 hi) ∧ wx.cell? ⟨gb, 0, none⟩ = some (.int .i64 lo') ∧ wx.cell? ⟨gb, 1, none⟩ = some (.int .i64 hi') := by
   intro wx hb
   rw [hb.cell za, hb.cell za, hb.cell zb, hb.cell zb]
   exact ⟨f0, f1, f2, f3⟩
  have K00 := fun wx hb => (show _ ∧ _ from ⟨(K wx hb).1, (K wx hb).2.2.1⟩)
  have K01 := fun wx hb => (show _ ∧ _ from ⟨(K wx hb).1, (K wx hb).2.2.2⟩)
  have K10 := fun wx hb => (show _ ∧ _ from ⟨(K wx hb).2.1, (K wx hb).2.2.1⟩)
  have K11 := fun wx hb => (show _ ∧ _ from ⟨(K wx hb).2.1, (K wx hb).2.2.2⟩)
  clear K f0 f1 f2 f3
  go_wp2
  go_loopw [7, 10] (fun l i wr => ∃ I : Nat, I ≤ 2 ∧ i = .int .i64 I ∧ wr.ownsRow W.heap.size 3 1 l (2 * I) (([a, b, c, d].take (2 * I)).map (.int .i64)) ∧ Below W.heap.size W wr) (fun _ i _ => 2 - (intOf i).toNat)
  case atStart => exact ⟨0, by omega, rfl, ⟨by simp, .inl ⟨rfl, by simp⟩⟩, Below.refl _ _⟩
  case round =>
   obtain ⟨I, hI, rfl, hown, hbr⟩ := hrel
   rcases (by omega : I = 0 ∨ I = 1 ∨ I = 2) with rfl | rfl | rfl
   ·rw [show ((0 : Nat) : Int) = 0 from rfl]
    exact prf_db585f
   ·rw [show ((1 : Nat) : Int) = 1 from rfl]
    exact prf_7cd1c7
   ·clear K00 K01 K10 K11
    rw [show 2 * 2 = 4 from rfl] at hown
    obtain ⟨g, cap, rfl, hg1, hg2⟩ := hown.form (by omega)
    have q0 := hown.cellAt 0 (by omega)
    have q1 := hown.cellAt 1 (by omega)
    have q2 := hown.cellAt 2 (by omega)
    have q3 := hown.cellAt 3 (by omega)
    simp only [List.take, List.map, List.getElem?_cons_zero, List.getElem?_cons_succ] at q0 q1 q2 q3
    clear hown
    clear h1 h2 h3 h4
    go_wp2_with (first
     | (go_at_call 94; refine (least4 _ _ a b c d _ q0 q1 q2 q3).mono ?_; rintro e w' ⟨rfl, rfl⟩)
     | (go_at_call 95; refine (most4 _ _ a b c d _ q0 q1 q2 q3).mono ?_; rintro e w' ⟨rfl, rfl⟩)
     | (go_at_call 93; fail))
    refine (checkSpan_any ⟨false, min4 a b c d, max4 a b c d⟩ _).mono ?_
    rintro e w5 ⟨rfl, hb5⟩
    have HB5 : Below W.heap.size W w5 := (hbr.alloc hbr.size _).trans (hb5.mono (by simp; have := hbr.size; omega))
    have H5 : Below w.heap.size w w5 := HB.trans (HB5.mono (by omega))
    obtain ⟨r0, r1, r2, k0, k1, k2⟩ := KR w5 HB5
    obtain ⟨o0, o1, o2⟩ := sp_cells hb5 (by simp)
    have y1 : w'.heap.size < w5.heap.size := by have := hb5.size; simp at this; omega
    have y2 : w.heap.size + 1 + 1 < w'.heap.size := by have := hbr.size; omega
    clear KR hb5 HB5 hbr HB q0 q1 q2 q3
    by_cases hc : ckSp ⟨false, min4 a b c d, max4 a b c d⟩ = 0
    ·rw [hc]
     have hH := hull_ok hc
     generalize min4 a b c d = mn at *
     generalize max4 a b c d = mx at *
     go_wp2
     refine bodyPost_ret (v := sv ⟨false, mn, mx⟩) (by simp [results, Tryz.results63, go_sem, r0, r1, r2]) rfl ⟨by rw [hH], ?_⟩
     exact ((H5.setCell (by simp; omega) _).setCell (by simp; omega) _).setCell (by simp; omega) _
    ·have hH := hull_no hc
     generalize ckSp ⟨false, min4 a b c d, max4 a b c d⟩ = ck at *
     generalize min4 a b c d = mn at *
     generalize max4 a b c d = mx at *
     go_wp2
     refine bodyPost_ret (v := sv ⟨false, -2147483648, 2147483647⟩) (by simp [results, Tryz.results63, go_sem, r0, r1, r2]) rfl ⟨by rw [hH], ?_⟩
     exact ((H5.setCell (by simp; omega) _).setCell (by simp; omega) _).setCell (by simp; omega) _
 ·have HB : Below w.heap.size w ((((((w.alloc (.cells #[.bool false, .int .i64 lo, .int .i64 hi] 58)).alloc (.cells #[.bool false, .int .i64 lo', .int .i64 hi'] 58)).alloc (.cells #[.bool false, .int .i64 0, .int .i64 0] 58)).alloc (.cells #[.int .i64 lo', .int .i64 hi'] 3)).alloc (.cells #[.int .i64 lo, .int .i64 hi] 3)).drew) := by go_grown
  have f0 : ((((((w.alloc (.cells #[.bool false, .int .i64 lo, .int .i64 hi] 58)).alloc (.cells #[.bool false, .int .i64 lo', .int .i64 hi'] 58)).alloc (.cells #[.bool false, .int .i64 0, .int .i64 0] 58)).alloc (.cells #[.int .i64 lo', .int .i64 hi'] 3)).alloc (.cells #[.int .i64 lo, .int .i64 hi] 3)).drew).cell? ⟨w.heap.size + 1 + 1 + 1 + 1, 0, none⟩ = some (.int .i64 lo) := by simp [go_sem]
  have f1 : ((((((w.alloc (.cells #[.bool false, .int .i64 lo, .int .i64 hi] 58)).alloc (.cells #[.bool false, .int .i64 lo', .int .i64 hi'] 58)).alloc (.cells #[.bool false, .int .i64 0, .int .i64 0] 58)).alloc (.cells #[.int .i64 lo', .int .i64 hi'] 3)).alloc (.cells #[.int .i64 lo, .int .i64 hi] 3)).drew).cell? ⟨w.heap.size + 1 + 1 + 1 + 1, 1, none⟩ = some (.int .i64 hi) := by simp [go_sem]
  have f2 : ((((((w.alloc (.cells #[.bool false, .int .i64 lo, .int .i64 hi] 58)).alloc (.cells #[.bool false, .int .i64 lo', .int .i64 hi'] 58)).alloc (.cells #[.bool false, .int .i64 0, .int .i64 0] 58)).alloc (.cells #[.int .i64 lo', .int .i64 hi'] 3)).alloc (.cells #[.int .i64 lo, .int .i64 hi] 3)).drew).cell? ⟨w.heap.size + 1 + 1 + 1, 0, none⟩ = some (.int .i64 lo') := by simp [go_sem]
  have f3 : ((((((w.alloc (.cells #[.bool false, .int .i64 lo, .int .i64 hi] 58)).alloc (.cells #[.bool false, .int .i64 lo', .int .i64 hi'] 58)).alloc (.cells #[.bool false, .int .i64 0, .int .i64 0] 58)).alloc (.cells #[.int .i64 lo', .int .i64 hi'] 3)).alloc (.cells #[.int .i64 lo, .int .i64 hi] 3)).drew).cell? ⟨w.heap.size + 1 + 1 + 1, 1, none⟩ = some (.int .i64 hi') := by simp [go_sem]
  have zz : ((((((w.alloc (.cells #[.bool false, .int .i64 lo, .int .i64 hi] 58)).alloc (.cells #[.bool false, .int .i64 lo', .int .i64 hi'] 58)).alloc (.cells #[.bool false, .int .i64 0, .int .i64 0] 58)).alloc (.cells #[.int .i64 lo', .int .i64 hi'] 3)).alloc (.cells #[.int .i64 lo, .int .i64 hi] 3)).drew).heap.size = w.heap.size + 5 := by simp
  have za : w.heap.size + 1 + 1 + 1 + 1 < ((((((w.alloc (.cells #[.bool false, .int .i64 lo, .int .i64 hi] 58)).alloc (.cells #[.bool false, .int .i64 lo', .int .i64 hi'] 58)).alloc (.cells #[.bool false, .int .i64 0, .int .i64 0] 58)).alloc (.cells #[.int .i64 lo', .int .i64 hi'] 3)).alloc (.cells #[.int .i64 lo, .int .i64 hi] 3)).drew).heap.size := by simp
  have zb : w.heap.size + 1 + 1 + 1 < ((((((w.alloc (.cells #[.bool false, .int .i64 lo, .int .i64 hi] 58)).alloc (.cells #[.bool false, .int .i64 lo', .int .i64 hi'] 58)).alloc (.cells #[.bool false, .int .i64 0, .int .i64 0] 58)).alloc (.cells #[.int .i64 lo', .int .i64 hi'] 3)).alloc (.cells #[.int .i64 lo, .int .i64 hi] 3)).drew).heap.size := by simp
  have KR : ∀ wx, Below ((((((w.alloc (.cells #[.bool false, .int .i64 lo, .int .i64 hi] 58)).alloc (.cells #[.bool false, .int .i64 lo', .int .i64 hi'] 58)).alloc (.cells #[.bool false, .int .i64 0, .int .i64 0] 58)).alloc (.cells #[.int .i64 lo', .int .i64 hi'] 3)).alloc (.cells #[.int .i64 lo, .int .i64 hi] 3)).drew).heap.size ((((((w.alloc (.cells #[.bool false, .int .i64 lo, .int .i64 hi] 58)).alloc (.cells #[.bool false, .int .i64 lo', .int .i64 hi'] 58)).alloc (.cells #[.bool false, .int .i64 0, .int .i64 0] 58)).alloc (.cells #[.int .i64 lo', .int .i64 hi'] 3)).alloc (.cells #[.int .i64 lo, .int .i64 hi] 3)).drew) wx → wx.cell? ⟨w.heap.size + 1 + 1, 0, none⟩ = some (.bool false) ∧ wx.cell? ⟨w.heap.size + 1 + 1, 1, none⟩ = some (.int .i64 0) ∧ wx.cell? ⟨w.heap.size + 1 + 1, 2, none⟩ = some (.int .i64 0) ∧ wx.frozen? ⟨w.heap.size + 1 + 1, 0, none⟩ = false ∧ wx.frozen? ⟨w.heap.size + 1 + 1, 1, none⟩ = false ∧ wx.frozen? ⟨w.heap.size + 1 + 1, 2, none⟩ = false := by
   intro wx hb
   rw [hb.cell (by simp), hb.cell (by simp), hb.cell (by simp), hb.frozen (by simp), hb.frozen (by simp), hb.frozen (by simp)]
   simp [go_sem]
  generalize ((((((w.alloc (.cells #[.bool false, .int .i64 lo, .int .i64 hi] 58)).alloc (.cells #[.bool false, .int .i64 lo', .int .i64 hi'] 58)).alloc (.cells #[.bool false, .int .i64 0, .int .i64 0] 58)).alloc (.cells #[.int .i64 lo', .int .i64 hi'] 3)).alloc (.cells #[.int .i64 lo, .int .i64 hi] 3)).drew) = W at HB f0 f1 f2 f3 zz za zb KR ⊢
  generalize w.heap.size + 1 + 1 + 1 + 1 = ga at f0 f1 za ⊢
  generalize w.heap.size + 1 + 1 + 1 = gb at f2 f3 zb ⊢
  have K : ∀ wx, Below W.heap.size W wx → wx.cell? ⟨ga, 0, none⟩ = some (.int .i64 lo) ∧ wx.cell? ⟨ga, 1, none⟩ = some (.int .i64 hi) ∧ wx.cell? ⟨gb, 0, none⟩ = some (.int .i64 lo') ∧ wx.cell? ⟨gb, 1, none⟩ = some (.int .i64 hi') := by
   intro wx hb
   rw [hb.cell za, hb.cell za, hb.cell zb, hb.cell zb]
   exact ⟨f0, f1, f2, f3⟩
  have K00 := fun wx hb => (show _ ∧ _ from ⟨(K wx hb).1, (K wx hb).2.2.1⟩)
  have K01 := fun wx hb => (show _ ∧ _ from ⟨(K wx hb).1, (K wx hb).2.2.2⟩)
  have K10 := fun wx hb => (show _ ∧ _ from ⟨(K wx hb).2.1, (K wx hb).2.2.1⟩)
  have K11 := fun wx hb => (show _ ∧ _ from ⟨(K wx hb).2.1, (K wx hb).2.2.2⟩)
  clear K f0 f1 f2 f3
  go_wp2
  go_loopw [7, 10] (fun l i wr => ∃ I : Nat, I ≤ 2 ∧ i = .int .i64 I ∧ wr.ownsRow W.heap.size 3 1 l (2 * I) (([a, b, c, d].take (2 * I)).map (.int .i64)) ∧ Below W.heap.size W wr) (fun _ i _ => 2 - (intOf i).toNat)
  case atStart => exact ⟨0, by omega, rfl, ⟨by simp, .inl ⟨rfl, by simp⟩⟩, Below.refl _ _⟩
  case round =>
   obtain ⟨I, hI, rfl, hown, hbr⟩ := hrel
   rcases (by omega : I = 0 ∨ I = 1 ∨ I = 2) with rfl | rfl | rfl
   ·rw [show ((0 : Nat) : Int) = 0 from rfl]
    exact prf_db585f
   ·rw [show ((1 : Nat) : Int) = 1 from rfl]
    exact prf_7cd1c7
   ·clear K00 K01 K10 K11
    rw [show 2 * 2 = 4 from rfl] at hown
    obtain ⟨g, cap, rfl, hg1, hg2⟩ := hown.form (by omega)
    have q0 := hown.cellAt 0 (by omega)
    have q1 := hown.cellAt 1 (by omega)
    have q2 := hown.cellAt 2 (by omega)
    have q3 := hown.cellAt 3 (by omega)
    simp only [List.take, List.map, List.getElem?_cons_zero, List.getElem?_cons_succ] at q0 q1 q2 q3
    clear hown
    clear h1 h2 h3 h4
    go_wp2_with (first
     | (go_at_call 94; refine (least4 _ _ a b c d _ q0 q1 q2 q3).mono ?_; rintro e w' ⟨rfl, rfl⟩)
     | (go_at_call 95; refine (most4 _ _ a b c d _ q0 q1 q2 q3).mono ?_; rintro e w' ⟨rfl, rfl⟩)
     | (go_at_call 93; fail))
    refine (checkSpan_any ⟨false, min4 a b c d, max4 a b c d⟩ _).mono ?_
    rintro e w5 ⟨rfl, hb5⟩
    have HB5 : Below W.heap.size W w5 := (hbr.alloc hbr.size _).trans (hb5.mono (by simp; have := hbr.size; omega))
    have H5 : Below w.heap.size w w5 := HB.trans (HB5.mono (by omega))
    obtain ⟨r0, r1, r2, k0, k1, k2⟩ := KR w5 HB5
    obtain ⟨o0, o1, o2⟩ := sp_cells hb5 (by simp)
    have y1 : w'.heap.size < w5.heap.size := by have := hb5.size; simp at this; omega
    have y2 : w.heap.size + 1 + 1 < w'.heap.size := by have := hbr.size; omega
    clear KR hb5 HB5 hbr HB q0 q1 q2 q3
    by_cases hc : ckSp ⟨false, min4 a b c d, max4 a b c d⟩ = 0
    ·rw [hc]
     have hH := hull_ok hc
     generalize min4 a b c d = mn at *
     generalize max4 a b c d = mx at *
     go_wp2
     refine bodyPost_ret (v := sv ⟨false, mn, mx⟩) (by simp [results, Tryz.results63, go_sem, r0, r1, r2]) rfl ⟨by rw [hH], ?_⟩
     exact ((H5.setCell (by simp; omega) _).setCell (by simp; omega) _).setCell (by simp; omega) _
    ·have hH := hull_no hc
     generalize ckSp ⟨false, min4 a b c d, max4 a b c d⟩ = ck at *
     generalize min4 a b c d = mn at *
     generalize max4 a b c d = mx at *
     go_wp2
     refine bodyPost_ret (v := sv ⟨false, -2147483648, 2147483647⟩) (by simp [results, Tryz.results63, go_sem, r0, r1, r2]) rfl ⟨by rw [hH], ?_⟩
     exact ((H5.setCell (by simp; omega) _).setCell (by simp; omega) _).setCell (by simp; omega) _) : p := h
end
end Go.Proofs.YtmapdpcfanecdabGreat
