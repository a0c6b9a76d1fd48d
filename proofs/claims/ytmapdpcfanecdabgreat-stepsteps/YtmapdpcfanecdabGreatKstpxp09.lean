/- Walks over the document's own answers: the check of a program. -/
import Derived.Test.YtmapdpcfanecdabGreatKstpxp08
import Derived.Test.YtmapdpcfanecdabGreatKstpxp06
import Derived.Test.YtmapdpcfanecdabGreatKstpxp01
import Derived.Deep.RegionHeld3
set_option linter.unusedSimpArgs false
set_option linter.unusedVariables false
namespace Go.Proofs.YtmapdpcfanecdabGreat
section
set_option maxHeartbeats 2000000
open Go.RowKit

theorem checkOne_5 (V F : Int) (s : Option Addr) (len cap : Nat) (tto a b n g : Int) (w : World) (_hV : 1 ≤ V) (_hV' : V ≤ 8) (_hF : 0 ≤ F) (_hF' : F ≤ 3) (_hL : len ≤ 60) :
  Calls Tryz.prog 39 #[.agg #[.int .i64 V, .int .i64 F, .slice s len cap], .agg #[.int .i64 5, .int .i64 tto, .int .i64 a, .int .i64 b, .int .i64 n, .int .i64 g]] w fun e w' => e = .returned (.int .i64 (ckOne V F len ⟨5, tto, a, b, n, g⟩)) ∧ Below w.heap.size w w' := by
 have t0 : (wordB 5).toList.isEmpty = false := by rw [ByteArray.toList_eq]; rfl
 have t1 : nTo 5 = true := rfl
 have t2 : nA 5 = true := rfl
 have t3 : nB 5 = true := rfl
 have t4 : nN 5 = false := rfl
 have t5 : nG 5 = false := rfl
 exact prf_933d6b

theorem checkOne_6 (V F : Int) (s : Option Addr) (len cap : Nat) (tto a b n g : Int) (w : World) (_hV : 1 ≤ V) (_hV' : V ≤ 8) (_hF : 0 ≤ F) (_hF' : F ≤ 3) (_hL : len ≤ 60) :
  Calls Tryz.prog 39 #[.agg #[.int .i64 V, .int .i64 F, .slice s len cap], .agg #[.int .i64 6, .int .i64 tto, .int .i64 a, .int .i64 b, .int .i64 n, .int .i64 g]] w fun e w' => e = .returned (.int .i64 (ckOne V F len ⟨6, tto, a, b, n, g⟩)) ∧ Below w.heap.size w w' := by
 have t0 : (wordB 6).toList.isEmpty = false := by rw [ByteArray.toList_eq]; rfl
 have t1 : nTo 6 = true := rfl
 have t2 : nA 6 = true := rfl
 have t3 : nB 6 = true := rfl
 have t4 : nN 6 = false := rfl
 have t5 : nG 6 = false := rfl
 exact prf_933d6b

theorem checkOne_7 (V F : Int) (s : Option Addr) (len cap : Nat) (tto a b n g : Int) (w : World) (_hV : 1 ≤ V) (_hV' : V ≤ 8) (_hF : 0 ≤ F) (_hF' : F ≤ 3) (_hL : len ≤ 60) :
  Calls Tryz.prog 39 #[.agg #[.int .i64 V, .int .i64 F, .slice s len cap], .agg #[.int .i64 7, .int .i64 tto, .int .i64 a, .int .i64 b, .int .i64 n, .int .i64 g]] w fun e w' => e = .returned (.int .i64 (ckOne V F len ⟨7, tto, a, b, n, g⟩)) ∧ Below w.heap.size w w' := by
 have t0 : (wordB 7).toList.isEmpty = false := by rw [ByteArray.toList_eq]; rfl
 have t1 : nTo 7 = true := rfl
 have t2 : nA 7 = true := rfl
 have t3 : nB 7 = true := rfl
 have t4 : nN 7 = false := rfl
 have t5 : nG 7 = false := rfl
 exact prf_933d6b

theorem checkOne_8 (V F : Int) (s : Option Addr) (len cap : Nat) (tto a b n g : Int) (w : World) (_hV : 1 ≤ V) (_hV' : V ≤ 8) (_hF : 0 ≤ F) (_hF' : F ≤ 3) (_hL : len ≤ 60) :
  Calls Tryz.prog 39 #[.agg #[.int .i64 V, .int .i64 F, .slice s len cap], .agg #[.int .i64 8, .int .i64 tto, .int .i64 a, .int .i64 b, .int .i64 n, .int .i64 g]] w fun e w' => e = .returned (.int .i64 (ckOne V F len ⟨8, tto, a, b, n, g⟩)) ∧ Below w.heap.size w w' := by
 have t0 : (wordB 8).toList.isEmpty = false := by rw [ByteArray.toList_eq]; rfl
 have t1 : nTo 8 = true := rfl
 have t2 : nA 8 = true := rfl
 have t3 : nB 8 = true := rfl
 have t4 : nN 8 = false := rfl
 have t5 : nG 8 = false := rfl
 exact prf_933d6b

theorem checkOne_no (V F : Int) (s : Option Addr) (len cap : Nat) (k tto a b n g : Int) (w : World) (_hV : 1 ≤ V) (_hV' : V ≤ 8) (_hF : 0 ≤ F) (_hF' : F ≤ 3) (_hL : len ≤ 60) (hk : btw k 1 19 = false) :
  Calls Tryz.prog 39 #[.agg #[.int .i64 V, .int .i64 F, .slice s len cap], .agg #[.int .i64 k, .int .i64 tto, .int .i64 a, .int .i64 b, .int .i64 n, .int .i64 g]] w fun e w' => e = .returned (.int .i64 (ckOne V F len ⟨k, tto, a, b, n, g⟩)) ∧ Below w.heap.size w w' := by
 have t0 : (wordB k).toList.isEmpty = true := by rw [wordB_none hk, ByteArray.toList_eq]; rfl
 exact prf_933d6b
end
section
set_option maxHeartbeats 2000000
open Go.RowKit

theorem checkOne_9 (V F : Int) (s : Option Addr) (len cap : Nat) (tto a b n g : Int) (w : World) (_hV : 1 ≤ V) (_hV' : V ≤ 8) (_hF : 0 ≤ F) (_hF' : F ≤ 3) (_hL : len ≤ 60) :
  Calls Tryz.prog 39 #[.agg #[.int .i64 V, .int .i64 F, .slice s len cap], .agg #[.int .i64 9, .int .i64 tto, .int .i64 a, .int .i64 b, .int .i64 n, .int .i64 g]] w fun e w' => e = .returned (.int .i64 (ckOne V F len ⟨9, tto, a, b, n, g⟩)) ∧ Below w.heap.size w w' := by
 have t0 : (wordB 9).toList.isEmpty = false := by rw [ByteArray.toList_eq]; rfl
 have t1 : nTo 9 = true := rfl
 have t2 : nA 9 = true := rfl
 have t3 : nB 9 = true := rfl
 have t4 : nN 9 = false := rfl
 have t5 : nG 9 = false := rfl
 exact prf_933d6b

theorem checkOne_10 (V F : Int) (s : Option Addr) (len cap : Nat) (tto a b n g : Int) (w : World) (_hV : 1 ≤ V) (_hV' : V ≤ 8) (_hF : 0 ≤ F) (_hF' : F ≤ 3) (_hL : len ≤ 60) :
  Calls Tryz.prog 39 #[.agg #[.int .i64 V, .int .i64 F, .slice s len cap], .agg #[.int .i64 10, .int .i64 tto, .int .i64 a, .int .i64 b, .int .i64 n, .int .i64 g]] w fun e w' => e = .returned (.int .i64 (ckOne V F len ⟨10, tto, a, b, n, g⟩)) ∧ Below w.heap.size w w' := by
 have t0 : (wordB 10).toList.isEmpty = false := by rw [ByteArray.toList_eq]; rfl
 have t1 : nTo 10 = true := rfl
 have t2 : nA 10 = true := rfl
 have t3 : nB 10 = false := rfl
 have t4 : nN 10 = false := rfl
 have t5 : nG 10 = false := rfl
 exact prf_933d6b

theorem checkOne_11 (V F : Int) (s : Option Addr) (len cap : Nat) (tto a b n g : Int) (w : World) (_hV : 1 ≤ V) (_hV' : V ≤ 8) (_hF : 0 ≤ F) (_hF' : F ≤ 3) (_hL : len ≤ 60) :
  Calls Tryz.prog 39 #[.agg #[.int .i64 V, .int .i64 F, .slice s len cap], .agg #[.int .i64 11, .int .i64 tto, .int .i64 a, .int .i64 b, .int .i64 n, .int .i64 g]] w fun e w' => e = .returned (.int .i64 (ckOne V F len ⟨11, tto, a, b, n, g⟩)) ∧ Below w.heap.size w w' := by
 have t0 : (wordB 11).toList.isEmpty = false := by rw [ByteArray.toList_eq]; rfl
 have t1 : nTo 11 = true := rfl
 have t2 : nA 11 = false := rfl
 have t3 : nB 11 = false := rfl
 have t4 : nN 11 = false := rfl
 have t5 : nG 11 = false := rfl
 exact prf_933d6b

theorem checkOne_12 (V F : Int) (s : Option Addr) (len cap : Nat) (tto a b n g : Int) (w : World) (_hV : 1 ≤ V) (_hV' : V ≤ 8) (_hF : 0 ≤ F) (_hF' : F ≤ 3) (_hL : len ≤ 60) :
  Calls Tryz.prog 39 #[.agg #[.int .i64 V, .int .i64 F, .slice s len cap], .agg #[.int .i64 12, .int .i64 tto, .int .i64 a, .int .i64 b, .int .i64 n, .int .i64 g]] w fun e w' => e = .returned (.int .i64 (ckOne V F len ⟨12, tto, a, b, n, g⟩)) ∧ Below w.heap.size w w' := by
 have t0 : (wordB 12).toList.isEmpty = false := by rw [ByteArray.toList_eq]; rfl
 have t1 : nTo 12 = true := rfl
 have t2 : nA 12 = true := rfl
 have t3 : nB 12 = false := rfl
 have t4 : nN 12 = true := rfl
 have t5 : nG 12 = false := rfl
 exact prf_933d6b

theorem checkOne_13 (V F : Int) (s : Option Addr) (len cap : Nat) (tto a b n g : Int) (w : World) (_hV : 1 ≤ V) (_hV' : V ≤ 8) (_hF : 0 ≤ F) (_hF' : F ≤ 3) (_hL : len ≤ 60) :
  Calls Tryz.prog 39 #[.agg #[.int .i64 V, .int .i64 F, .slice s len cap], .agg #[.int .i64 13, .int .i64 tto, .int .i64 a, .int .i64 b, .int .i64 n, .int .i64 g]] w fun e w' => e = .returned (.int .i64 (ckOne V F len ⟨13, tto, a, b, n, g⟩)) ∧ Below w.heap.size w w' := by
 have t0 : (wordB 13).toList.isEmpty = false := by rw [ByteArray.toList_eq]; rfl
 have t1 : nTo 13 = false := rfl
 have t2 : nA 13 = true := rfl
 have t3 : nB 13 = true := rfl
 have t4 : nN 13 = true := rfl
 have t5 : nG 13 = false := rfl
 exact prf_933d6b
end
section
set_option maxHeartbeats 2000000
open Go.RowKit

theorem checkOne_14 (V F : Int) (s : Option Addr) (len cap : Nat) (tto a b n g : Int) (w : World) (_hV : 1 ≤ V) (_hV' : V ≤ 8) (_hF : 0 ≤ F) (_hF' : F ≤ 3) (_hL : len ≤ 60) :
  Calls Tryz.prog 39 #[.agg #[.int .i64 V, .int .i64 F, .slice s len cap], .agg #[.int .i64 14, .int .i64 tto, .int .i64 a, .int .i64 b, .int .i64 n, .int .i64 g]] w fun e w' => e = .returned (.int .i64 (ckOne V F len ⟨14, tto, a, b, n, g⟩)) ∧ Below w.heap.size w w' := by
 have t0 : (wordB 14).toList.isEmpty = false := by rw [ByteArray.toList_eq]; rfl
 have t1 : nTo 14 = true := rfl
 have t2 : nA 14 = false := rfl
 have t3 : nB 14 = false := rfl
 have t4 : nN 14 = true := rfl
 have t5 : nG 14 = false := rfl
 exact prf_933d6b

theorem checkOne_15 (V F : Int) (s : Option Addr) (len cap : Nat) (tto a b n g : Int) (w : World) (_hV : 1 ≤ V) (_hV' : V ≤ 8) (_hF : 0 ≤ F) (_hF' : F ≤ 3) (_hL : len ≤ 60) :
  Calls Tryz.prog 39 #[.agg #[.int .i64 V, .int .i64 F, .slice s len cap], .agg #[.int .i64 15, .int .i64 tto, .int .i64 a, .int .i64 b, .int .i64 n, .int .i64 g]] w fun e w' => e = .returned (.int .i64 (ckOne V F len ⟨15, tto, a, b, n, g⟩)) ∧ Below w.heap.size w w' := by
 have t0 : (wordB 15).toList.isEmpty = false := by rw [ByteArray.toList_eq]; rfl
 have t1 : nTo 15 = false := rfl
 have t2 : nA 15 = true := rfl
 have t3 : nB 15 = false := rfl
 have t4 : nN 15 = false := rfl
 have t5 : nG 15 = true := rfl
 exact prf_933d6b

theorem checkOne_16 (V F : Int) (s : Option Addr) (len cap : Nat) (tto a b n g : Int) (w : World) (_hV : 1 ≤ V) (_hV' : V ≤ 8) (_hF : 0 ≤ F) (_hF' : F ≤ 3) (_hL : len ≤ 60) :
  Calls Tryz.prog 39 #[.agg #[.int .i64 V, .int .i64 F, .slice s len cap], .agg #[.int .i64 16, .int .i64 tto, .int .i64 a, .int .i64 b, .int .i64 n, .int .i64 g]] w fun e w' => e = .returned (.int .i64 (ckOne V F len ⟨16, tto, a, b, n, g⟩)) ∧ Below w.heap.size w w' := by
 have t0 : (wordB 16).toList.isEmpty = false := by rw [ByteArray.toList_eq]; rfl
 have t1 : nTo 16 = false := rfl
 have t2 : nA 16 = false := rfl
 have t3 : nB 16 = false := rfl
 have t4 : nN 16 = false := rfl
 have t5 : nG 16 = true := rfl
 exact prf_933d6b

theorem checkOne_17 (V F : Int) (s : Option Addr) (len cap : Nat) (tto a b n g : Int) (w : World) (_hV : 1 ≤ V) (_hV' : V ≤ 8) (_hF : 0 ≤ F) (_hF' : F ≤ 3) (_hL : len ≤ 60) :
  Calls Tryz.prog 39 #[.agg #[.int .i64 V, .int .i64 F, .slice s len cap], .agg #[.int .i64 17, .int .i64 tto, .int .i64 a, .int .i64 b, .int .i64 n, .int .i64 g]] w fun e w' => e = .returned (.int .i64 (ckOne V F len ⟨17, tto, a, b, n, g⟩)) ∧ Below w.heap.size w w' := by
 have t0 : (wordB 17).toList.isEmpty = false := by rw [ByteArray.toList_eq]; rfl
 have t1 : nTo 17 = false := rfl
 have t2 : nA 17 = true := rfl
 have t3 : nB 17 = false := rfl
 have t4 : nN 17 = false := rfl
 have t5 : nG 17 = false := rfl
 exact prf_933d6b

theorem checkOne_18 (V F : Int) (s : Option Addr) (len cap : Nat) (tto a b n g : Int) (w : World) (_hV : 1 ≤ V) (_hV' : V ≤ 8) (_hF : 0 ≤ F) (_hF' : F ≤ 3) (_hL : len ≤ 60) :
  Calls Tryz.prog 39 #[.agg #[.int .i64 V, .int .i64 F, .slice s len cap], .agg #[.int .i64 18, .int .i64 tto, .int .i64 a, .int .i64 b, .int .i64 n, .int .i64 g]] w fun e w' => e = .returned (.int .i64 (ckOne V F len ⟨18, tto, a, b, n, g⟩)) ∧ Below w.heap.size w w' := by
 have t0 : (wordB 18).toList.isEmpty = false := by rw [ByteArray.toList_eq]; rfl
 have t1 : nTo 18 = false := rfl
 have t2 : nA 18 = true := rfl
 have t3 : nB 18 = false := rfl
 have t4 : nN 18 = false := rfl
 have t5 : nG 18 = false := rfl
 exact prf_933d6b
end
section
set_option maxHeartbeats 1000000
open Go.RowKit

theorem checkOne_any (V F : Int) (s : Option Addr) (len cap : Nat) (i : Ins) (w : World) (hV : 1 ≤ V) (hV' : V ≤ 8) (hF : 0 ≤ F) (hF' : F ≤ 3) (hL : len ≤ 60) :
  Calls Tryz.prog 39 #[.agg #[.int .i64 V, .int .i64 F, .slice s len cap], .agg #[.int .i64 i.k, .int .i64 i.to, .int .i64 i.a, .int .i64 i.b, .int .i64 i.n, .int .i64 i.g]] w fun e w' => e = .returned (.int .i64 (ckOne V F len i)) ∧ Below w.heap.size w w' := by
 obtain ⟨k, tto, a, b, n, g⟩ := i
 by_cases h : btw k 1 19 = true
 ·rcases btw_cases h with rfl | rfl | rfl | rfl | rfl | rfl | rfl | rfl | rfl | rfl | rfl | rfl | rfl | rfl | rfl | rfl | rfl | rfl | rfl
  ·exact checkOne_1 V F s len cap tto a b n g w hV hV' hF hF' hL
  ·exact checkOne_2 V F s len cap tto a b n g w hV hV' hF hF' hL
  ·exact checkOne_3 V F s len cap tto a b n g w hV hV' hF hF' hL
  ·exact checkOne_4 V F s len cap tto a b n g w hV hV' hF hF' hL
  ·exact checkOne_5 V F s len cap tto a b n g w hV hV' hF hF' hL
  ·exact checkOne_6 V F s len cap tto a b n g w hV hV' hF hF' hL
  ·exact checkOne_7 V F s len cap tto a b n g w hV hV' hF hF' hL
  ·exact checkOne_8 V F s len cap tto a b n g w hV hV' hF hF' hL
  ·exact checkOne_9 V F s len cap tto a b n g w hV hV' hF hF' hL
  ·exact checkOne_10 V F s len cap tto a b n g w hV hV' hF hF' hL
  ·exact checkOne_11 V F s len cap tto a b n g w hV hV' hF hF' hL
  ·exact checkOne_12 V F s len cap tto a b n g w hV hV' hF hF' hL
  ·exact checkOne_13 V F s len cap tto a b n g w hV hV' hF hF' hL
  ·exact checkOne_14 V F s len cap tto a b n g w hV hV' hF hF' hL
  ·exact checkOne_15 V F s len cap tto a b n g w hV hV' hF hF' hL
  ·exact checkOne_16 V F s len cap tto a b n g w hV hV' hF hF' hL
  ·exact checkOne_17 V F s len cap tto a b n g w hV hV' hF hF' hL
  ·exact checkOne_18 V F s len cap tto a b n g w hV hV' hF hF' hL
  ·exact checkOne_19 V F s len cap tto a b n g w hV hV' hF hF' hL
 ·exact checkOne_no V F s len cap k tto a b n g w hV hV' hF hF' hL (by simpa using h)

theorem ckAll_step {V F L : Int} {c : List Ins} {k : Nat} (h : k < c.length) : ckAll V F L (c.drop k) = if ckOne V F L c[k] = 0 then ckAll V F L (c.drop (k + 1)) else ckOne V F L c[k] := by
 rw [List.drop_eq_getElem_cons h]; rfl

theorem checkProgram_loop (V F : Int) (b off cap : Nat) (c : List Ins) (w : World) (hV : 1 ≤ V) (hV' : V ≤ 8) (hF : 0 ≤ F) (hF' : F ≤ 3) (hL : c.length ≤ 60) (hb : b < w.heap.size) (hc : ∀ k (h : k < c.length), InsAt w b (off + k * 6) c[k]) :
  Calls Tryz.prog 12 #[.agg #[.int .i64 V, .int .i64 F, .slice (some ⟨b, off, none⟩) c.length cap]] w fun e w' => e = .returned (.int .i64 (ckAll V F c.length c)) ∧ Below w.heap.size w w' := by
 have t1 : btw V 1 8 = true := btw_true hV hV'
 have t2 : btw F 0 3 = true := btw_true hF hF'
 go_enter Tryz.func12, Tryz.ntmps12
 go_wp2_with (go_at_call 38; refine (between_any _ _ _ _).mono ?_; rintro e w' ⟨rfl, rfl⟩)
 go_loopw [3] (fun i wr => ∃ k : Nat, k ≤ c.length ∧ i = .int .i64 k ∧ Below (w.heap.size + 1) (w.alloc (.cells #[.int .i64 V, .int .i64 F, .slice (some ⟨b, off, none⟩) c.length cap] 24)) wr ∧ Hid (ckAll V F c.length (c.drop k) = ckAll V F c.length c)) (fun i _ => c.length - (intOf i).toNat)
 case atStart => exact ⟨0, Nat.zero_le _, rfl, Below.refl _ _, rfl⟩
 case round =>
  obtain ⟨k, hk, rfl, hbr, HR⟩ := hrel
  have q0 : wr.cell? ⟨w.heap.size, 0, none⟩ = some (.int .i64 V) := by rw [hbr.cell (by simp)]; simp [go_sem]
  have q1 : wr.cell? ⟨w.heap.size, 1, none⟩ = some (.int .i64 F) := by rw [hbr.cell (by simp)]; simp [go_sem]
  have q2 : wr.cell? ⟨w.heap.size, 2, none⟩ = some (.slice (some ⟨b, off, none⟩) c.length cap) := by rw [hbr.cell (by simp)]; simp [go_sem]
  have s1 : w.heap.size < wr.heap.size := by have := hbr.size; simp at this; omega
  have s2 : b < wr.heap.size := by omega
  by_cases hlt : k < c.length
  ·have hi : InsAt wr b (off + k * 6) c[k] := ((hc k hlt).below (Below.alloc (Below.refl w.heap.size w) (Nat.le_refl _) _) hb).below hbr (by omega)
   obtain ⟨i0, i1, i2, i3, i4, i5⟩ := hi
   have n0 : (0 : Int) ≤ (k : Int) := by omega
   have n1 : (k : Int) < (c.length : Int) := by omega
   go_wp2
   go_region_held3 (fun w' => w'.cell? ⟨w.heap.size, 0, none⟩ = some (.int .i64 V) ∧ w'.cell? ⟨w.heap.size, 1, none⟩ = some (.int .i64 F) ∧ w'.cell? ⟨w.heap.size, 2, none⟩ = some (.slice (some ⟨b, off, none⟩) c.length cap)
    ∧ w'.cell? ⟨b, off + k * 6, none⟩ = some (.int .i64 c[k].k) ∧ w'.cell? ⟨b, off + k * 6 + 1, none⟩ = some (.int .i64 c[k].to) ∧ w'.cell? ⟨b, off + k * 6 + 2, none⟩ = some (.int .i64 c[k].a) ∧ w'.cell? ⟨b, off + k * 6 + 3, none⟩ = some (.int .i64 c[k].b) ∧ w'.cell? ⟨b, off + k * 6 + 4, none⟩ = some (.int .i64 c[k].n) ∧ w'.cell? ⟨b, off + k * 6 + 5, none⟩ = some (.int .i64 c[k].g))
    (first | (simp only [World.cell?_drew, q0, q1, q2, i0, i1, i2, i3, i4, i5, and_self]; done) | (simp only [hc1 _ _ (show _ < wr.drew.heap.size from s1), hc1 _ _ (show b < wr.drew.heap.size from s2), World.cell?_drew, q0, q1, q2, i0, i1, i2, i3, i4, i5, and_self]; done))
    ((go_at_call 39; refine (checkOne_any V F _ _ _ c[k] _ hV hV' hF hF' hL).mono ?_; rintro e w1 ⟨rfl, hb1⟩; obtain ⟨hc1, hf1⟩ := bcell hb1))
   clear hc1 hf1
   have HB : Below (w.heap.size + 1) (w.alloc (.cells #[.int .i64 V, .int .i64 F, .slice (some ⟨b, off, none⟩) c.length cap] 24)) w1 := hbr.drew.trans (Below.mono hb1 (show w.heap.size + 1 ≤ wr.heap.size by omega))
   have HS := ckAll_step (V := V) (F := F) (L := c.length) hlt
   by_cases hz : ckOne V F c.length c[k] = 0
   ·rw [hz]
    go_wp2
    go_roundw
    case rel => exact ⟨k + 1, by omega, by go_num, HB, by have := HR.out; rw [HS, if_pos hz] at this; exact this⟩
    case measure => simp [intOf]; omega
   ·rw [if_neg hz] at HS
    have hz' : (ckOne V F c.length c[k] != 0) = true := by simpa using hz
    go_wp2
    go_ret
    exact ⟨ret_int (by have := HR.out; rw [HS] at this; exact this), (Below.alloc (Below.refl _ _) (Nat.le_refl _) _).trans (HB.mono (by omega))⟩
  ·go_wp2
   go_ret
   exact ⟨ret_int (by have := HR.out; rw [List.drop_eq_nil_of_le (by omega)] at this; exact this), (Below.alloc (Below.refl _ _) (Nat.le_refl _) _).trans (hbr.mono (by omega))⟩

theorem checkProgram_nil (V F : Int) (s : Option Addr) (cap : Nat) (w : World) (hV : 1 ≤ V) (hV' : V ≤ 8) (hF : 0 ≤ F) (hF' : F ≤ 3) :
  Calls Tryz.prog 12 #[.agg #[.int .i64 V, .int .i64 F, .slice s 0 cap]] w fun e w' => e = .returned (.int .i64 0) ∧ Below w.heap.size w w' := by
 have t1 : btw V 1 8 = true := btw_true hV hV'
 have t2 : btw F 0 3 = true := btw_true hF hF'
 go_enter Tryz.func12, Tryz.ntmps12
 go_wp2_with (go_at_call 38; refine (between_any _ _ _ _).mono ?_; rintro e w' ⟨rfl, rfl⟩)
 go_rounds 1
 go_ret
 exact ⟨rfl, by go_grown⟩

theorem checkProgram_many (V F : Int) (s : Option Addr) (len cap : Nat) (w : World) (hV : 1 ≤ V) (hV' : V ≤ 8) (hF : 0 ≤ F) (hF' : F ≤ 3) (hl : 60 < len) :
  Calls Tryz.prog 12 #[.agg #[.int .i64 V, .int .i64 F, .slice s len cap]] w fun e w' => e = .returned (.int .i64 2) ∧ Below w.heap.size w w' := by
 have t1 : btw V 1 8 = true := btw_true hV hV'
 have t2 : btw F 0 3 = true := btw_true hF hF'
 have t3 : (60 : Int) < (len : Int) := by omega
 go_enter Tryz.func12, Tryz.ntmps12
 go_wp2_with (go_at_call 38; refine (between_any _ _ _ _).mono ?_; rintro e w' ⟨rfl, rfl⟩)
 go_ret
 exact ⟨rfl, by go_grown⟩

theorem checkProgram_vars (V F : Int) (s : Option Addr) (len cap : Nat) (w : World) (t1 : btw V 1 8 = false) :
  Calls Tryz.prog 12 #[.agg #[.int .i64 V, .int .i64 F, .slice s len cap]] w fun e w' => e = .returned (.int .i64 3) ∧ Below w.heap.size w w' := by
 go_enter Tryz.func12, Tryz.ntmps12
 go_wp2_with (go_at_call 38; refine (between_any _ _ _ _).mono ?_; rintro e w' ⟨rfl, rfl⟩)
 go_ret
 exact ⟨rfl, by go_grown⟩

theorem checkProgram_fields (V F : Int) (s : Option Addr) (len cap : Nat) (w : World) (t1 : btw V 1 8 = true) (t2 : btw F 0 3 = false) :
  Calls Tryz.prog 12 #[.agg #[.int .i64 V, .int .i64 F, .slice s len cap]] w fun e w' => e = .returned (.int .i64 3) ∧ Below w.heap.size w w' := by
 go_enter Tryz.func12, Tryz.ntmps12
 go_wp2_with (go_at_call 38; refine (between_any _ _ _ _).mono ?_; rintro e w' ⟨rfl, rfl⟩)
 go_ret
 exact ⟨rfl, by go_grown⟩

/-- The reference's check of a program, whatever it is handed. -/
theorem checkProgram_any (V F : Int) (s : Option Addr) (cap : Nat) (c : List Ins) (w : World) (h : CodeAt w s c) :
  Calls Tryz.prog 12 #[.agg #[.int .i64 V, .int .i64 F, .slice s c.length cap]] w fun e w' => e = .returned (.int .i64 (ckProg V F c)) ∧ Below w.heap.size w w' := by
 unfold ckProg
 cases t1 : btw V 1 8 with
 | false => simpa using checkProgram_vars V F s c.length cap w t1
 | true =>
  cases t2 : btw F 0 3 with
  | false => simpa using checkProgram_fields V F s c.length cap w t1 t2
  | true =>
   have ⟨hV, hV'⟩ : 1 ≤ V ∧ V ≤ 8 := by simpa [btw] using t1
   have ⟨hF, hF'⟩ : 0 ≤ F ∧ F ≤ 3 := by simpa [btw] using t2
   by_cases hl : 60 < c.length
   ·simpa [hl] using checkProgram_many V F s c.length cap w hV hV' hF hF' hl
   ·rcases h with rfl | ⟨b, off, rfl, hb, hc⟩
    ·simpa [ckAll] using checkProgram_nil V F s cap w hV hV' hF hF'
    ·simpa [hl] using checkProgram_loop V F b off cap c w hV hV' hF hF' (by omega) hb hc
end
end Go.Proofs.YtmapdpcfanecdabGreat
