/- Walks over the document's own answers: the check of an instruction, kind by kind. -/
import Derived.Test.YtmapdpcfanecdabGreatKstpxp03
set_option linter.unusedSimpArgs false
set_option linter.unusedVariables false
namespace Go.Proofs.YtmapdpcfanecdabGreat
section
set_option maxHeartbeats 2000000
open Go.RowKit

theorem checkOne_5 (V F : Int) (s : Option Addr) (len cap : Nat) (tto a b n g : Int) (w : World) (_hV : 1 ≤ V) (_hV' : V ≤ 8) (_hF : 0 ≤ F) (_hF' : F ≤ 3) (_hL : len ≤ 60) :
  Calls Tryz.prog 39 #[.agg #[.int .i64 V, .int .i64 F, .slice s len cap], .agg #[.int .i64 5, .int .i64 tto, .int .i64 a, .int .i64 b, .int .i64 n, .int .i64 g]] w fun e w' => e = .returned (.int .i64 (ckOne V F len ⟨5, tto, a, b, n, g⟩)) ∧ Below w.heap.size w w' := by
 have t0 : (wordB 5).toList.isEmpty = false := by rw [ByteArray.toList_eq]; rfl
 have t1 : nTo 5 = true := rfl
 have t2 : nA 5 = true := rfl
 have t3 : nB 5 = true := rfl
 have t4 : nN 5 = false := rfl
 have t5 : nG 5 = false := rfl
 exact prf_933d6b

theorem checkOne_6 (V F : Int) (s : Option Addr) (len cap : Nat) (tto a b n g : Int) (w : World) (_hV : 1 ≤ V) (_hV' : V ≤ 8) (_hF : 0 ≤ F) (_hF' : F ≤ 3) (_hL : len ≤ 60) :
  Calls Tryz.prog 39 #[.agg #[.int .i64 V, .int .i64 F, .slice s len cap], .agg #[.int .i64 6, .int .i64 tto, .int .i64 a, .int .i64 b, .int .i64 n, .int .i64 g]] w fun e w' => e = .returned (.int .i64 (ckOne V F len ⟨6, tto, a, b, n, g⟩)) ∧ Below w.heap.size w w' := by
 have t0 : (wordB 6).toList.isEmpty = false := by rw [ByteArray.toList_eq]; rfl
 have t1 : nTo 6 = true := rfl
 have t2 : nA 6 = true := rfl
 have t3 : nB 6 = true := rfl
 have t4 : nN 6 = false := rfl
 have t5 : nG 6 = false := rfl
 exact prf_933d6b

theorem checkOne_7 (V F : Int) (s : Option Addr) (len cap : Nat) (tto a b n g : Int) (w : World) (_hV : 1 ≤ V) (_hV' : V ≤ 8) (_hF : 0 ≤ F) (_hF' : F ≤ 3) (_hL : len ≤ 60) :
  Calls Tryz.prog 39 #[.agg #[.int .i64 V, .int .i64 F, .slice s len cap], .agg #[.int .i64 7, .int .i64 tto, .int .i64 a, .int .i64 b, .int .i64 n, .int .i64 g]] w fun e w' => e = .returned (.int .i64 (ckOne V F len ⟨7, tto, a, b, n, g⟩)) ∧ Below w.heap.size w w' := by
 have t0 : (wordB 7).toList.isEmpty = false := by rw [ByteArray.toList_eq]; rfl
 have t1 : nTo 7 = true := rfl
 have t2 : nA 7 = true := rfl
 have t3 : nB 7 = true := rfl
 have t4 : nN 7 = false := rfl
 have t5 : nG 7 = false := rfl
 exact prf_933d6b

theorem checkOne_8 (V F : Int) (s : Option Addr) (len cap : Nat) (tto a b n g : Int) (w : World) (_hV : 1 ≤ V) (_hV' : V ≤ 8) (_hF : 0 ≤ F) (_hF' : F ≤ 3) (_hL : len ≤ 60) :
  Calls Tryz.prog 39 #[.agg #[.int .i64 V, .int .i64 F, .slice s len cap], .agg #[.int .i64 8, .int .i64 tto, .int .i64 a, .int .i64 b, .int .i64 n, .int .i64 g]] w fun e w' => e = .returned (.int .i64 (ckOne V F len ⟨8, tto, a, b, n, g⟩)) ∧ Below w.heap.size w w' := by
 have t0 : (wordB 8).toList.isEmpty = false := by rw [ByteArray.toList_eq]; rfl
 have t1 : nTo 8 = true := rfl
 have t2 : nA 8 = true := rfl
 have t3 : nB 8 = true := rfl
 have t4 : nN 8 = false := rfl
 have t5 : nG 8 = false := rfl
 exact prf_933d6b

theorem checkOne_no (V F : Int) (s : Option Addr) (len cap : Nat) (k tto a b n g : Int) (w : World) (_hV : 1 ≤ V) (_hV' : V ≤ 8) (_hF : 0 ≤ F) (_hF' : F ≤ 3) (_hL : len ≤ 60) (hk : btw k 1 19 = false) :
  Calls Tryz.prog 39 #[.agg #[.int .i64 V, .int .i64 F, .slice s len cap], .agg #[.int .i64 k, .int .i64 tto, .int .i64 a, .int .i64 b, .int .i64 n, .int .i64 g]] w fun e w' => e = .returned (.int .i64 (ckOne V F len ⟨k, tto, a, b, n, g⟩)) ∧ Below w.heap.size w w' := by
 have t0 : (wordB k).toList.isEmpty = true := by rw [wordB_none hk, ByteArray.toList_eq]; rfl
 exact prf_933d6b
end
end Go.Proofs.YtmapdpcfanecdabGreat
