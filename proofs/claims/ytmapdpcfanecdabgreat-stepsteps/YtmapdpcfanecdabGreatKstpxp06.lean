/- Walks over the document's own answers: the check of an instruction, kind by kind. -/
import Derived.Test.YtmapdpcfanecdabGreatKstpxp03
set_option linter.unusedSimpArgs false
set_option linter.unusedVariables false
namespace Go.Proofs.YtmapdpcfanecdabGreat
section
set_option maxHeartbeats 2000000
open Go.RowKit

theorem checkOne_9 (V F : Int) (s : Option Addr) (len cap : Nat) (tto a b n g : Int) (w : World) (_hV : 1 ≤ V) (_hV' : V ≤ 8) (_hF : 0 ≤ F) (_hF' : F ≤ 3) (_hL : len ≤ 60) :
  Calls Tryz.prog 39 #[.agg #[.int .i64 V, .int .i64 F, .slice s len cap], .agg #[.int .i64 9, .int .i64 tto, .int .i64 a, .int .i64 b, .int .i64 n, .int .i64 g]] w fun e w' => e = .returned (.int .i64 (ckOne V F len ⟨9, tto, a, b, n, g⟩)) ∧ Below w.heap.size w w' := by
 have t0 : (wordB 9).toList.isEmpty = false := by rw [ByteArray.toList_eq]; rfl
 have t1 : nTo 9 = true := rfl
 have t2 : nA 9 = true := rfl
 have t3 : nB 9 = true := rfl
 have t4 : nN 9 = false := rfl
 have t5 : nG 9 = false := rfl
 exact prf_933d6b

theorem checkOne_10 (V F : Int) (s : Option Addr) (len cap : Nat) (tto a b n g : Int) (w : World) (_hV : 1 ≤ V) (_hV' : V ≤ 8) (_hF : 0 ≤ F) (_hF' : F ≤ 3) (_hL : len ≤ 60) :
  Calls Tryz.prog 39 #[.agg #[.int .i64 V, .int .i64 F, .slice s len cap], .agg #[.int .i64 10, .int .i64 tto, .int .i64 a, .int .i64 b, .int .i64 n, .int .i64 g]] w fun e w' => e = .returned (.int .i64 (ckOne V F len ⟨10, tto, a, b, n, g⟩)) ∧ Below w.heap.size w w' := by
 have t0 : (wordB 10).toList.isEmpty = false := by rw [ByteArray.toList_eq]; rfl
 have t1 : nTo 10 = true := rfl
 have t2 : nA 10 = true := rfl
 have t3 : nB 10 = false := rfl
 have t4 : nN 10 = false := rfl
 have t5 : nG 10 = false := rfl
 exact prf_933d6b

theorem checkOne_11 (V F : Int) (s : Option Addr) (len cap : Nat) (tto a b n g : Int) (w : World) (_hV : 1 ≤ V) (_hV' : V ≤ 8) (_hF : 0 ≤ F) (_hF' : F ≤ 3) (_hL : len ≤ 60) :
  Calls Tryz.prog 39 #[.agg #[.int .i64 V, .int .i64 F, .slice s len cap], .agg #[.int .i64 11, .int .i64 tto, .int .i64 a, .int .i64 b, .int .i64 n, .int .i64 g]] w fun e w' => e = .returned (.int .i64 (ckOne V F len ⟨11, tto, a, b, n, g⟩)) ∧ Below w.heap.size w w' := by
 have t0 : (wordB 11).toList.isEmpty = false := by rw [ByteArray.toList_eq]; rfl
 have t1 : nTo 11 = true := rfl
 have t2 : nA 11 = false := rfl
 have t3 : nB 11 = false := rfl
 have t4 : nN 11 = false := rfl
 have t5 : nG 11 = false := rfl
 exact prf_933d6b

theorem checkOne_12 (V F : Int) (s : Option Addr) (len cap : Nat) (tto a b n g : Int) (w : World) (_hV : 1 ≤ V) (_hV' : V ≤ 8) (_hF : 0 ≤ F) (_hF' : F ≤ 3) (_hL : len ≤ 60) :
  Calls Tryz.prog 39 #[.agg #[.int .i64 V, .int .i64 F, .slice s len cap], .agg #[.int .i64 12, .int .i64 tto, .int .i64 a, .int .i64 b, .int .i64 n, .int .i64 g]] w fun e w' => e = .returned (.int .i64 (ckOne V F len ⟨12, tto, a, b, n, g⟩)) ∧ Below w.heap.size w w' := by
 have t0 : (wordB 12).toList.isEmpty = false := by rw [ByteArray.toList_eq]; rfl
 have t1 : nTo 12 = true := rfl
 have t2 : nA 12 = true := rfl
 have t3 : nB 12 = false := rfl
 have t4 : nN 12 = true := rfl
 have t5 : nG 12 = false := rfl
 exact prf_933d6b

theorem checkOne_13 (V F : Int) (s : Option Addr) (len cap : Nat) (tto a b n g : Int) (w : World) (_hV : 1 ≤ V) (_hV' : V ≤ 8) (_hF : 0 ≤ F) (_hF' : F ≤ 3) (_hL : len ≤ 60) :
  Calls Tryz.prog 39 #[.agg #[.int .i64 V, .int .i64 F, .slice s len cap], .agg #[.int .i64 13, .int .i64 tto, .int .i64 a, .int .i64 b, .int .i64 n, .int .i64 g]] w fun e w' => e = .returned (.int .i64 (ckOne V F len ⟨13, tto, a, b, n, g⟩)) ∧ Below w.heap.size w w' := by
 have t0 : (wordB 13).toList.isEmpty = false := by rw [ByteArray.toList_eq]; rfl
 have t1 : nTo 13 = false := rfl
 have t2 : nA 13 = true := rfl
 have t3 : nB 13 = true := rfl
 have t4 : nN 13 = true := rfl
 have t5 : nG 13 = false := rfl
 exact prf_933d6b
end
end Go.Proofs.YtmapdpcfanecdabGreat
