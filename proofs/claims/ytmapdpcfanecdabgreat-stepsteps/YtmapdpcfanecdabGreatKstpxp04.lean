/- Walks over the document's own answers: the check of an instruction, kind by kind. -/
import Derived.Test.YtmapdpcfanecdabGreatKstpxp03
set_option linter.unusedSimpArgs false
set_option linter.unusedVariables false
namespace Go.Proofs.YtmapdpcfanecdabGreat
section
set_option maxHeartbeats 2000000
open Go.RowKit

theorem checkOne_1 (V F : Int) (s : Option Addr) (len cap : Nat) (tto a b n g : Int) (w : World) (_hV : 1 ≤ V) (_hV' : V ≤ 8) (_hF : 0 ≤ F) (_hF' : F ≤ 3) (_hL : len ≤ 60) :
  Calls Tryz.prog 39 #[.agg #[.int .i64 V, .int .i64 F, .slice s len cap], .agg #[.int .i64 1, .int .i64 tto, .int .i64 a, .int .i64 b, .int .i64 n, .int .i64 g]] w fun e w' => e = .returned (.int .i64 (ckOne V F len ⟨1, tto, a, b, n, g⟩)) ∧ Below w.heap.size w w' := by
 have t0 : (wordB 1).toList.isEmpty = false := by rw [ByteArray.toList_eq]; rfl
 have t1 : nTo 1 = true := rfl
 have t2 : nA 1 = false := rfl
 have t3 : nB 1 = false := rfl
 have t4 : nN 1 = true := rfl
 have t5 : nG 1 = false := rfl
 exact prf_933d6b

theorem checkOne_2 (V F : Int) (s : Option Addr) (len cap : Nat) (tto a b n g : Int) (w : World) (_hV : 1 ≤ V) (_hV' : V ≤ 8) (_hF : 0 ≤ F) (_hF' : F ≤ 3) (_hL : len ≤ 60) :
  Calls Tryz.prog 39 #[.agg #[.int .i64 V, .int .i64 F, .slice s len cap], .agg #[.int .i64 2, .int .i64 tto, .int .i64 a, .int .i64 b, .int .i64 n, .int .i64 g]] w fun e w' => e = .returned (.int .i64 (ckOne V F len ⟨2, tto, a, b, n, g⟩)) ∧ Below w.heap.size w w' := by
 have t0 : (wordB 2).toList.isEmpty = false := by rw [ByteArray.toList_eq]; rfl
 have t1 : nTo 2 = true := rfl
 have t2 : nA 2 = false := rfl
 have t3 : nB 2 = false := rfl
 have t4 : nN 2 = true := rfl
 have t5 : nG 2 = false := rfl
 exact prf_933d6b

theorem checkOne_3 (V F : Int) (s : Option Addr) (len cap : Nat) (tto a b n g : Int) (w : World) (_hV : 1 ≤ V) (_hV' : V ≤ 8) (_hF : 0 ≤ F) (_hF' : F ≤ 3) (_hL : len ≤ 60) :
  Calls Tryz.prog 39 #[.agg #[.int .i64 V, .int .i64 F, .slice s len cap], .agg #[.int .i64 3, .int .i64 tto, .int .i64 a, .int .i64 b, .int .i64 n, .int .i64 g]] w fun e w' => e = .returned (.int .i64 (ckOne V F len ⟨3, tto, a, b, n, g⟩)) ∧ Below w.heap.size w w' := by
 have t0 : (wordB 3).toList.isEmpty = false := by rw [ByteArray.toList_eq]; rfl
 have t1 : nTo 3 = true := rfl
 have t2 : nA 3 = false := rfl
 have t3 : nB 3 = false := rfl
 have t4 : nN 3 = false := rfl
 have t5 : nG 3 = false := rfl
 exact prf_933d6b

theorem checkOne_4 (V F : Int) (s : Option Addr) (len cap : Nat) (tto a b n g : Int) (w : World) (_hV : 1 ≤ V) (_hV' : V ≤ 8) (_hF : 0 ≤ F) (_hF' : F ≤ 3) (_hL : len ≤ 60) :
  Calls Tryz.prog 39 #[.agg #[.int .i64 V, .int .i64 F, .slice s len cap], .agg #[.int .i64 4, .int .i64 tto, .int .i64 a, .int .i64 b, .int .i64 n, .int .i64 g]] w fun e w' => e = .returned (.int .i64 (ckOne V F len ⟨4, tto, a, b, n, g⟩)) ∧ Below w.heap.size w w' := by
 have t0 : (wordB 4).toList.isEmpty = false := by rw [ByteArray.toList_eq]; rfl
 have t1 : nTo 4 = true := rfl
 have t2 : nA 4 = true := rfl
 have t3 : nB 4 = false := rfl
 have t4 : nN 4 = false := rfl
 have t5 : nG 4 = false := rfl
 exact prf_933d6b

theorem checkOne_19 (V F : Int) (s : Option Addr) (len cap : Nat) (tto a b n g : Int) (w : World) (_hV : 1 ≤ V) (_hV' : V ≤ 8) (_hF : 0 ≤ F) (_hF' : F ≤ 3) (_hL : len ≤ 60) :
  Calls Tryz.prog 39 #[.agg #[.int .i64 V, .int .i64 F, .slice s len cap], .agg #[.int .i64 19, .int .i64 tto, .int .i64 a, .int .i64 b, .int .i64 n, .int .i64 g]] w fun e w' => e = .returned (.int .i64 (ckOne V F len ⟨19, tto, a, b, n, g⟩)) ∧ Below w.heap.size w w' := by
 have t0 : (wordB 19).toList.isEmpty = false := by rw [ByteArray.toList_eq]; rfl
 have t1 : nTo 19 = false := rfl
 have t2 : nA 19 = false := rfl
 have t3 : nB 19 = false := rfl
 have t4 : nN 19 = false := rfl
 have t5 : nG 19 = false := rfl
 exact prf_933d6b
end
end Go.Proofs.YtmapdpcfanecdabGreat
