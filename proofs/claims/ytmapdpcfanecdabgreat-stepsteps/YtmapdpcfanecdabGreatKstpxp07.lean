/- Walks over the document's own answers: the check of an instruction, kind by kind. -/
import Derived.Test.YtmapdpcfanecdabGreatKstpxp03
set_option linter.unusedSimpArgs false
set_option linter.unusedVariables false
namespace Go.Proofs.YtmapdpcfanecdabGreat
section
set_option maxHeartbeats 2000000
open Go.RowKit

theorem checkOne_14 (V F : Int) (s : Option Addr) (len cap : Nat) (tto a b n g : Int) (w : World) (_hV : 1 ≤ V) (_hV' : V ≤ 8) (_hF : 0 ≤ F) (_hF' : F ≤ 3) (_hL : len ≤ 60) :
  Calls Tryz.prog 39 #[.agg #[.int .i64 V, .int .i64 F, .slice s len cap], .agg #[.int .i64 14, .int .i64 tto, .int .i64 a, .int .i64 b, .int .i64 n, .int .i64 g]] w fun e w' => e = .returned (.int .i64 (ckOne V F len ⟨14, tto, a, b, n, g⟩)) ∧ Below w.heap.size w w' := by
 have t0 : (wordB 14).toList.isEmpty = false := by rw [ByteArray.toList_eq]; rfl
 have t1 : nTo 14 = true := rfl
 have t2 : nA 14 = false := rfl
 have t3 : nB 14 = false := rfl
 have t4 : nN 14 = true := rfl
 have t5 : nG 14 = false := rfl
 exact prf_933d6b

theorem checkOne_15 (V F : Int) (s : Option Addr) (len cap : Nat) (tto a b n g : Int) (w : World) (_hV : 1 ≤ V) (_hV' : V ≤ 8) (_hF : 0 ≤ F) (_hF' : F ≤ 3) (_hL : len ≤ 60) :
  Calls Tryz.prog 39 #[.agg #[.int .i64 V, .int .i64 F, .slice s len cap], .agg #[.int .i64 15, .int .i64 tto, .int .i64 a, .int .i64 b, .int .i64 n, .int .i64 g]] w fun e w' => e = .returned (.int .i64 (ckOne V F len ⟨15, tto, a, b, n, g⟩)) ∧ Below w.heap.size w w' := by
 have t0 : (wordB 15).toList.isEmpty = false := by rw [ByteArray.toList_eq]; rfl
 have t1 : nTo 15 = false := rfl
 have t2 : nA 15 = true := rfl
 have t3 : nB 15 = false := rfl
 have t4 : nN 15 = false := rfl
 have t5 : nG 15 = true := rfl
 exact prf_933d6b

theorem checkOne_16 (V F : Int) (s : Option Addr) (len cap : Nat) (tto a b n g : Int) (w : World) (_hV : 1 ≤ V) (_hV' : V ≤ 8) (_hF : 0 ≤ F) (_hF' : F ≤ 3) (_hL : len ≤ 60) :
  Calls Tryz.prog 39 #[.agg #[.int .i64 V, .int .i64 F, .slice s len cap], .agg #[.int .i64 16, .int .i64 tto, .int .i64 a, .int .i64 b, .int .i64 n, .int .i64 g]] w fun e w' => e = .returned (.int .i64 (ckOne V F len ⟨16, tto, a, b, n, g⟩)) ∧ Below w.heap.size w w' := by
 have t0 : (wordB 16).toList.isEmpty = false := by rw [ByteArray.toList_eq]; rfl
 have t1 : nTo 16 = false := rfl
 have t2 : nA 16 = false := rfl
 have t3 : nB 16 = false := rfl
 have t4 : nN 16 = false := rfl
 have t5 : nG 16 = true := rfl
 exact prf_933d6b

theorem checkOne_17 (V F : Int) (s : Option Addr) (len cap : Nat) (tto a b n g : Int) (w : World) (_hV : 1 ≤ V) (_hV' : V ≤ 8) (_hF : 0 ≤ F) (_hF' : F ≤ 3) (_hL : len ≤ 60) :
  Calls Tryz.prog 39 #[.agg #[.int .i64 V, .int .i64 F, .slice s len cap], .agg #[.int .i64 17, .int .i64 tto, .int .i64 a, .int .i64 b, .int .i64 n, .int .i64 g]] w fun e w' => e = .returned (.int .i64 (ckOne V F len ⟨17, tto, a, b, n, g⟩)) ∧ Below w.heap.size w w' := by
 have t0 : (wordB 17).toList.isEmpty = false := by rw [ByteArray.toList_eq]; rfl
 have t1 : nTo 17 = false := rfl
 have t2 : nA 17 = true := rfl
 have t3 : nB 17 = false := rfl
 have t4 : nN 17 = false := rfl
 have t5 : nG 17 = false := rfl
 exact prf_933d6b

theorem checkOne_18 (V F : Int) (s : Option Addr) (len cap : Nat) (tto a b n g : Int) (w : World) (_hV : 1 ≤ V) (_hV' : V ≤ 8) (_hF : 0 ≤ F) (_hF' : F ≤ 3) (_hL : len ≤ 60) :
  Calls Tryz.prog 39 #[.agg #[.int .i64 V, .int .i64 F, .slice s len cap], .agg #[.int .i64 18, .int .i64 tto, .int .i64 a, .int .i64 b, .int .i64 n, .int .i64 g]] w fun e w' => e = .returned (.int .i64 (ckOne V F len ⟨18, tto, a, b, n, g⟩)) ∧ Below w.heap.size w w' := by
 have t0 : (wordB 18).toList.isEmpty = false := by rw [ByteArray.toList_eq]; rfl
 have t1 : nTo 18 = false := rfl
 have t2 : nA 18 = true := rfl
 have t3 : nB 18 = false := rfl
 have t4 : nN 18 = false := rfl
 have t5 : nG 18 = false := rfl
 exact prf_933d6b
end
end Go.Proofs.YtmapdpcfanecdabGreat
