/- Walks over the document's own answers: the check of an instruction, kind by kind. -/
import Derived.Test.YtmapdpcfanecdaaGreatKpicyp05
namespace Go.Proofs.YtmapdpcfanecdaaGreat
set_option linter.unusedVariables false
set_option linter.unusedSimpArgs false
open Go.RowKit

set_option maxHeartbeats 2000000 in
theorem checkOne_9 (V F : Int) (s : Option Addr) (len cap : Nat) (tto a b n g : Int) (w : World) (_hV : 1 ≤ V) (_hV' : V ≤ 8) (_hF : 0 ≤ F) (_hF' : F ≤ 3) (_hL : len ≤ 60) :
    Calls Tryz.prog 74 #[.agg #[.int .i64 V, .int .i64 F, .slice s len cap], .agg #[.int .i64 9, .int .i64 tto, .int .i64 a, .int .i64 b, .int .i64 n, .int .i64 g]] w fun e w' => e = .returned (.int .i64 (ckOne V F len ⟨9, tto, a, b, n, g⟩)) ∧ Below w.heap.size w w' := by
  have t0 : (wordB 9).toList.isEmpty = false := by rw [ByteArray.toList_eq]; rfl
  have t1 : nTo 9 = true := rfl
  have t2 : nA 9 = true := rfl
  have t3 : nB 9 = true := rfl
  have t4 : nN 9 = false := rfl
  have t5 : nG 9 = false := rfl
  go_enter Tryz.func74, Tryz.ntmps74
  go_wp2_with (first
    | (go_at_call 73; refine (between_any _ _ _ _).mono ?_; rintro e w' ⟨rfl, rfl⟩)
    | (go_at_call 113; refine (namesTo_any _ _).mono ?_; rintro e w' ⟨rfl, rfl⟩)
    | (go_at_call 114; refine (namesA_any _ _).mono ?_; rintro e w' ⟨rfl, rfl⟩)
    | (go_at_call 115; refine (namesB_any _ _).mono ?_; rintro e w' ⟨rfl, rfl⟩)
    | (go_at_call 117; refine (namesN_any _ _).mono ?_; rintro e w' ⟨rfl, rfl⟩)
    | (go_at_call 116; refine (namesGoto_any _ _).mono ?_; rintro e w' ⟨rfl, rfl⟩)
    | (go_at_call 112; refine (word_any _ _).mono ?_; rintro e w1 ⟨rfl, hb1⟩; obtain ⟨hc1, hf1⟩ := bcell hb1))
  all_goals clear hc1 hf1
  all_goals go_ret
  all_goals exact ⟨ret_int (by simp_all [ckOne, btw19]), Below.trans (by go_grown) (hb1.mono (by go_size))⟩

set_option maxHeartbeats 2000000 in
theorem checkOne_10 (V F : Int) (s : Option Addr) (len cap : Nat) (tto a b n g : Int) (w : World) (_hV : 1 ≤ V) (_hV' : V ≤ 8) (_hF : 0 ≤ F) (_hF' : F ≤ 3) (_hL : len ≤ 60) :
    Calls Tryz.prog 74 #[.agg #[.int .i64 V, .int .i64 F, .slice s len cap], .agg #[.int .i64 10, .int .i64 tto, .int .i64 a, .int .i64 b, .int .i64 n, .int .i64 g]] w fun e w' => e = .returned (.int .i64 (ckOne V F len ⟨10, tto, a, b, n, g⟩)) ∧ Below w.heap.size w w' := by
  have t0 : (wordB 10).toList.isEmpty = false := by rw [ByteArray.toList_eq]; rfl
  have t1 : nTo 10 = true := rfl
  have t2 : nA 10 = true := rfl
  have t3 : nB 10 = false := rfl
  have t4 : nN 10 = false := rfl
  have t5 : nG 10 = false := rfl
  go_enter Tryz.func74, Tryz.ntmps74
  go_wp2_with (first
    | (go_at_call 73; refine (between_any _ _ _ _).mono ?_; rintro e w' ⟨rfl, rfl⟩)
    | (go_at_call 113; refine (namesTo_any _ _).mono ?_; rintro e w' ⟨rfl, rfl⟩)
    | (go_at_call 114; refine (namesA_any _ _).mono ?_; rintro e w' ⟨rfl, rfl⟩)
    | (go_at_call 115; refine (namesB_any _ _).mono ?_; rintro e w' ⟨rfl, rfl⟩)
    | (go_at_call 117; refine (namesN_any _ _).mono ?_; rintro e w' ⟨rfl, rfl⟩)
    | (go_at_call 116; refine (namesGoto_any _ _).mono ?_; rintro e w' ⟨rfl, rfl⟩)
    | (go_at_call 112; refine (word_any _ _).mono ?_; rintro e w1 ⟨rfl, hb1⟩; obtain ⟨hc1, hf1⟩ := bcell hb1))
  all_goals clear hc1 hf1
  all_goals go_ret
  all_goals exact ⟨ret_int (by simp_all [ckOne, btw19]), Below.trans (by go_grown) (hb1.mono (by go_size))⟩

set_option maxHeartbeats 2000000 in
theorem checkOne_11 (V F : Int) (s : Option Addr) (len cap : Nat) (tto a b n g : Int) (w : World) (_hV : 1 ≤ V) (_hV' : V ≤ 8) (_hF : 0 ≤ F) (_hF' : F ≤ 3) (_hL : len ≤ 60) :
    Calls Tryz.prog 74 #[.agg #[.int .i64 V, .int .i64 F, .slice s len cap], .agg #[.int .i64 11, .int .i64 tto, .int .i64 a, .int .i64 b, .int .i64 n, .int .i64 g]] w fun e w' => e = .returned (.int .i64 (ckOne V F len ⟨11, tto, a, b, n, g⟩)) ∧ Below w.heap.size w w' := by
  have t0 : (wordB 11).toList.isEmpty = false := by rw [ByteArray.toList_eq]; rfl
  have t1 : nTo 11 = true := rfl
  have t2 : nA 11 = false := rfl
  have t3 : nB 11 = false := rfl
  have t4 : nN 11 = false := rfl
  have t5 : nG 11 = false := rfl
  go_enter Tryz.func74, Tryz.ntmps74
  go_wp2_with (first
    | (go_at_call 73; refine (between_any _ _ _ _).mono ?_; rintro e w' ⟨rfl, rfl⟩)
    | (go_at_call 113; refine (namesTo_any _ _).mono ?_; rintro e w' ⟨rfl, rfl⟩)
    | (go_at_call 114; refine (namesA_any _ _).mono ?_; rintro e w' ⟨rfl, rfl⟩)
    | (go_at_call 115; refine (namesB_any _ _).mono ?_; rintro e w' ⟨rfl, rfl⟩)
    | (go_at_call 117; refine (namesN_any _ _).mono ?_; rintro e w' ⟨rfl, rfl⟩)
    | (go_at_call 116; refine (namesGoto_any _ _).mono ?_; rintro e w' ⟨rfl, rfl⟩)
    | (go_at_call 112; refine (word_any _ _).mono ?_; rintro e w1 ⟨rfl, hb1⟩; obtain ⟨hc1, hf1⟩ := bcell hb1))
  all_goals clear hc1 hf1
  all_goals go_ret
  all_goals exact ⟨ret_int (by simp_all [ckOne, btw19]), Below.trans (by go_grown) (hb1.mono (by go_size))⟩

set_option maxHeartbeats 2000000 in
theorem checkOne_12 (V F : Int) (s : Option Addr) (len cap : Nat) (tto a b n g : Int) (w : World) (_hV : 1 ≤ V) (_hV' : V ≤ 8) (_hF : 0 ≤ F) (_hF' : F ≤ 3) (_hL : len ≤ 60) :
    Calls Tryz.prog 74 #[.agg #[.int .i64 V, .int .i64 F, .slice s len cap], .agg #[.int .i64 12, .int .i64 tto, .int .i64 a, .int .i64 b, .int .i64 n, .int .i64 g]] w fun e w' => e = .returned (.int .i64 (ckOne V F len ⟨12, tto, a, b, n, g⟩)) ∧ Below w.heap.size w w' := by
  have t0 : (wordB 12).toList.isEmpty = false := by rw [ByteArray.toList_eq]; rfl
  have t1 : nTo 12 = true := rfl
  have t2 : nA 12 = true := rfl
  have t3 : nB 12 = false := rfl
  have t4 : nN 12 = true := rfl
  have t5 : nG 12 = false := rfl
  go_enter Tryz.func74, Tryz.ntmps74
  go_wp2_with (first
    | (go_at_call 73; refine (between_any _ _ _ _).mono ?_; rintro e w' ⟨rfl, rfl⟩)
    | (go_at_call 113; refine (namesTo_any _ _).mono ?_; rintro e w' ⟨rfl, rfl⟩)
    | (go_at_call 114; refine (namesA_any _ _).mono ?_; rintro e w' ⟨rfl, rfl⟩)
    | (go_at_call 115; refine (namesB_any _ _).mono ?_; rintro e w' ⟨rfl, rfl⟩)
    | (go_at_call 117; refine (namesN_any _ _).mono ?_; rintro e w' ⟨rfl, rfl⟩)
    | (go_at_call 116; refine (namesGoto_any _ _).mono ?_; rintro e w' ⟨rfl, rfl⟩)
    | (go_at_call 112; refine (word_any _ _).mono ?_; rintro e w1 ⟨rfl, hb1⟩; obtain ⟨hc1, hf1⟩ := bcell hb1))
  all_goals clear hc1 hf1
  all_goals go_ret
  all_goals exact ⟨ret_int (by simp_all [ckOne, btw19]), Below.trans (by go_grown) (hb1.mono (by go_size))⟩

set_option maxHeartbeats 2000000 in
theorem checkOne_13 (V F : Int) (s : Option Addr) (len cap : Nat) (tto a b n g : Int) (w : World) (_hV : 1 ≤ V) (_hV' : V ≤ 8) (_hF : 0 ≤ F) (_hF' : F ≤ 3) (_hL : len ≤ 60) :
    Calls Tryz.prog 74 #[.agg #[.int .i64 V, .int .i64 F, .slice s len cap], .agg #[.int .i64 13, .int .i64 tto, .int .i64 a, .int .i64 b, .int .i64 n, .int .i64 g]] w fun e w' => e = .returned (.int .i64 (ckOne V F len ⟨13, tto, a, b, n, g⟩)) ∧ Below w.heap.size w w' := by
  have t0 : (wordB 13).toList.isEmpty = false := by rw [ByteArray.toList_eq]; rfl
  have t1 : nTo 13 = false := rfl
  have t2 : nA 13 = true := rfl
  have t3 : nB 13 = true := rfl
  have t4 : nN 13 = true := rfl
  have t5 : nG 13 = false := rfl
  go_enter Tryz.func74, Tryz.ntmps74
  go_wp2_with (first
    | (go_at_call 73; refine (between_any _ _ _ _).mono ?_; rintro e w' ⟨rfl, rfl⟩)
    | (go_at_call 113; refine (namesTo_any _ _).mono ?_; rintro e w' ⟨rfl, rfl⟩)
    | (go_at_call 114; refine (namesA_any _ _).mono ?_; rintro e w' ⟨rfl, rfl⟩)
    | (go_at_call 115; refine (namesB_any _ _).mono ?_; rintro e w' ⟨rfl, rfl⟩)
    | (go_at_call 117; refine (namesN_any _ _).mono ?_; rintro e w' ⟨rfl, rfl⟩)
    | (go_at_call 116; refine (namesGoto_any _ _).mono ?_; rintro e w' ⟨rfl, rfl⟩)
    | (go_at_call 112; refine (word_any _ _).mono ?_; rintro e w1 ⟨rfl, hb1⟩; obtain ⟨hc1, hf1⟩ := bcell hb1))
  all_goals clear hc1 hf1
  all_goals go_ret
  all_goals exact ⟨ret_int (by simp_all [ckOne, btw19]), Below.trans (by go_grown) (hb1.mono (by go_size))⟩
end Go.Proofs.YtmapdpcfanecdaaGreat

namespace Go.Proofs.YtmapdpcfanecdaaGreat
set_option linter.unusedVariables false
set_option linter.unusedSimpArgs false
open Go.RowKit

set_option maxHeartbeats 2000000 in
theorem checkOne_14 (V F : Int) (s : Option Addr) (len cap : Nat) (tto a b n g : Int) (w : World) (_hV : 1 ≤ V) (_hV' : V ≤ 8) (_hF : 0 ≤ F) (_hF' : F ≤ 3) (_hL : len ≤ 60) :
    Calls Tryz.prog 74 #[.agg #[.int .i64 V, .int .i64 F, .slice s len cap], .agg #[.int .i64 14, .int .i64 tto, .int .i64 a, .int .i64 b, .int .i64 n, .int .i64 g]] w fun e w' => e = .returned (.int .i64 (ckOne V F len ⟨14, tto, a, b, n, g⟩)) ∧ Below w.heap.size w w' := by
  have t0 : (wordB 14).toList.isEmpty = false := by rw [ByteArray.toList_eq]; rfl
  have t1 : nTo 14 = true := rfl
  have t2 : nA 14 = false := rfl
  have t3 : nB 14 = false := rfl
  have t4 : nN 14 = true := rfl
  have t5 : nG 14 = false := rfl
  go_enter Tryz.func74, Tryz.ntmps74
  go_wp2_with (first
    | (go_at_call 73; refine (between_any _ _ _ _).mono ?_; rintro e w' ⟨rfl, rfl⟩)
    | (go_at_call 113; refine (namesTo_any _ _).mono ?_; rintro e w' ⟨rfl, rfl⟩)
    | (go_at_call 114; refine (namesA_any _ _).mono ?_; rintro e w' ⟨rfl, rfl⟩)
    | (go_at_call 115; refine (namesB_any _ _).mono ?_; rintro e w' ⟨rfl, rfl⟩)
    | (go_at_call 117; refine (namesN_any _ _).mono ?_; rintro e w' ⟨rfl, rfl⟩)
    | (go_at_call 116; refine (namesGoto_any _ _).mono ?_; rintro e w' ⟨rfl, rfl⟩)
    | (go_at_call 112; refine (word_any _ _).mono ?_; rintro e w1 ⟨rfl, hb1⟩; obtain ⟨hc1, hf1⟩ := bcell hb1))
  all_goals clear hc1 hf1
  all_goals go_ret
  all_goals exact ⟨ret_int (by simp_all [ckOne, btw19]), Below.trans (by go_grown) (hb1.mono (by go_size))⟩

set_option maxHeartbeats 2000000 in
theorem checkOne_15 (V F : Int) (s : Option Addr) (len cap : Nat) (tto a b n g : Int) (w : World) (_hV : 1 ≤ V) (_hV' : V ≤ 8) (_hF : 0 ≤ F) (_hF' : F ≤ 3) (_hL : len ≤ 60) :
    Calls Tryz.prog 74 #[.agg #[.int .i64 V, .int .i64 F, .slice s len cap], .agg #[.int .i64 15, .int .i64 tto, .int .i64 a, .int .i64 b, .int .i64 n, .int .i64 g]] w fun e w' => e = .returned (.int .i64 (ckOne V F len ⟨15, tto, a, b, n, g⟩)) ∧ Below w.heap.size w w' := by
  have t0 : (wordB 15).toList.isEmpty = false := by rw [ByteArray.toList_eq]; rfl
  have t1 : nTo 15 = false := rfl
  have t2 : nA 15 = true := rfl
  have t3 : nB 15 = false := rfl
  have t4 : nN 15 = false := rfl
  have t5 : nG 15 = true := rfl
  go_enter Tryz.func74, Tryz.ntmps74
  go_wp2_with (first
    | (go_at_call 73; refine (between_any _ _ _ _).mono ?_; rintro e w' ⟨rfl, rfl⟩)
    | (go_at_call 113; refine (namesTo_any _ _).mono ?_; rintro e w' ⟨rfl, rfl⟩)
    | (go_at_call 114; refine (namesA_any _ _).mono ?_; rintro e w' ⟨rfl, rfl⟩)
    | (go_at_call 115; refine (namesB_any _ _).mono ?_; rintro e w' ⟨rfl, rfl⟩)
    | (go_at_call 117; refine (namesN_any _ _).mono ?_; rintro e w' ⟨rfl, rfl⟩)
    | (go_at_call 116; refine (namesGoto_any _ _).mono ?_; rintro e w' ⟨rfl, rfl⟩)
    | (go_at_call 112; refine (word_any _ _).mono ?_; rintro e w1 ⟨rfl, hb1⟩; obtain ⟨hc1, hf1⟩ := bcell hb1))
  all_goals clear hc1 hf1
  all_goals go_ret
  all_goals exact ⟨ret_int (by simp_all [ckOne, btw19]), Below.trans (by go_grown) (hb1.mono (by go_size))⟩

set_option maxHeartbeats 2000000 in
theorem checkOne_16 (V F : Int) (s : Option Addr) (len cap : Nat) (tto a b n g : Int) (w : World) (_hV : 1 ≤ V) (_hV' : V ≤ 8) (_hF : 0 ≤ F) (_hF' : F ≤ 3) (_hL : len ≤ 60) :
    Calls Tryz.prog 74 #[.agg #[.int .i64 V, .int .i64 F, .slice s len cap], .agg #[.int .i64 16, .int .i64 tto, .int .i64 a, .int .i64 b, .int .i64 n, .int .i64 g]] w fun e w' => e = .returned (.int .i64 (ckOne V F len ⟨16, tto, a, b, n, g⟩)) ∧ Below w.heap.size w w' := by
  have t0 : (wordB 16).toList.isEmpty = false := by rw [ByteArray.toList_eq]; rfl
  have t1 : nTo 16 = false := rfl
  have t2 : nA 16 = false := rfl
  have t3 : nB 16 = false := rfl
  have t4 : nN 16 = false := rfl
  have t5 : nG 16 = true := rfl
  go_enter Tryz.func74, Tryz.ntmps74
  go_wp2_with (first
    | (go_at_call 73; refine (between_any _ _ _ _).mono ?_; rintro e w' ⟨rfl, rfl⟩)
    | (go_at_call 113; refine (namesTo_any _ _).mono ?_; rintro e w' ⟨rfl, rfl⟩)
    | (go_at_call 114; refine (namesA_any _ _).mono ?_; rintro e w' ⟨rfl, rfl⟩)
    | (go_at_call 115; refine (namesB_any _ _).mono ?_; rintro e w' ⟨rfl, rfl⟩)
    | (go_at_call 117; refine (namesN_any _ _).mono ?_; rintro e w' ⟨rfl, rfl⟩)
    | (go_at_call 116; refine (namesGoto_any _ _).mono ?_; rintro e w' ⟨rfl, rfl⟩)
    | (go_at_call 112; refine (word_any _ _).mono ?_; rintro e w1 ⟨rfl, hb1⟩; obtain ⟨hc1, hf1⟩ := bcell hb1))
  all_goals clear hc1 hf1
  all_goals go_ret
  all_goals exact ⟨ret_int (by simp_all [ckOne, btw19]), Below.trans (by go_grown) (hb1.mono (by go_size))⟩

set_option maxHeartbeats 2000000 in
theorem checkOne_17 (V F : Int) (s : Option Addr) (len cap : Nat) (tto a b n g : Int) (w : World) (_hV : 1 ≤ V) (_hV' : V ≤ 8) (_hF : 0 ≤ F) (_hF' : F ≤ 3) (_hL : len ≤ 60) :
    Calls Tryz.prog 74 #[.agg #[.int .i64 V, .int .i64 F, .slice s len cap], .agg #[.int .i64 17, .int .i64 tto, .int .i64 a, .int .i64 b, .int .i64 n, .int .i64 g]] w fun e w' => e = .returned (.int .i64 (ckOne V F len ⟨17, tto, a, b, n, g⟩)) ∧ Below w.heap.size w w' := by
  have t0 : (wordB 17).toList.isEmpty = false := by rw [ByteArray.toList_eq]; rfl
  have t1 : nTo 17 = false := rfl
  have t2 : nA 17 = true := rfl
  have t3 : nB 17 = false := rfl
  have t4 : nN 17 = false := rfl
  have t5 : nG 17 = false := rfl
  go_enter Tryz.func74, Tryz.ntmps74
  go_wp2_with (first
    | (go_at_call 73; refine (between_any _ _ _ _).mono ?_; rintro e w' ⟨rfl, rfl⟩)
    | (go_at_call 113; refine (namesTo_any _ _).mono ?_; rintro e w' ⟨rfl, rfl⟩)
    | (go_at_call 114; refine (namesA_any _ _).mono ?_; rintro e w' ⟨rfl, rfl⟩)
    | (go_at_call 115; refine (namesB_any _ _).mono ?_; rintro e w' ⟨rfl, rfl⟩)
    | (go_at_call 117; refine (namesN_any _ _).mono ?_; rintro e w' ⟨rfl, rfl⟩)
    | (go_at_call 116; refine (namesGoto_any _ _).mono ?_; rintro e w' ⟨rfl, rfl⟩)
    | (go_at_call 112; refine (word_any _ _).mono ?_; rintro e w1 ⟨rfl, hb1⟩; obtain ⟨hc1, hf1⟩ := bcell hb1))
  all_goals clear hc1 hf1
  all_goals go_ret
  all_goals exact ⟨ret_int (by simp_all [ckOne, btw19]), Below.trans (by go_grown) (hb1.mono (by go_size))⟩

set_option maxHeartbeats 2000000 in
theorem checkOne_18 (V F : Int) (s : Option Addr) (len cap : Nat) (tto a b n g : Int) (w : World) (_hV : 1 ≤ V) (_hV' : V ≤ 8) (_hF : 0 ≤ F) (_hF' : F ≤ 3) (_hL : len ≤ 60) :
    Calls Tryz.prog 74 #[.agg #[.int .i64 V, .int .i64 F, .slice s len cap], .agg #[.int .i64 18, .int .i64 tto, .int .i64 a, .int .i64 b, .int .i64 n, .int .i64 g]] w fun e w' => e = .returned (.int .i64 (ckOne V F len ⟨18, tto, a, b, n, g⟩)) ∧ Below w.heap.size w w' := by
  have t0 : (wordB 18).toList.isEmpty = false := by rw [ByteArray.toList_eq]; rfl
  have t1 : nTo 18 = false := rfl
  have t2 : nA 18 = true := rfl
  have t3 : nB 18 = false := rfl
  have t4 : nN 18 = false := rfl
  have t5 : nG 18 = false := rfl
  go_enter Tryz.func74, Tryz.ntmps74
  go_wp2_with (first
    | (go_at_call 73; refine (between_any _ _ _ _).mono ?_; rintro e w' ⟨rfl, rfl⟩)
    | (go_at_call 113; refine (namesTo_any _ _).mono ?_; rintro e w' ⟨rfl, rfl⟩)
    | (go_at_call 114; refine (namesA_any _ _).mono ?_; rintro e w' ⟨rfl, rfl⟩)
    | (go_at_call 115; refine (namesB_any _ _).mono ?_; rintro e w' ⟨rfl, rfl⟩)
    | (go_at_call 117; refine (namesN_any _ _).mono ?_; rintro e w' ⟨rfl, rfl⟩)
    | (go_at_call 116; refine (namesGoto_any _ _).mono ?_; rintro e w' ⟨rfl, rfl⟩)
    | (go_at_call 112; refine (word_any _ _).mono ?_; rintro e w1 ⟨rfl, hb1⟩; obtain ⟨hc1, hf1⟩ := bcell hb1))
  all_goals clear hc1 hf1
  all_goals go_ret
  all_goals exact ⟨ret_int (by simp_all [ckOne, btw19]), Below.trans (by go_grown) (hb1.mono (by go_size))⟩
end Go.Proofs.YtmapdpcfanecdaaGreat
