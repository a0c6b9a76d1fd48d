/- Walks over the document's own answers: the check of an instruction, kind by kind. -/
import Derived.Test.YtmapdpcfanecdaaGreatKpicxp08
namespace Go.Proofs.YtmapdpcfanecdaaGreat
set_option linter.unusedVariables false
set_option linter.unusedSimpArgs false
open Go.RowKit

set_option maxHeartbeats 2000000 in
theorem checkOne_5 (V F : Int) (s : Option Addr) (len cap : Nat) (tto a b n g : Int) (w : World) (_hV : 1 ≤ V) (_hV' : V ≤ 8) (_hF : 0 ≤ F) (_hF' : F ≤ 3) (_hL : len ≤ 60) :
    Calls Tryz.prog 74 #[.agg #[.int .i64 V, .int .i64 F, .slice s len cap], .agg #[.int .i64 5, .int .i64 tto, .int .i64 a, .int .i64 b, .int .i64 n, .int .i64 g]] w fun e w' => e = .returned (.int .i64 (ckOne V F len ⟨5, tto, a, b, n, g⟩)) ∧ Below w.heap.size w w' := by
  have t0 : (wordB 5).toList.isEmpty = false := by rw [ByteArray.toList_eq]; rfl
  have t1 : nTo 5 = true := rfl
  have t2 : nA 5 = true := rfl
  have t3 : nB 5 = true := rfl
  have t4 : nN 5 = false := rfl
  have t5 : nG 5 = false := rfl
  go_enter Tryz.func74, Tryz.ntmps74
  go_wp2_with (first
    | (go_at_call 73; refine (between_any _ _ _ _).mono ?_; rintro e w' ⟨rfl, rfl⟩)
    | (go_at_call 113; refine (namesTo_any _ _).mono ?_; rintro e w' ⟨rfl, rfl⟩)
    | (go_at_call 114; refine (namesA_any _ _).mono ?_; rintro e w' ⟨rfl, rfl⟩)
    | (go_at_call 115; refine (namesB_any _ _).mono ?_; rintro e w' ⟨rfl, rfl⟩)
    | (go_at_call 117; refine (namesN_any _ _).mono ?_; rintro e w' ⟨rfl, rfl⟩)
    | (go_at_call 116; refine (namesGoto_any _ _).mono ?_; rintro e w' ⟨rfl, rfl⟩)
    | (go_at_call 112; refine (word_any _ _).mono ?_; rintro e w1 ⟨rfl, hb1⟩; obtain ⟨hc1, hf1⟩ := bcell hb1))
  all_goals clear hc1 hf1
  all_goals go_ret
  all_goals exact ⟨ret_int (by simp_all [ckOne, btw19]), Below.trans (by go_grown) (hb1.mono (by go_size))⟩

set_option maxHeartbeats 2000000 in
theorem checkOne_6 (V F : Int) (s : Option Addr) (len cap : Nat) (tto a b n g : Int) (w : World) (_hV : 1 ≤ V) (_hV' : V ≤ 8) (_hF : 0 ≤ F) (_hF' : F ≤ 3) (_hL : len ≤ 60) :
    Calls Tryz.prog 74 #[.agg #[.int .i64 V, .int .i64 F, .slice s len cap], .agg #[.int .i64 6, .int .i64 tto, .int .i64 a, .int .i64 b, .int .i64 n, .int .i64 g]] w fun e w' => e = .returned (.int .i64 (ckOne V F len ⟨6, tto, a, b, n, g⟩)) ∧ Below w.heap.size w w' := by
  have t0 : (wordB 6).toList.isEmpty = false := by rw [ByteArray.toList_eq]; rfl
  have t1 : nTo 6 = true := rfl
  have t2 : nA 6 = true := rfl
  have t3 : nB 6 = true := rfl
  have t4 : nN 6 = false := rfl
  have t5 : nG 6 = false := rfl
  go_enter Tryz.func74, Tryz.ntmps74
  go_wp2_with (first
    | (go_at_call 73; refine (between_any _ _ _ _).mono ?_; rintro e w' ⟨rfl, rfl⟩)
    | (go_at_call 113; refine (namesTo_any _ _).mono ?_; rintro e w' ⟨rfl, rfl⟩)
    | (go_at_call 114; refine (namesA_any _ _).mono ?_; rintro e w' ⟨rfl, rfl⟩)
    | (go_at_call 115; refine (namesB_any _ _).mono ?_; rintro e w' ⟨rfl, rfl⟩)
    | (go_at_call 117; refine (namesN_any _ _).mono ?_; rintro e w' ⟨rfl, rfl⟩)
    | (go_at_call 116; refine (namesGoto_any _ _).mono ?_; rintro e w' ⟨rfl, rfl⟩)
    | (go_at_call 112; refine (word_any _ _).mono ?_; rintro e w1 ⟨rfl, hb1⟩; obtain ⟨hc1, hf1⟩ := bcell hb1))
  all_goals clear hc1 hf1
  all_goals go_ret
  all_goals exact ⟨ret_int (by simp_all [ckOne, btw19]), Below.trans (by go_grown) (hb1.mono (by go_size))⟩

set_option maxHeartbeats 2000000 in
theorem checkOne_7 (V F : Int) (s : Option Addr) (len cap : Nat) (tto a b n g : Int) (w : World) (_hV : 1 ≤ V) (_hV' : V ≤ 8) (_hF : 0 ≤ F) (_hF' : F ≤ 3) (_hL : len ≤ 60) :
    Calls Tryz.prog 74 #[.agg #[.int .i64 V, .int .i64 F, .slice s len cap], .agg #[.int .i64 7, .int .i64 tto, .int .i64 a, .int .i64 b, .int .i64 n, .int .i64 g]] w fun e w' => e = .returned (.int .i64 (ckOne V F len ⟨7, tto, a, b, n, g⟩)) ∧ Below w.heap.size w w' := by
  have t0 : (wordB 7).toList.isEmpty = false := by rw [ByteArray.toList_eq]; rfl
  have t1 : nTo 7 = true := rfl
  have t2 : nA 7 = true := rfl
  have t3 : nB 7 = true := rfl
  have t4 : nN 7 = false := rfl
  have t5 : nG 7 = false := rfl
  go_enter Tryz.func74, Tryz.ntmps74
  go_wp2_with (first
    | (go_at_call 73; refine (between_any _ _ _ _).mono ?_; rintro e w' ⟨rfl, rfl⟩)
    | (go_at_call 113; refine (namesTo_any _ _).mono ?_; rintro e w' ⟨rfl, rfl⟩)
    | (go_at_call 114; refine (namesA_any _ _).mono ?_; rintro e w' ⟨rfl, rfl⟩)
    | (go_at_call 115; refine (namesB_any _ _).mono ?_; rintro e w' ⟨rfl, rfl⟩)
    | (go_at_call 117; refine (namesN_any _ _).mono ?_; rintro e w' ⟨rfl, rfl⟩)
    | (go_at_call 116; refine (namesGoto_any _ _).mono ?_; rintro e w' ⟨rfl, rfl⟩)
    | (go_at_call 112; refine (word_any _ _).mono ?_; rintro e w1 ⟨rfl, hb1⟩; obtain ⟨hc1, hf1⟩ := bcell hb1))
  all_goals clear hc1 hf1
  all_goals go_ret
  all_goals exact ⟨ret_int (by simp_all [ckOne, btw19]), Below.trans (by go_grown) (hb1.mono (by go_size))⟩

set_option maxHeartbeats 2000000 in
theorem checkOne_8 (V F : Int) (s : Option Addr) (len cap : Nat) (tto a b n g : Int) (w : World) (_hV : 1 ≤ V) (_hV' : V ≤ 8) (_hF : 0 ≤ F) (_hF' : F ≤ 3) (_hL : len ≤ 60) :
    Calls Tryz.prog 74 #[.agg #[.int .i64 V, .int .i64 F, .slice s len cap], .agg #[.int .i64 8, .int .i64 tto, .int .i64 a, .int .i64 b, .int .i64 n, .int .i64 g]] w fun e w' => e = .returned (.int .i64 (ckOne V F len ⟨8, tto, a, b, n, g⟩)) ∧ Below w.heap.size w w' := by
  have t0 : (wordB 8).toList.isEmpty = false := by rw [ByteArray.toList_eq]; rfl
  have t1 : nTo 8 = true := rfl
  have t2 : nA 8 = true := rfl
  have t3 : nB 8 = true := rfl
  have t4 : nN 8 = false := rfl
  have t5 : nG 8 = false := rfl
  go_enter Tryz.func74, Tryz.ntmps74
  go_wp2_with (first
    | (go_at_call 73; refine (between_any _ _ _ _).mono ?_; rintro e w' ⟨rfl, rfl⟩)
    | (go_at_call 113; refine (namesTo_any _ _).mono ?_; rintro e w' ⟨rfl, rfl⟩)
    | (go_at_call 114; refine (namesA_any _ _).mono ?_; rintro e w' ⟨rfl, rfl⟩)
    | (go_at_call 115; refine (namesB_any _ _).mono ?_; rintro e w' ⟨rfl, rfl⟩)
    | (go_at_call 117; refine (namesN_any _ _).mono ?_; rintro e w' ⟨rfl, rfl⟩)
    | (go_at_call 116; refine (namesGoto_any _ _).mono ?_; rintro e w' ⟨rfl, rfl⟩)
    | (go_at_call 112; refine (word_any _ _).mono ?_; rintro e w1 ⟨rfl, hb1⟩; obtain ⟨hc1, hf1⟩ := bcell hb1))
  all_goals clear hc1 hf1
  all_goals go_ret
  all_goals exact ⟨ret_int (by simp_all [ckOne, btw19]), Below.trans (by go_grown) (hb1.mono (by go_size))⟩

set_option maxHeartbeats 2000000 in
theorem checkOne_no (V F : Int) (s : Option Addr) (len cap : Nat) (k tto a b n g : Int) (w : World) (_hV : 1 ≤ V) (_hV' : V ≤ 8) (_hF : 0 ≤ F) (_hF' : F ≤ 3) (_hL : len ≤ 60) (hk : btw k 1 19 = false) :
    Calls Tryz.prog 74 #[.agg #[.int .i64 V, .int .i64 F, .slice s len cap], .agg #[.int .i64 k, .int .i64 tto, .int .i64 a, .int .i64 b, .int .i64 n, .int .i64 g]] w fun e w' => e = .returned (.int .i64 (ckOne V F len ⟨k, tto, a, b, n, g⟩)) ∧ Below w.heap.size w w' := by
  have t0 : (wordB k).toList.isEmpty = true := by rw [wordB_none hk, ByteArray.toList_eq]; rfl
  go_enter Tryz.func74, Tryz.ntmps74
  go_wp2_with (first
    | (go_at_call 73; refine (between_any _ _ _ _).mono ?_; rintro e w' ⟨rfl, rfl⟩)
    | (go_at_call 113; refine (namesTo_any _ _).mono ?_; rintro e w' ⟨rfl, rfl⟩)
    | (go_at_call 114; refine (namesA_any _ _).mono ?_; rintro e w' ⟨rfl, rfl⟩)
    | (go_at_call 115; refine (namesB_any _ _).mono ?_; rintro e w' ⟨rfl, rfl⟩)
    | (go_at_call 117; refine (namesN_any _ _).mono ?_; rintro e w' ⟨rfl, rfl⟩)
    | (go_at_call 116; refine (namesGoto_any _ _).mono ?_; rintro e w' ⟨rfl, rfl⟩)
    | (go_at_call 112; refine (word_any _ _).mono ?_; rintro e w1 ⟨rfl, hb1⟩; obtain ⟨hc1, hf1⟩ := bcell hb1))
  all_goals clear hc1 hf1
  all_goals go_ret
  all_goals exact ⟨ret_int (by simp_all [ckOne, btw19]), Below.trans (by go_grown) (hb1.mono (by go_size))⟩
end Go.Proofs.YtmapdpcfanecdaaGreat

namespace Go.Proofs.YtmapdpcfanecdaaGreat
set_option linter.unusedVariables false
set_option linter.unusedSimpArgs false
open Go.RowKit

set_option maxHeartbeats 2000000 in
theorem checkOne_9 (V F : Int) (s : Option Addr) (len cap : Nat) (tto a b n g : Int) (w : World) (_hV : 1 ≤ V) (_hV' : V ≤ 8) (_hF : 0 ≤ F) (_hF' : F ≤ 3) (_hL : len ≤ 60) :
    Calls Tryz.prog 74 #[.agg #[.int .i64 V, .int .i64 F, .slice s len cap], .agg #[.int .i64 9, .int .i64 tto, .int .i64 a, .int .i64 b, .int .i64 n, .int .i64 g]] w fun e w' => e = .returned (.int .i64 (ckOne V F len ⟨9, tto, a, b, n, g⟩)) ∧ Below w.heap.size w w' := by
  have t0 : (wordB 9).toList.isEmpty = false := by rw [ByteArray.toList_eq]; rfl
  have t1 : nTo 9 = true := rfl
  have t2 : nA 9 = true := rfl
  have t3 : nB 9 = true := rfl
  have t4 : nN 9 = false := rfl
  have t5 : nG 9 = false := rfl
  go_enter Tryz.func74, Tryz.ntmps74
  go_wp2_with (first
    | (go_at_call 73; refine (between_any _ _ _ _).mono ?_; rintro e w' ⟨rfl, rfl⟩)
    | (go_at_call 113; refine (namesTo_any _ _).mono ?_; rintro e w' ⟨rfl, rfl⟩)
    | (go_at_call 114; refine (namesA_any _ _).mono ?_; rintro e w' ⟨rfl, rfl⟩)
    | (go_at_call 115; refine (namesB_any _ _).mono ?_; rintro e w' ⟨rfl, rfl⟩)
    | (go_at_call 117; refine (namesN_any _ _).mono ?_; rintro e w' ⟨rfl, rfl⟩)
    | (go_at_call 116; refine (namesGoto_any _ _).mono ?_; rintro e w' ⟨rfl, rfl⟩)
    | (go_at_call 112; refine (word_any _ _).mono ?_; rintro e w1 ⟨rfl, hb1⟩; obtain ⟨hc1, hf1⟩ := bcell hb1))
  all_goals clear hc1 hf1
  all_goals go_ret
  all_goals exact ⟨ret_int (by simp_all [ckOne, btw19]), Below.trans (by go_grown) (hb1.mono (by go_size))⟩

set_option maxHeartbeats 2000000 in
theorem checkOne_10 (V F : Int) (s : Option Addr) (len cap : Nat) (tto a b n g : Int) (w : World) (_hV : 1 ≤ V) (_hV' : V ≤ 8) (_hF : 0 ≤ F) (_hF' : F ≤ 3) (_hL : len ≤ 60) :
    Calls Tryz.prog 74 #[.agg #[.int .i64 V, .int .i64 F, .slice s len cap], .agg #[.int .i64 10, .int .i64 tto, .int .i64 a, .int .i64 b, .int .i64 n, .int .i64 g]] w fun e w' => e = .returned (.int .i64 (ckOne V F len ⟨10, tto, a, b, n, g⟩)) ∧ Below w.heap.size w w' := by
  have t0 : (wordB 10).toList.isEmpty = false := by rw [ByteArray.toList_eq]; rfl
  have t1 : nTo 10 = true := rfl
  have t2 : nA 10 = true := rfl
  have t3 : nB 10 = false := rfl
  have t4 : nN 10 = false := rfl
  have t5 : nG 10 = false := rfl
  go_enter Tryz.func74, Tryz.ntmps74
  go_wp2_with (first
    | (go_at_call 73; refine (between_any _ _ _ _).mono ?_; rintro e w' ⟨rfl, rfl⟩)
    | (go_at_call 113; refine (namesTo_any _ _).mono ?_; rintro e w' ⟨rfl, rfl⟩)
    | (go_at_call 114; refine (namesA_any _ _).mono ?_; rintro e w' ⟨rfl, rfl⟩)
    | (go_at_call 115; refine (namesB_any _ _).mono ?_; rintro e w' ⟨rfl, rfl⟩)
    | (go_at_call 117; refine (namesN_any _ _).mono ?_; rintro e w' ⟨rfl, rfl⟩)
    | (go_at_call 116; refine (namesGoto_any _ _).mono ?_; rintro e w' ⟨rfl, rfl⟩)
    | (go_at_call 112; refine (word_any _ _).mono ?_; rintro e w1 ⟨rfl, hb1⟩; obtain ⟨hc1, hf1⟩ := bcell hb1))
  all_goals clear hc1 hf1
  all_goals go_ret
  all_goals exact ⟨ret_int (by simp_all [ckOne, btw19]), Below.trans (by go_grown) (hb1.mono (by go_size))⟩

set_option maxHeartbeats 2000000 in
theorem checkOne_11 (V F : Int) (s : Option Addr) (len cap : Nat) (tto a b n g : Int) (w : World) (_hV : 1 ≤ V) (_hV' : V ≤ 8) (_hF : 0 ≤ F) (_hF' : F ≤ 3) (_hL : len ≤ 60) :
    Calls Tryz.prog 74 #[.agg #[.int .i64 V, .int .i64 F, .slice s len cap], .agg #[.int .i64 11, .int .i64 tto, .int .i64 a, .int .i64 b, .int .i64 n, .int .i64 g]] w fun e w' => e = .returned (.int .i64 (ckOne V F len ⟨11, tto, a, b, n, g⟩)) ∧ Below w.heap.size w w' := by
  have t0 : (wordB 11).toList.isEmpty = false := by rw [ByteArray.toList_eq]; rfl
  have t1 : nTo 11 = true := rfl
  have t2 : nA 11 = false := rfl
  have t3 : nB 11 = false := rfl
  have t4 : nN 11 = false := rfl
  have t5 : nG 11 = false := rfl
  go_enter Tryz.func74, Tryz.ntmps74
  go_wp2_with (first
    | (go_at_call 73; refine (between_any _ _ _ _).mono ?_; rintro e w' ⟨rfl, rfl⟩)
    | (go_at_call 113; refine (namesTo_any _ _).mono ?_; rintro e w' ⟨rfl, rfl⟩)
    | (go_at_call 114; refine (namesA_any _ _).mono ?_; rintro e w' ⟨rfl, rfl⟩)
    | (go_at_call 115; refine (namesB_any _ _).mono ?_; rintro e w' ⟨rfl, rfl⟩)
    | (go_at_call 117; refine (namesN_any _ _).mono ?_; rintro e w' ⟨rfl, rfl⟩)
    | (go_at_call 116; refine (namesGoto_any _ _).mono ?_; rintro e w' ⟨rfl, rfl⟩)
    | (go_at_call 112; refine (word_any _ _).mono ?_; rintro e w1 ⟨rfl, hb1⟩; obtain ⟨hc1, hf1⟩ := bcell hb1))
  all_goals clear hc1 hf1
  all_goals go_ret
  all_goals exact ⟨ret_int (by simp_all [ckOne, btw19]), Below.trans (by go_grown) (hb1.mono (by go_size))⟩

set_option maxHeartbeats 2000000 in
theorem checkOne_12 (V F : Int) (s : Option Addr) (len cap : Nat) (tto a b n g : Int) (w : World) (_hV : 1 ≤ V) (_hV' : V ≤ 8) (_hF : 0 ≤ F) (_hF' : F ≤ 3) (_hL : len ≤ 60) :
    Calls Tryz.prog 74 #[.agg #[.int .i64 V, .int .i64 F, .slice s len cap], .agg #[.int .i64 12, .int .i64 tto, .int .i64 a, .int .i64 b, .int .i64 n, .int .i64 g]] w fun e w' => e = .returned (.int .i64 (ckOne V F len ⟨12, tto, a, b, n, g⟩)) ∧ Below w.heap.size w w' := by
  have t0 : (wordB 12).toList.isEmpty = false := by rw [ByteArray.toList_eq]; rfl
  have t1 : nTo 12 = true := rfl
  have t2 : nA 12 = true := rfl
  have t3 : nB 12 = false := rfl
  have t4 : nN 12 = true := rfl
  have t5 : nG 12 = false := rfl
  go_enter Tryz.func74, Tryz.ntmps74
  go_wp2_with (first
    | (go_at_call 73; refine (between_any _ _ _ _).mono ?_; rintro e w' ⟨rfl, rfl⟩)
    | (go_at_call 113; refine (namesTo_any _ _).mono ?_; rintro e w' ⟨rfl, rfl⟩)
    | (go_at_call 114; refine (namesA_any _ _).mono ?_; rintro e w' ⟨rfl, rfl⟩)
    | (go_at_call 115; refine (namesB_any _ _).mono ?_; rintro e w' ⟨rfl, rfl⟩)
    | (go_at_call 117; refine (namesN_any _ _).mono ?_; rintro e w' ⟨rfl, rfl⟩)
    | (go_at_call 116; refine (namesGoto_any _ _).mono ?_; rintro e w' ⟨rfl, rfl⟩)
    | (go_at_call 112; refine (word_any _ _).mono ?_; rintro e w1 ⟨rfl, hb1⟩; obtain ⟨hc1, hf1⟩ := bcell hb1))
  all_goals clear hc1 hf1
  all_goals go_ret
  all_goals exact ⟨ret_int (by simp_all [ckOne, btw19]), Below.trans (by go_grown) (hb1.mono (by go_size))⟩

set_option maxHeartbeats 2000000 in
theorem checkOne_13 (V F : Int) (s : Option Addr) (len cap : Nat) (tto a b n g : Int) (w : World) (_hV : 1 ≤ V) (_hV' : V ≤ 8) (_hF : 0 ≤ F) (_hF' : F ≤ 3) (_hL : len ≤ 60) :
    Calls Tryz.prog 74 #[.agg #[.int .i64 V, .int .i64 F, .slice s len cap], .agg #[.int .i64 13, .int .i64 tto, .int .i64 a, .int .i64 b, .int .i64 n, .int .i64 g]] w fun e w' => e = .returned (.int .i64 (ckOne V F len ⟨13, tto, a, b, n, g⟩)) ∧ Below w.heap.size w w' := by
  have t0 : (wordB 13).toList.isEmpty = false := by rw [ByteArray.toList_eq]; rfl
  have t1 : nTo 13 = false := rfl
  have t2 : nA 13 = true := rfl
  have t3 : nB 13 = true := rfl
  have t4 : nN 13 = true := rfl
  have t5 : nG 13 = false := rfl
  go_enter Tryz.func74, Tryz.ntmps74
  go_wp2_with (first
    | (go_at_call 73; refine (between_any _ _ _ _).mono ?_; rintro e w' ⟨rfl, rfl⟩)
    | (go_at_call 113; refine (namesTo_any _ _).mono ?_; rintro e w' ⟨rfl, rfl⟩)
    | (go_at_call 114; refine (namesA_any _ _).mono ?_; rintro e w' ⟨rfl, rfl⟩)
    | (go_at_call 115; refine (namesB_any _ _).mono ?_; rintro e w' ⟨rfl, rfl⟩)
    | (go_at_call 117; refine (namesN_any _ _).mono ?_; rintro e w' ⟨rfl, rfl⟩)
    | (go_at_call 116; refine (namesGoto_any _ _).mono ?_; rintro e w' ⟨rfl, rfl⟩)
    | (go_at_call 112; refine (word_any _ _).mono ?_; rintro e w1 ⟨rfl, hb1⟩; obtain ⟨hc1, hf1⟩ := bcell hb1))
  all_goals clear hc1 hf1
  all_goals go_ret
  all_goals exact ⟨ret_int (by simp_all [ckOne, btw19]), Below.trans (by go_grown) (hb1.mono (by go_size))⟩
end Go.Proofs.YtmapdpcfanecdaaGreat
