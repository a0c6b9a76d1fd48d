/- Walks over the document's own answers: the check of an instruction, kind by kind. -/
import Derived.Test.YtmapdpcfanecdaaDoorKlawpbp04
namespace Go.Proofs.YtmapdpcfanecdaaDoor
set_option linter.unusedVariables false
set_option linter.unusedSimpArgs false
open Go.RowKit

set_option maxHeartbeats 2000000 in
theorem checkOne_5 (V F : Int) (s : Option Addr) (len cap : Nat) (to a b n g : Int) (w : World) (_hV : 1 ≤ V) (_hV' : V ≤ 8) (_hF : 0 ≤ F) (_hF' : F ≤ 3) (_hL : len ≤ 60) :
    Calls Tryd.prog 37 #[.agg #[.int .i64 V, .int .i64 F, .slice s len cap], .agg #[.int .i64 5, .int .i64 to, .int .i64 a, .int .i64 b, .int .i64 n, .int .i64 g]] w fun e w' => e = .returned (.int .i64 (ckOne V F len ⟨5, to, a, b, n, g⟩)) ∧ Below w.heap.size w w' := by
  have t0 : (wordB 5).toList.isEmpty = false := by rw [ByteArray.toList_eq]; rfl
  have t1 : nTo 5 = true := rfl
  have t2 : nA 5 = true := rfl
  have t3 : nB 5 = true := rfl
  have t4 : nN 5 = false := rfl
  have t5 : nG 5 = false := rfl
  go_enter Tryd.func37, Tryd.ntmps37
  go_wp2_with (first
    | (go_at_call 36; refine (between_any _ _ _ _).mono ?_; rintro e w' ⟨rfl, rfl⟩)
    | (go_at_call 57; refine (namesTo_any _ _).mono ?_; rintro e w' ⟨rfl, rfl⟩)
    | (go_at_call 51; refine (namesA_any _ _).mono ?_; rintro e w' ⟨rfl, rfl⟩)
    | (go_at_call 52; refine (namesB_any _ _).mono ?_; rintro e w' ⟨rfl, rfl⟩)
    | (go_at_call 66; refine (namesN_any _ _).mono ?_; rintro e w' ⟨rfl, rfl⟩)
    | (go_at_call 40; refine (namesGoto_any _ _).mono ?_; rintro e w' ⟨rfl, rfl⟩)
    | (go_at_call 65; refine (word_any _ _).mono ?_; rintro e w1 ⟨rfl, hb1⟩; obtain ⟨hc1, hf1⟩ := bcell hb1))
  all_goals clear hc1 hf1
  all_goals go_ret
  all_goals exact ⟨ret_int (by simp_all [ckOne, btw19]), Below.trans (by go_grown) (hb1.mono (by go_size))⟩

set_option maxHeartbeats 2000000 in
theorem checkOne_6 (V F : Int) (s : Option Addr) (len cap : Nat) (to a b n g : Int) (w : World) (_hV : 1 ≤ V) (_hV' : V ≤ 8) (_hF : 0 ≤ F) (_hF' : F ≤ 3) (_hL : len ≤ 60) :
    Calls Tryd.prog 37 #[.agg #[.int .i64 V, .int .i64 F, .slice s len cap], .agg #[.int .i64 6, .int .i64 to, .int .i64 a, .int .i64 b, .int .i64 n, .int .i64 g]] w fun e w' => e = .returned (.int .i64 (ckOne V F len ⟨6, to, a, b, n, g⟩)) ∧ Below w.heap.size w w' := by
  have t0 : (wordB 6).toList.isEmpty = false := by rw [ByteArray.toList_eq]; rfl
  have t1 : nTo 6 = true := rfl
  have t2 : nA 6 = true := rfl
  have t3 : nB 6 = true := rfl
  have t4 : nN 6 = false := rfl
  have t5 : nG 6 = false := rfl
  go_enter Tryd.func37, Tryd.ntmps37
  go_wp2_with (first
    | (go_at_call 36; refine (between_any _ _ _ _).mono ?_; rintro e w' ⟨rfl, rfl⟩)
    | (go_at_call 57; refine (namesTo_any _ _).mono ?_; rintro e w' ⟨rfl, rfl⟩)
    | (go_at_call 51; refine (namesA_any _ _).mono ?_; rintro e w' ⟨rfl, rfl⟩)
    | (go_at_call 52; refine (namesB_any _ _).mono ?_; rintro e w' ⟨rfl, rfl⟩)
    | (go_at_call 66; refine (namesN_any _ _).mono ?_; rintro e w' ⟨rfl, rfl⟩)
    | (go_at_call 40; refine (namesGoto_any _ _).mono ?_; rintro e w' ⟨rfl, rfl⟩)
    | (go_at_call 65; refine (word_any _ _).mono ?_; rintro e w1 ⟨rfl, hb1⟩; obtain ⟨hc1, hf1⟩ := bcell hb1))
  all_goals clear hc1 hf1
  all_goals go_ret
  all_goals exact ⟨ret_int (by simp_all [ckOne, btw19]), Below.trans (by go_grown) (hb1.mono (by go_size))⟩

set_option maxHeartbeats 2000000 in
theorem checkOne_7 (V F : Int) (s : Option Addr) (len cap : Nat) (to a b n g : Int) (w : World) (_hV : 1 ≤ V) (_hV' : V ≤ 8) (_hF : 0 ≤ F) (_hF' : F ≤ 3) (_hL : len ≤ 60) :
    Calls Tryd.prog 37 #[.agg #[.int .i64 V, .int .i64 F, .slice s len cap], .agg #[.int .i64 7, .int .i64 to, .int .i64 a, .int .i64 b, .int .i64 n, .int .i64 g]] w fun e w' => e = .returned (.int .i64 (ckOne V F len ⟨7, to, a, b, n, g⟩)) ∧ Below w.heap.size w w' := by
  have t0 : (wordB 7).toList.isEmpty = false := by rw [ByteArray.toList_eq]; rfl
  have t1 : nTo 7 = true := rfl
  have t2 : nA 7 = true := rfl
  have t3 : nB 7 = true := rfl
  have t4 : nN 7 = false := rfl
  have t5 : nG 7 = false := rfl
  go_enter Tryd.func37, Tryd.ntmps37
  go_wp2_with (first
    | (go_at_call 36; refine (between_any _ _ _ _).mono ?_; rintro e w' ⟨rfl, rfl⟩)
    | (go_at_call 57; refine (namesTo_any _ _).mono ?_; rintro e w' ⟨rfl, rfl⟩)
    | (go_at_call 51; refine (namesA_any _ _).mono ?_; rintro e w' ⟨rfl, rfl⟩)
    | (go_at_call 52; refine (namesB_any _ _).mono ?_; rintro e w' ⟨rfl, rfl⟩)
    | (go_at_call 66; refine (namesN_any _ _).mono ?_; rintro e w' ⟨rfl, rfl⟩)
    | (go_at_call 40; refine (namesGoto_any _ _).mono ?_; rintro e w' ⟨rfl, rfl⟩)
    | (go_at_call 65; refine (word_any _ _).mono ?_; rintro e w1 ⟨rfl, hb1⟩; obtain ⟨hc1, hf1⟩ := bcell hb1))
  all_goals clear hc1 hf1
  all_goals go_ret
  all_goals exact ⟨ret_int (by simp_all [ckOne, btw19]), Below.trans (by go_grown) (hb1.mono (by go_size))⟩

set_option maxHeartbeats 2000000 in
theorem checkOne_8 (V F : Int) (s : Option Addr) (len cap : Nat) (to a b n g : Int) (w : World) (_hV : 1 ≤ V) (_hV' : V ≤ 8) (_hF : 0 ≤ F) (_hF' : F ≤ 3) (_hL : len ≤ 60) :
    Calls Tryd.prog 37 #[.agg #[.int .i64 V, .int .i64 F, .slice s len cap], .agg #[.int .i64 8, .int .i64 to, .int .i64 a, .int .i64 b, .int .i64 n, .int .i64 g]] w fun e w' => e = .returned (.int .i64 (ckOne V F len ⟨8, to, a, b, n, g⟩)) ∧ Below w.heap.size w w' := by
  have t0 : (wordB 8).toList.isEmpty = false := by rw [ByteArray.toList_eq]; rfl
  have t1 : nTo 8 = true := rfl
  have t2 : nA 8 = true := rfl
  have t3 : nB 8 = true := rfl
  have t4 : nN 8 = false := rfl
  have t5 : nG 8 = false := rfl
  go_enter Tryd.func37, Tryd.ntmps37
  go_wp2_with (first
    | (go_at_call 36; refine (between_any _ _ _ _).mono ?_; rintro e w' ⟨rfl, rfl⟩)
    | (go_at_call 57; refine (namesTo_any _ _).mono ?_; rintro e w' ⟨rfl, rfl⟩)
    | (go_at_call 51; refine (namesA_any _ _).mono ?_; rintro e w' ⟨rfl, rfl⟩)
    | (go_at_call 52; refine (namesB_any _ _).mono ?_; rintro e w' ⟨rfl, rfl⟩)
    | (go_at_call 66; refine (namesN_any _ _).mono ?_; rintro e w' ⟨rfl, rfl⟩)
    | (go_at_call 40; refine (namesGoto_any _ _).mono ?_; rintro e w' ⟨rfl, rfl⟩)
    | (go_at_call 65; refine (word_any _ _).mono ?_; rintro e w1 ⟨rfl, hb1⟩; obtain ⟨hc1, hf1⟩ := bcell hb1))
  all_goals clear hc1 hf1
  all_goals go_ret
  all_goals exact ⟨ret_int (by simp_all [ckOne, btw19]), Below.trans (by go_grown) (hb1.mono (by go_size))⟩

set_option maxHeartbeats 2000000 in
theorem checkOne_no (V F : Int) (s : Option Addr) (len cap : Nat) (k to a b n g : Int) (w : World) (_hV : 1 ≤ V) (_hV' : V ≤ 8) (_hF : 0 ≤ F) (_hF' : F ≤ 3) (_hL : len ≤ 60) (hk : btw k 1 19 = false) :
    Calls Tryd.prog 37 #[.agg #[.int .i64 V, .int .i64 F, .slice s len cap], .agg #[.int .i64 k, .int .i64 to, .int .i64 a, .int .i64 b, .int .i64 n, .int .i64 g]] w fun e w' => e = .returned (.int .i64 (ckOne V F len ⟨k, to, a, b, n, g⟩)) ∧ Below w.heap.size w w' := by
  have t0 : (wordB k).toList.isEmpty = true := by rw [wordB_none hk, ByteArray.toList_eq]; rfl
  go_enter Tryd.func37, Tryd.ntmps37
  go_wp2_with (first
    | (go_at_call 36; refine (between_any _ _ _ _).mono ?_; rintro e w' ⟨rfl, rfl⟩)
    | (go_at_call 57; refine (namesTo_any _ _).mono ?_; rintro e w' ⟨rfl, rfl⟩)
    | (go_at_call 51; refine (namesA_any _ _).mono ?_; rintro e w' ⟨rfl, rfl⟩)
    | (go_at_call 52; refine (namesB_any _ _).mono ?_; rintro e w' ⟨rfl, rfl⟩)
    | (go_at_call 66; refine (namesN_any _ _).mono ?_; rintro e w' ⟨rfl, rfl⟩)
    | (go_at_call 40; refine (namesGoto_any _ _).mono ?_; rintro e w' ⟨rfl, rfl⟩)
    | (go_at_call 65; refine (word_any _ _).mono ?_; rintro e w1 ⟨rfl, hb1⟩; obtain ⟨hc1, hf1⟩ := bcell hb1))
  all_goals clear hc1 hf1
  all_goals go_ret
  all_goals exact ⟨ret_int (by simp_all [ckOne, btw19]), Below.trans (by go_grown) (hb1.mono (by go_size))⟩
end Go.Proofs.YtmapdpcfanecdaaDoor
