/- Walks over the document's own answers: the line of an instruction, kind by kind. -/
import Derived.Test.YtmapdpcfanecdaaDoorKlawpbp04
namespace Go.Proofs.YtmapdpcfanecdaaDoor
set_option linter.unusedVariables false
set_option linter.unusedSimpArgs false
open Go.RowKit

set_option maxHeartbeats 2000000 in
set_option maxRecDepth 20000 in
theorem lineOf_14 (to a b n g : Int) (w : World) (hto : fits to) (hn : fits n) :
    Calls Tryd.prog 39 #[.agg #[.int .i64 14, .int .i64 to, .int .i64 a, .int .i64 b, .int .i64 n, .int .i64 g]] w fun e w' => e = .returned (.string (lineB ⟨14, to, a, b, n, g⟩)) ∧ Below w.heap.size w w' := by
  have t1 : nTo 14 = true := rfl
  have t2 : nA 14 = false := rfl
  have t3 : nB 14 = false := rfl
  have t4 : nN 14 = true := rfl
  have t5 : nG 14 = false := rfl
  have sw : (wordB 14).size = 5 := rfl
  have s1 : (⟨#[32]⟩ : ByteArray).size = 1 := rfl
  have lto := itoaB_size to hto
  have ln := itoaB_size n hn
  have hr : Hid (wordB 14 ++ (⟨#[32]⟩ ++ itoaB to) ++ (⟨#[32]⟩ ++ itoaB n) = lineB ⟨14, to, a, b, n, g⟩) := by show _ = _; rfl
  go_enter Tryd.func39, Tryd.ntmps39
  go_wp2_with (first
    | (go_at_call 38; refine (digitsB_any _ _ ?hf).mono ?_; (case hf => assumption); rintro e w1 ⟨rfl, hb1⟩; obtain ⟨hc1, hf1⟩ := bcell hb1; have HB : Below w.heap.size w w1 := (by first | exact HB.trans (hb1.mono HB.size) | exact Below.trans (by go_grown) (hb1.mono (by go_size))); have hz1 : w.heap.size < w1.heap.size := (by have := hb1.size; (try simp at this); omega))
    | (go_at_call 57; refine (namesTo_any _ _).mono ?_; rintro e w' ⟨rfl, rfl⟩)
    | (go_at_call 51; refine (namesA_any _ _).mono ?_; rintro e w' ⟨rfl, rfl⟩)
    | (go_at_call 52; refine (namesB_any _ _).mono ?_; rintro e w' ⟨rfl, rfl⟩)
    | (go_at_call 66; refine (namesN_any _ _).mono ?_; rintro e w' ⟨rfl, rfl⟩)
    | (go_at_call 40; refine (namesGoto_any _ _).mono ?_; rintro e w' ⟨rfl, rfl⟩)
    | (go_at_call 65; refine (word_any _ _).mono ?_; rintro e w1 ⟨rfl, hb1⟩; obtain ⟨hc1, hf1⟩ := bcell hb1; have HB : Below w.heap.size w w1 := Below.trans (by go_grown) (hb1.mono (by go_size)); have hz1 : w.heap.size < w1.heap.size := (by have := hb1.size; simp at this; omega)))
  go_ret
  exact ⟨ret_str hr.out, HB⟩

set_option maxHeartbeats 2000000 in
set_option maxRecDepth 20000 in
theorem lineOf_15 (to a b n g : Int) (w : World) (ha : fits a) (hg : fits g) :
    Calls Tryd.prog 39 #[.agg #[.int .i64 15, .int .i64 to, .int .i64 a, .int .i64 b, .int .i64 n, .int .i64 g]] w fun e w' => e = .returned (.string (lineB ⟨15, to, a, b, n, g⟩)) ∧ Below w.heap.size w w' := by
  have t1 : nTo 15 = false := rfl
  have t2 : nA 15 = true := rfl
  have t3 : nB 15 = false := rfl
  have t4 : nN 15 = false := rfl
  have t5 : nG 15 = true := rfl
  have sw : (wordB 15).size = 2 := rfl
  have s1 : (⟨#[32]⟩ : ByteArray).size = 1 := rfl
  have la := itoaB_size a ha
  have lg := itoaB_size g hg
  have hr : Hid (wordB 15 ++ (⟨#[32]⟩ ++ itoaB a) ++ (⟨#[32]⟩ ++ itoaB g) = lineB ⟨15, to, a, b, n, g⟩) := by show _ = _; rfl
  go_enter Tryd.func39, Tryd.ntmps39
  go_wp2_with (first
    | (go_at_call 38; refine (digitsB_any _ _ ?hf).mono ?_; (case hf => assumption); rintro e w1 ⟨rfl, hb1⟩; obtain ⟨hc1, hf1⟩ := bcell hb1; have HB : Below w.heap.size w w1 := (by first | exact HB.trans (hb1.mono HB.size) | exact Below.trans (by go_grown) (hb1.mono (by go_size))); have hz1 : w.heap.size < w1.heap.size := (by have := hb1.size; (try simp at this); omega))
    | (go_at_call 57; refine (namesTo_any _ _).mono ?_; rintro e w' ⟨rfl, rfl⟩)
    | (go_at_call 51; refine (namesA_any _ _).mono ?_; rintro e w' ⟨rfl, rfl⟩)
    | (go_at_call 52; refine (namesB_any _ _).mono ?_; rintro e w' ⟨rfl, rfl⟩)
    | (go_at_call 66; refine (namesN_any _ _).mono ?_; rintro e w' ⟨rfl, rfl⟩)
    | (go_at_call 40; refine (namesGoto_any _ _).mono ?_; rintro e w' ⟨rfl, rfl⟩)
    | (go_at_call 65; refine (word_any _ _).mono ?_; rintro e w1 ⟨rfl, hb1⟩; obtain ⟨hc1, hf1⟩ := bcell hb1; have HB : Below w.heap.size w w1 := Below.trans (by go_grown) (hb1.mono (by go_size)); have hz1 : w.heap.size < w1.heap.size := (by have := hb1.size; simp at this; omega)))
  go_ret
  exact ⟨ret_str hr.out, HB⟩

set_option maxHeartbeats 2000000 in
set_option maxRecDepth 20000 in
theorem lineOf_16 (to a b n g : Int) (w : World) (hg : fits g) :
    Calls Tryd.prog 39 #[.agg #[.int .i64 16, .int .i64 to, .int .i64 a, .int .i64 b, .int .i64 n, .int .i64 g]] w fun e w' => e = .returned (.string (lineB ⟨16, to, a, b, n, g⟩)) ∧ Below w.heap.size w w' := by
  have t1 : nTo 16 = false := rfl
  have t2 : nA 16 = false := rfl
  have t3 : nB 16 = false := rfl
  have t4 : nN 16 = false := rfl
  have t5 : nG 16 = true := rfl
  have sw : (wordB 16).size = 4 := rfl
  have s1 : (⟨#[32]⟩ : ByteArray).size = 1 := rfl
  have lg := itoaB_size g hg
  have hr : Hid (wordB 16 ++ (⟨#[32]⟩ ++ itoaB g) = lineB ⟨16, to, a, b, n, g⟩) := by show _ = _; rfl
  go_enter Tryd.func39, Tryd.ntmps39
  go_wp2_with (first
    | (go_at_call 38; refine (digitsB_any _ _ ?hf).mono ?_; (case hf => assumption); rintro e w1 ⟨rfl, hb1⟩; obtain ⟨hc1, hf1⟩ := bcell hb1; have HB : Below w.heap.size w w1 := (by first | exact HB.trans (hb1.mono HB.size) | exact Below.trans (by go_grown) (hb1.mono (by go_size))); have hz1 : w.heap.size < w1.heap.size := (by have := hb1.size; (try simp at this); omega))
    | (go_at_call 57; refine (namesTo_any _ _).mono ?_; rintro e w' ⟨rfl, rfl⟩)
    | (go_at_call 51; refine (namesA_any _ _).mono ?_; rintro e w' ⟨rfl, rfl⟩)
    | (go_at_call 52; refine (namesB_any _ _).mono ?_; rintro e w' ⟨rfl, rfl⟩)
    | (go_at_call 66; refine (namesN_any _ _).mono ?_; rintro e w' ⟨rfl, rfl⟩)
    | (go_at_call 40; refine (namesGoto_any _ _).mono ?_; rintro e w' ⟨rfl, rfl⟩)
    | (go_at_call 65; refine (word_any _ _).mono ?_; rintro e w1 ⟨rfl, hb1⟩; obtain ⟨hc1, hf1⟩ := bcell hb1; have HB : Below w.heap.size w w1 := Below.trans (by go_grown) (hb1.mono (by go_size)); have hz1 : w.heap.size < w1.heap.size := (by have := hb1.size; simp at this; omega)))
  go_ret
  exact ⟨ret_str hr.out, HB⟩

set_option maxHeartbeats 2000000 in
set_option maxRecDepth 20000 in
theorem lineOf_17 (to a b n g : Int) (w : World) (ha : fits a) :
    Calls Tryd.prog 39 #[.agg #[.int .i64 17, .int .i64 to, .int .i64 a, .int .i64 b, .int .i64 n, .int .i64 g]] w fun e w' => e = .returned (.string (lineB ⟨17, to, a, b, n, g⟩)) ∧ Below w.heap.size w w' := by
  have t1 : nTo 17 = false := rfl
  have t2 : nA 17 = true := rfl
  have t3 : nB 17 = false := rfl
  have t4 : nN 17 = false := rfl
  have t5 : nG 17 = false := rfl
  have sw : (wordB 17).size = 6 := rfl
  have s1 : (⟨#[32]⟩ : ByteArray).size = 1 := rfl
  have la := itoaB_size a ha
  have hr : Hid (wordB 17 ++ (⟨#[32]⟩ ++ itoaB a) = lineB ⟨17, to, a, b, n, g⟩) := by show _ = _; rfl
  go_enter Tryd.func39, Tryd.ntmps39
  go_wp2_with (first
    | (go_at_call 38; refine (digitsB_any _ _ ?hf).mono ?_; (case hf => assumption); rintro e w1 ⟨rfl, hb1⟩; obtain ⟨hc1, hf1⟩ := bcell hb1; have HB : Below w.heap.size w w1 := (by first | exact HB.trans (hb1.mono HB.size) | exact Below.trans (by go_grown) (hb1.mono (by go_size))); have hz1 : w.heap.size < w1.heap.size := (by have := hb1.size; (try simp at this); omega))
    | (go_at_call 57; refine (namesTo_any _ _).mono ?_; rintro e w' ⟨rfl, rfl⟩)
    | (go_at_call 51; refine (namesA_any _ _).mono ?_; rintro e w' ⟨rfl, rfl⟩)
    | (go_at_call 52; refine (namesB_any _ _).mono ?_; rintro e w' ⟨rfl, rfl⟩)
    | (go_at_call 66; refine (namesN_any _ _).mono ?_; rintro e w' ⟨rfl, rfl⟩)
    | (go_at_call 40; refine (namesGoto_any _ _).mono ?_; rintro e w' ⟨rfl, rfl⟩)
    | (go_at_call 65; refine (word_any _ _).mono ?_; rintro e w1 ⟨rfl, hb1⟩; obtain ⟨hc1, hf1⟩ := bcell hb1; have HB : Below w.heap.size w w1 := Below.trans (by go_grown) (hb1.mono (by go_size)); have hz1 : w.heap.size < w1.heap.size := (by have := hb1.size; simp at this; omega)))
  go_ret
  exact ⟨ret_str hr.out, HB⟩

set_option maxHeartbeats 2000000 in
set_option maxRecDepth 20000 in
theorem lineOf_18 (to a b n g : Int) (w : World) (ha : fits a) :
    Calls Tryd.prog 39 #[.agg #[.int .i64 18, .int .i64 to, .int .i64 a, .int .i64 b, .int .i64 n, .int .i64 g]] w fun e w' => e = .returned (.string (lineB ⟨18, to, a, b, n, g⟩)) ∧ Below w.heap.size w w' := by
  have t1 : nTo 18 = false := rfl
  have t2 : nA 18 = true := rfl
  have t3 : nB 18 = false := rfl
  have t4 : nN 18 = false := rfl
  have t5 : nG 18 = false := rfl
  have sw : (wordB 18).size = 5 := rfl
  have s1 : (⟨#[32]⟩ : ByteArray).size = 1 := rfl
  have la := itoaB_size a ha
  have hr : Hid (wordB 18 ++ (⟨#[32]⟩ ++ itoaB a) = lineB ⟨18, to, a, b, n, g⟩) := by show _ = _; rfl
  go_enter Tryd.func39, Tryd.ntmps39
  go_wp2_with (first
    | (go_at_call 38; refine (digitsB_any _ _ ?hf).mono ?_; (case hf => assumption); rintro e w1 ⟨rfl, hb1⟩; obtain ⟨hc1, hf1⟩ := bcell hb1; have HB : Below w.heap.size w w1 := (by first | exact HB.trans (hb1.mono HB.size) | exact Below.trans (by go_grown) (hb1.mono (by go_size))); have hz1 : w.heap.size < w1.heap.size := (by have := hb1.size; (try simp at this); omega))
    | (go_at_call 57; refine (namesTo_any _ _).mono ?_; rintro e w' ⟨rfl, rfl⟩)
    | (go_at_call 51; refine (namesA_any _ _).mono ?_; rintro e w' ⟨rfl, rfl⟩)
    | (go_at_call 52; refine (namesB_any _ _).mono ?_; rintro e w' ⟨rfl, rfl⟩)
    | (go_at_call 66; refine (namesN_any _ _).mono ?_; rintro e w' ⟨rfl, rfl⟩)
    | (go_at_call 40; refine (namesGoto_any _ _).mono ?_; rintro e w' ⟨rfl, rfl⟩)
    | (go_at_call 65; refine (word_any _ _).mono ?_; rintro e w1 ⟨rfl, hb1⟩; obtain ⟨hc1, hf1⟩ := bcell hb1; have HB : Below w.heap.size w w1 := Below.trans (by go_grown) (hb1.mono (by go_size)); have hz1 : w.heap.size < w1.heap.size := (by have := hb1.size; simp at this; omega)))
  go_ret
  exact ⟨ret_str hr.out, HB⟩
end Go.Proofs.YtmapdpcfanecdaaDoor
