/- Walks over the document's own answers: the line of an instruction, kind by kind. -/
import Derived.Test.YtmapdpcfanecdaaDoorKlawpbp04
namespace Go.Proofs.YtmapdpcfanecdaaDoor
set_option linter.unusedVariables false
set_option linter.unusedSimpArgs false
open Go.RowKit

set_option maxHeartbeats 2000000 in
set_option maxRecDepth 20000 in
theorem lineOf_1 (to a b n g : Int) (w : World) (hto : fits to) (hn : fits n) :
    Calls Tryd.prog 39 #[.agg #[.int .i64 1, .int .i64 to, .int .i64 a, .int .i64 b, .int .i64 n, .int .i64 g]] w fun e w' => e = .returned (.string (lineB ⟨1, to, a, b, n, g⟩)) ∧ Below w.heap.size w w' := by
  have t1 : nTo 1 = true := rfl
  have t2 : nA 1 = false := rfl
  have t3 : nB 1 = false := rfl
  have t4 : nN 1 = true := rfl
  have t5 : nG 1 = false := rfl
  have sw : (wordB 1).size = 6 := rfl
  have s1 : (⟨#[32]⟩ : ByteArray).size = 1 := rfl
  have lto := itoaB_size to hto
  have ln := itoaB_size n hn
  have hr : Hid (wordB 1 ++ (⟨#[32]⟩ ++ itoaB to) ++ (⟨#[32]⟩ ++ itoaB n) = lineB ⟨1, to, a, b, n, g⟩) := by show _ = _; rfl
  go_enter Tryd.func39, Tryd.ntmps39
  go_wp2_with (first
    | (go_at_call 38; refine (digitsB_any _ _ ?hf).mono ?_; (case hf => assumption); rintro e w1 ⟨rfl, hb1⟩; obtain ⟨hc1, hf1⟩ := bcell hb1; have HB : Below w.heap.size w w1 := (by first | exact HB.trans (hb1.mono HB.size) | exact Below.trans (by go_grown) (hb1.mono (by go_size))); have hz1 : w.heap.size < w1.heap.size := (by have := hb1.size; (try simp at this); omega))
    | (go_at_call 57; refine (namesTo_any _ _).mono ?_; rintro e w' ⟨rfl, rfl⟩)
    | (go_at_call 51; refine (namesA_any _ _).mono ?_; rintro e w' ⟨rfl, rfl⟩)
    | (go_at_call 52; refine (namesB_any _ _).mono ?_; rintro e w' ⟨rfl, rfl⟩)
    | (go_at_call 66; refine (namesN_any _ _).mono ?_; rintro e w' ⟨rfl, rfl⟩)
    | (go_at_call 40; refine (namesGoto_any _ _).mono ?_; rintro e w' ⟨rfl, rfl⟩)
    | (go_at_call 65; refine (word_any _ _).mono ?_; rintro e w1 ⟨rfl, hb1⟩; obtain ⟨hc1, hf1⟩ := bcell hb1; have HB : Below w.heap.size w w1 := Below.trans (by go_grown) (hb1.mono (by go_size)); have hz1 : w.heap.size < w1.heap.size := (by have := hb1.size; simp at this; omega)))
  go_ret
  exact ⟨ret_str hr.out, HB⟩

set_option maxHeartbeats 2000000 in
set_option maxRecDepth 20000 in
theorem lineOf_2 (to a b n g : Int) (w : World) (hto : fits to) (hn : fits n) :
    Calls Tryd.prog 39 #[.agg #[.int .i64 2, .int .i64 to, .int .i64 a, .int .i64 b, .int .i64 n, .int .i64 g]] w fun e w' => e = .returned (.string (lineB ⟨2, to, a, b, n, g⟩)) ∧ Below w.heap.size w w' := by
  have t1 : nTo 2 = true := rfl
  have t2 : nA 2 = false := rfl
  have t3 : nB 2 = false := rfl
  have t4 : nN 2 = true := rfl
  have t5 : nG 2 = false := rfl
  have sw : (wordB 2).size = 5 := rfl
  have s1 : (⟨#[32]⟩ : ByteArray).size = 1 := rfl
  have lto := itoaB_size to hto
  have ln := itoaB_size n hn
  have hr : Hid (wordB 2 ++ (⟨#[32]⟩ ++ itoaB to) ++ (⟨#[32]⟩ ++ itoaB n) = lineB ⟨2, to, a, b, n, g⟩) := by show _ = _; rfl
  go_enter Tryd.func39, Tryd.ntmps39
  go_wp2_with (first
    | (go_at_call 38; refine (digitsB_any _ _ ?hf).mono ?_; (case hf => assumption); rintro e w1 ⟨rfl, hb1⟩; obtain ⟨hc1, hf1⟩ := bcell hb1; have HB : Below w.heap.size w w1 := (by first | exact HB.trans (hb1.mono HB.size) | exact Below.trans (by go_grown) (hb1.mono (by go_size))); have hz1 : w.heap.size < w1.heap.size := (by have := hb1.size; (try simp at this); omega))
    | (go_at_call 57; refine (namesTo_any _ _).mono ?_; rintro e w' ⟨rfl, rfl⟩)
    | (go_at_call 51; refine (namesA_any _ _).mono ?_; rintro e w' ⟨rfl, rfl⟩)
    | (go_at_call 52; refine (namesB_any _ _).mono ?_; rintro e w' ⟨rfl, rfl⟩)
    | (go_at_call 66; refine (namesN_any _ _).mono ?_; rintro e w' ⟨rfl, rfl⟩)
    | (go_at_call 40; refine (namesGoto_any _ _).mono ?_; rintro e w' ⟨rfl, rfl⟩)
    | (go_at_call 65; refine (word_any _ _).mono ?_; rintro e w1 ⟨rfl, hb1⟩; obtain ⟨hc1, hf1⟩ := bcell hb1; have HB : Below w.heap.size w w1 := Below.trans (by go_grown) (hb1.mono (by go_size)); have hz1 : w.heap.size < w1.heap.size := (by have := hb1.size; simp at this; omega)))
  go_ret
  exact ⟨ret_str hr.out, HB⟩

set_option maxHeartbeats 2000000 in
set_option maxRecDepth 20000 in
theorem lineOf_3 (to a b n g : Int) (w : World) (hto : fits to) :
    Calls Tryd.prog 39 #[.agg #[.int .i64 3, .int .i64 to, .int .i64 a, .int .i64 b, .int .i64 n, .int .i64 g]] w fun e w' => e = .returned (.string (lineB ⟨3, to, a, b, n, g⟩)) ∧ Below w.heap.size w w' := by
  have t1 : nTo 3 = true := rfl
  have t2 : nA 3 = false := rfl
  have t3 : nB 3 = false := rfl
  have t4 : nN 3 = false := rfl
  have t5 : nG 3 = false := rfl
  have sw : (wordB 3).size = 4 := rfl
  have s1 : (⟨#[32]⟩ : ByteArray).size = 1 := rfl
  have lto := itoaB_size to hto
  have hr : Hid (wordB 3 ++ (⟨#[32]⟩ ++ itoaB to) = lineB ⟨3, to, a, b, n, g⟩) := by show _ = _; rfl
  go_enter Tryd.func39, Tryd.ntmps39
  go_wp2_with (first
    | (go_at_call 38; refine (digitsB_any _ _ ?hf).mono ?_; (case hf => assumption); rintro e w1 ⟨rfl, hb1⟩; obtain ⟨hc1, hf1⟩ := bcell hb1; have HB : Below w.heap.size w w1 := (by first | exact HB.trans (hb1.mono HB.size) | exact Below.trans (by go_grown) (hb1.mono (by go_size))); have hz1 : w.heap.size < w1.heap.size := (by have := hb1.size; (try simp at this); omega))
    | (go_at_call 57; refine (namesTo_any _ _).mono ?_; rintro e w' ⟨rfl, rfl⟩)
    | (go_at_call 51; refine (namesA_any _ _).mono ?_; rintro e w' ⟨rfl, rfl⟩)
    | (go_at_call 52; refine (namesB_any _ _).mono ?_; rintro e w' ⟨rfl, rfl⟩)
    | (go_at_call 66; refine (namesN_any _ _).mono ?_; rintro e w' ⟨rfl, rfl⟩)
    | (go_at_call 40; refine (namesGoto_any _ _).mono ?_; rintro e w' ⟨rfl, rfl⟩)
    | (go_at_call 65; refine (word_any _ _).mono ?_; rintro e w1 ⟨rfl, hb1⟩; obtain ⟨hc1, hf1⟩ := bcell hb1; have HB : Below w.heap.size w w1 := Below.trans (by go_grown) (hb1.mono (by go_size)); have hz1 : w.heap.size < w1.heap.size := (by have := hb1.size; simp at this; omega)))
  go_ret
  exact ⟨ret_str hr.out, HB⟩

set_option maxHeartbeats 2000000 in
set_option maxRecDepth 20000 in
theorem lineOf_4 (to a b n g : Int) (w : World) (hto : fits to) (ha : fits a) :
    Calls Tryd.prog 39 #[.agg #[.int .i64 4, .int .i64 to, .int .i64 a, .int .i64 b, .int .i64 n, .int .i64 g]] w fun e w' => e = .returned (.string (lineB ⟨4, to, a, b, n, g⟩)) ∧ Below w.heap.size w w' := by
  have t1 : nTo 4 = true := rfl
  have t2 : nA 4 = true := rfl
  have t3 : nB 4 = false := rfl
  have t4 : nN 4 = false := rfl
  have t5 : nG 4 = false := rfl
  have sw : (wordB 4).size = 4 := rfl
  have s1 : (⟨#[32]⟩ : ByteArray).size = 1 := rfl
  have lto := itoaB_size to hto
  have la := itoaB_size a ha
  have hr : Hid (wordB 4 ++ (⟨#[32]⟩ ++ itoaB to) ++ (⟨#[32]⟩ ++ itoaB a) = lineB ⟨4, to, a, b, n, g⟩) := by show _ = _; rfl
  go_enter Tryd.func39, Tryd.ntmps39
  go_wp2_with (first
    | (go_at_call 38; refine (digitsB_any _ _ ?hf).mono ?_; (case hf => assumption); rintro e w1 ⟨rfl, hb1⟩; obtain ⟨hc1, hf1⟩ := bcell hb1; have HB : Below w.heap.size w w1 := (by first | exact HB.trans (hb1.mono HB.size) | exact Below.trans (by go_grown) (hb1.mono (by go_size))); have hz1 : w.heap.size < w1.heap.size := (by have := hb1.size; (try simp at this); omega))
    | (go_at_call 57; refine (namesTo_any _ _).mono ?_; rintro e w' ⟨rfl, rfl⟩)
    | (go_at_call 51; refine (namesA_any _ _).mono ?_; rintro e w' ⟨rfl, rfl⟩)
    | (go_at_call 52; refine (namesB_any _ _).mono ?_; rintro e w' ⟨rfl, rfl⟩)
    | (go_at_call 66; refine (namesN_any _ _).mono ?_; rintro e w' ⟨rfl, rfl⟩)
    | (go_at_call 40; refine (namesGoto_any _ _).mono ?_; rintro e w' ⟨rfl, rfl⟩)
    | (go_at_call 65; refine (word_any _ _).mono ?_; rintro e w1 ⟨rfl, hb1⟩; obtain ⟨hc1, hf1⟩ := bcell hb1; have HB : Below w.heap.size w w1 := Below.trans (by go_grown) (hb1.mono (by go_size)); have hz1 : w.heap.size < w1.heap.size := (by have := hb1.size; simp at this; omega)))
  go_ret
  exact ⟨ret_str hr.out, HB⟩

set_option maxHeartbeats 2000000 in
set_option maxRecDepth 20000 in
theorem lineOf_19 (to a b n g : Int) (w : World)  :
    Calls Tryd.prog 39 #[.agg #[.int .i64 19, .int .i64 to, .int .i64 a, .int .i64 b, .int .i64 n, .int .i64 g]] w fun e w' => e = .returned (.string (lineB ⟨19, to, a, b, n, g⟩)) ∧ Below w.heap.size w w' := by
  have t1 : nTo 19 = false := rfl
  have t2 : nA 19 = false := rfl
  have t3 : nB 19 = false := rfl
  have t4 : nN 19 = false := rfl
  have t5 : nG 19 = false := rfl
  have sw : (wordB 19).size = 3 := rfl
  have s1 : (⟨#[32]⟩ : ByteArray).size = 1 := rfl
  have hr : Hid (wordB 19 = lineB ⟨19, to, a, b, n, g⟩) := by show _ = _; rfl
  go_enter Tryd.func39, Tryd.ntmps39
  go_wp2_with (first
    | (go_at_call 38; refine (digitsB_any _ _ ?hf).mono ?_; (case hf => assumption); rintro e w1 ⟨rfl, hb1⟩; obtain ⟨hc1, hf1⟩ := bcell hb1; have HB : Below w.heap.size w w1 := (by first | exact HB.trans (hb1.mono HB.size) | exact Below.trans (by go_grown) (hb1.mono (by go_size))); have hz1 : w.heap.size < w1.heap.size := (by have := hb1.size; (try simp at this); omega))
    | (go_at_call 57; refine (namesTo_any _ _).mono ?_; rintro e w' ⟨rfl, rfl⟩)
    | (go_at_call 51; refine (namesA_any _ _).mono ?_; rintro e w' ⟨rfl, rfl⟩)
    | (go_at_call 52; refine (namesB_any _ _).mono ?_; rintro e w' ⟨rfl, rfl⟩)
    | (go_at_call 66; refine (namesN_any _ _).mono ?_; rintro e w' ⟨rfl, rfl⟩)
    | (go_at_call 40; refine (namesGoto_any _ _).mono ?_; rintro e w' ⟨rfl, rfl⟩)
    | (go_at_call 65; refine (word_any _ _).mono ?_; rintro e w1 ⟨rfl, hb1⟩; obtain ⟨hc1, hf1⟩ := bcell hb1; have HB : Below w.heap.size w w1 := Below.trans (by go_grown) (hb1.mono (by go_size)); have hz1 : w.heap.size < w1.heap.size := (by have := hb1.size; simp at this; omega)))
  go_ret
  exact ⟨ret_str hr.out, HB⟩

set_option maxHeartbeats 2000000 in
set_option maxRecDepth 20000 in
theorem lineOf_5 (to a b n g : Int) (w : World) (hto : fits to) (ha : fits a) (hb : fits b) :
    Calls Tryd.prog 39 #[.agg #[.int .i64 5, .int .i64 to, .int .i64 a, .int .i64 b, .int .i64 n, .int .i64 g]] w fun e w' => e = .returned (.string (lineB ⟨5, to, a, b, n, g⟩)) ∧ Below w.heap.size w w' := by
  have t1 : nTo 5 = true := rfl
  have t2 : nA 5 = true := rfl
  have t3 : nB 5 = true := rfl
  have t4 : nN 5 = false := rfl
  have t5 : nG 5 = false := rfl
  have sw : (wordB 5).size = 3 := rfl
  have s1 : (⟨#[32]⟩ : ByteArray).size = 1 := rfl
  have lto := itoaB_size to hto
  have la := itoaB_size a ha
  have lb := itoaB_size b hb
  have hr : Hid (wordB 5 ++ (⟨#[32]⟩ ++ itoaB to) ++ (⟨#[32]⟩ ++ itoaB a) ++ (⟨#[32]⟩ ++ itoaB b) = lineB ⟨5, to, a, b, n, g⟩) := by show _ = _; rfl
  go_enter Tryd.func39, Tryd.ntmps39
  go_wp2_with (first
    | (go_at_call 38; refine (digitsB_any _ _ ?hf).mono ?_; (case hf => assumption); rintro e w1 ⟨rfl, hb1⟩; obtain ⟨hc1, hf1⟩ := bcell hb1; have HB : Below w.heap.size w w1 := (by first | exact HB.trans (hb1.mono HB.size) | exact Below.trans (by go_grown) (hb1.mono (by go_size))); have hz1 : w.heap.size < w1.heap.size := (by have := hb1.size; (try simp at this); omega))
    | (go_at_call 57; refine (namesTo_any _ _).mono ?_; rintro e w' ⟨rfl, rfl⟩)
    | (go_at_call 51; refine (namesA_any _ _).mono ?_; rintro e w' ⟨rfl, rfl⟩)
    | (go_at_call 52; refine (namesB_any _ _).mono ?_; rintro e w' ⟨rfl, rfl⟩)
    | (go_at_call 66; refine (namesN_any _ _).mono ?_; rintro e w' ⟨rfl, rfl⟩)
    | (go_at_call 40; refine (namesGoto_any _ _).mono ?_; rintro e w' ⟨rfl, rfl⟩)
    | (go_at_call 65; refine (word_any _ _).mono ?_; rintro e w1 ⟨rfl, hb1⟩; obtain ⟨hc1, hf1⟩ := bcell hb1; have HB : Below w.heap.size w w1 := Below.trans (by go_grown) (hb1.mono (by go_size)); have hz1 : w.heap.size < w1.heap.size := (by have := hb1.size; simp at this; omega)))
  go_ret
  exact ⟨ret_str hr.out, HB⟩
end Go.Proofs.YtmapdpcfanecdaaDoor
