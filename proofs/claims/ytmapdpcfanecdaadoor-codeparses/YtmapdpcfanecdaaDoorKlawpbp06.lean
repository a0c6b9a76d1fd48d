/- Walks over the document's own answers: the line of an instruction, kind by kind. -/
import Derived.Test.YtmapdpcfanecdaaDoorKlawpbp04
namespace Go.Proofs.YtmapdpcfanecdaaDoor
set_option linter.unusedVariables false
set_option linter.unusedSimpArgs false
open Go.RowKit

set_option maxHeartbeats 2000000 in
set_option maxRecDepth 20000 in
theorem lineOf_6 (to a b n g : Int) (w : World) (hto : fits to) (ha : fits a) (hb : fits b) :
    Calls Tryd.prog 39 #[.agg #[.int .i64 6, .int .i64 to, .int .i64 a, .int .i64 b, .int .i64 n, .int .i64 g]] w fun e w' => e = .returned (.string (lineB ⟨6, to, a, b, n, g⟩)) ∧ Below w.heap.size w w' := by
  have t1 : nTo 6 = true := rfl
  have t2 : nA 6 = true := rfl
  have t3 : nB 6 = true := rfl
  have t4 : nN 6 = false := rfl
  have t5 : nG 6 = false := rfl
  have sw : (wordB 6).size = 3 := rfl
  have s1 : (⟨#[32]⟩ : ByteArray).size = 1 := rfl
  have lto := itoaB_size to hto
  have la := itoaB_size a ha
  have lb := itoaB_size b hb
  have hr : Hid (wordB 6 ++ (⟨#[32]⟩ ++ itoaB to) ++ (⟨#[32]⟩ ++ itoaB a) ++ (⟨#[32]⟩ ++ itoaB b) = lineB ⟨6, to, a, b, n, g⟩) := by show _ = _; rfl
  go_enter Tryd.func39, Tryd.ntmps39
  go_wp2_with (first
    | (go_at_call 38; refine (digitsB_any _ _ ?hf).mono ?_; (case hf => assumption); rintro e w1 ⟨rfl, hb1⟩; obtain ⟨hc1, hf1⟩ := bcell hb1; have HB : Below w.heap.size w w1 := (by first | exact HB.trans (hb1.mono HB.size) | exact Below.trans (by go_grown) (hb1.mono (by go_size))); have hz1 : w.heap.size < w1.heap.size := (by have := hb1.size; (try simp at this); omega))
    | (go_at_call 57; refine (namesTo_any _ _).mono ?_; rintro e w' ⟨rfl, rfl⟩)
    | (go_at_call 51; refine (namesA_any _ _).mono ?_; rintro e w' ⟨rfl, rfl⟩)
    | (go_at_call 52; refine (namesB_any _ _).mono ?_; rintro e w' ⟨rfl, rfl⟩)
    | (go_at_call 66; refine (namesN_any _ _).mono ?_; rintro e w' ⟨rfl, rfl⟩)
    | (go_at_call 40; refine (namesGoto_any _ _).mono ?_; rintro e w' ⟨rfl, rfl⟩)
    | (go_at_call 65; refine (word_any _ _).mono ?_; rintro e w1 ⟨rfl, hb1⟩; obtain ⟨hc1, hf1⟩ := bcell hb1; have HB : Below w.heap.size w w1 := Below.trans (by go_grown) (hb1.mono (by go_size)); have hz1 : w.heap.size < w1.heap.size := (by have := hb1.size; simp at this; omega)))
  go_ret
  exact ⟨ret_str hr.out, HB⟩

set_option maxHeartbeats 2000000 in
set_option maxRecDepth 20000 in
theorem lineOf_7 (to a b n g : Int) (w : World) (hto : fits to) (ha : fits a) (hb : fits b) :
    Calls Tryd.prog 39 #[.agg #[.int .i64 7, .int .i64 to, .int .i64 a, .int .i64 b, .int .i64 n, .int .i64 g]] w fun e w' => e = .returned (.string (lineB ⟨7, to, a, b, n, g⟩)) ∧ Below w.heap.size w w' := by
  have t1 : nTo 7 = true := rfl
  have t2 : nA 7 = true := rfl
  have t3 : nB 7 = true := rfl
  have t4 : nN 7 = false := rfl
  have t5 : nG 7 = false := rfl
  have sw : (wordB 7).size = 3 := rfl
  have s1 : (⟨#[32]⟩ : ByteArray).size = 1 := rfl
  have lto := itoaB_size to hto
  have la := itoaB_size a ha
  have lb := itoaB_size b hb
  have hr : Hid (wordB 7 ++ (⟨#[32]⟩ ++ itoaB to) ++ (⟨#[32]⟩ ++ itoaB a) ++ (⟨#[32]⟩ ++ itoaB b) = lineB ⟨7, to, a, b, n, g⟩) := by show _ = _; rfl
  go_enter Tryd.func39, Tryd.ntmps39
  go_wp2_with (first
    | (go_at_call 38; refine (digitsB_any _ _ ?hf).mono ?_; (case hf => assumption); rintro e w1 ⟨rfl, hb1⟩; obtain ⟨hc1, hf1⟩ := bcell hb1; have HB : Below w.heap.size w w1 := (by first | exact HB.trans (hb1.mono HB.size) | exact Below.trans (by go_grown) (hb1.mono (by go_size))); have hz1 : w.heap.size < w1.heap.size := (by have := hb1.size; (try simp at this); omega))
    | (go_at_call 57; refine (namesTo_any _ _).mono ?_; rintro e w' ⟨rfl, rfl⟩)
    | (go_at_call 51; refine (namesA_any _ _).mono ?_; rintro e w' ⟨rfl, rfl⟩)
    | (go_at_call 52; refine (namesB_any _ _).mono ?_; rintro e w' ⟨rfl, rfl⟩)
    | (go_at_call 66; refine (namesN_any _ _).mono ?_; rintro e w' ⟨rfl, rfl⟩)
    | (go_at_call 40; refine (namesGoto_any _ _).mono ?_; rintro e w' ⟨rfl, rfl⟩)
    | (go_at_call 65; refine (word_any _ _).mono ?_; rintro e w1 ⟨rfl, hb1⟩; obtain ⟨hc1, hf1⟩ := bcell hb1; have HB : Below w.heap.size w w1 := Below.trans (by go_grown) (hb1.mono (by go_size)); have hz1 : w.heap.size < w1.heap.size := (by have := hb1.size; simp at this; omega)))
  go_ret
  exact ⟨ret_str hr.out, HB⟩

set_option maxHeartbeats 2000000 in
set_option maxRecDepth 20000 in
theorem lineOf_8 (to a b n g : Int) (w : World) (hto : fits to) (ha : fits a) (hb : fits b) :
    Calls Tryd.prog 39 #[.agg #[.int .i64 8, .int .i64 to, .int .i64 a, .int .i64 b, .int .i64 n, .int .i64 g]] w fun e w' => e = .returned (.string (lineB ⟨8, to, a, b, n, g⟩)) ∧ Below w.heap.size w w' := by
  have t1 : nTo 8 = true := rfl
  have t2 : nA 8 = true := rfl
  have t3 : nB 8 = true := rfl
  have t4 : nN 8 = false := rfl
  have t5 : nG 8 = false := rfl
  have sw : (wordB 8).size = 4 := rfl
  have s1 : (⟨#[32]⟩ : ByteArray).size = 1 := rfl
  have lto := itoaB_size to hto
  have la := itoaB_size a ha
  have lb := itoaB_size b hb
  have hr : Hid (wordB 8 ++ (⟨#[32]⟩ ++ itoaB to) ++ (⟨#[32]⟩ ++ itoaB a) ++ (⟨#[32]⟩ ++ itoaB b) = lineB ⟨8, to, a, b, n, g⟩) := by show _ = _; rfl
  go_enter Tryd.func39, Tryd.ntmps39
  go_wp2_with (first
    | (go_at_call 38; refine (digitsB_any _ _ ?hf).mono ?_; (case hf => assumption); rintro e w1 ⟨rfl, hb1⟩; obtain ⟨hc1, hf1⟩ := bcell hb1; have HB : Below w.heap.size w w1 := (by first | exact HB.trans (hb1.mono HB.size) | exact Below.trans (by go_grown) (hb1.mono (by go_size))); have hz1 : w.heap.size < w1.heap.size := (by have := hb1.size; (try simp at this); omega))
    | (go_at_call 57; refine (namesTo_any _ _).mono ?_; rintro e w' ⟨rfl, rfl⟩)
    | (go_at_call 51; refine (namesA_any _ _).mono ?_; rintro e w' ⟨rfl, rfl⟩)
    | (go_at_call 52; refine (namesB_any _ _).mono ?_; rintro e w' ⟨rfl, rfl⟩)
    | (go_at_call 66; refine (namesN_any _ _).mono ?_; rintro e w' ⟨rfl, rfl⟩)
    | (go_at_call 40; refine (namesGoto_any _ _).mono ?_; rintro e w' ⟨rfl, rfl⟩)
    | (go_at_call 65; refine (word_any _ _).mono ?_; rintro e w1 ⟨rfl, hb1⟩; obtain ⟨hc1, hf1⟩ := bcell hb1; have HB : Below w.heap.size w w1 := Below.trans (by go_grown) (hb1.mono (by go_size)); have hz1 : w.heap.size < w1.heap.size := (by have := hb1.size; simp at this; omega)))
  go_ret
  exact ⟨ret_str hr.out, HB⟩

set_option maxHeartbeats 2000000 in
set_option maxRecDepth 20000 in
theorem lineOf_9 (to a b n g : Int) (w : World) (hto : fits to) (ha : fits a) (hb : fits b) :
    Calls Tryd.prog 39 #[.agg #[.int .i64 9, .int .i64 to, .int .i64 a, .int .i64 b, .int .i64 n, .int .i64 g]] w fun e w' => e = .returned (.string (lineB ⟨9, to, a, b, n, g⟩)) ∧ Below w.heap.size w w' := by
  have t1 : nTo 9 = true := rfl
  have t2 : nA 9 = true := rfl
  have t3 : nB 9 = true := rfl
  have t4 : nN 9 = false := rfl
  have t5 : nG 9 = false := rfl
  have sw : (wordB 9).size = 4 := rfl
  have s1 : (⟨#[32]⟩ : ByteArray).size = 1 := rfl
  have lto := itoaB_size to hto
  have la := itoaB_size a ha
  have lb := itoaB_size b hb
  have hr : Hid (wordB 9 ++ (⟨#[32]⟩ ++ itoaB to) ++ (⟨#[32]⟩ ++ itoaB a) ++ (⟨#[32]⟩ ++ itoaB b) = lineB ⟨9, to, a, b, n, g⟩) := by show _ = _; rfl
  go_enter Tryd.func39, Tryd.ntmps39
  go_wp2_with (first
    | (go_at_call 38; refine (digitsB_any _ _ ?hf).mono ?_; (case hf => assumption); rintro e w1 ⟨rfl, hb1⟩; obtain ⟨hc1, hf1⟩ := bcell hb1; have HB : Below w.heap.size w w1 := (by first | exact HB.trans (hb1.mono HB.size) | exact Below.trans (by go_grown) (hb1.mono (by go_size))); have hz1 : w.heap.size < w1.heap.size := (by have := hb1.size; (try simp at this); omega))
    | (go_at_call 57; refine (namesTo_any _ _).mono ?_; rintro e w' ⟨rfl, rfl⟩)
    | (go_at_call 51; refine (namesA_any _ _).mono ?_; rintro e w' ⟨rfl, rfl⟩)
    | (go_at_call 52; refine (namesB_any _ _).mono ?_; rintro e w' ⟨rfl, rfl⟩)
    | (go_at_call 66; refine (namesN_any _ _).mono ?_; rintro e w' ⟨rfl, rfl⟩)
    | (go_at_call 40; refine (namesGoto_any _ _).mono ?_; rintro e w' ⟨rfl, rfl⟩)
    | (go_at_call 65; refine (word_any _ _).mono ?_; rintro e w1 ⟨rfl, hb1⟩; obtain ⟨hc1, hf1⟩ := bcell hb1; have HB : Below w.heap.size w w1 := Below.trans (by go_grown) (hb1.mono (by go_size)); have hz1 : w.heap.size < w1.heap.size := (by have := hb1.size; simp at this; omega)))
  go_ret
  exact ⟨ret_str hr.out, HB⟩
end Go.Proofs.YtmapdpcfanecdaaDoor
