/- Walks over the document's own answers: the text of a program. -/
import Derived.Test.YtmapdpcfanecdaaDoorKlawrrp03
namespace Go.Proofs.YtmapdpcfanecdaaDoor
set_option linter.unusedVariables false
set_option linter.unusedSimpArgs false
open Go.RowKit

set_option maxHeartbeats 2000000 in
set_option maxRecDepth 20000 in
theorem lineOf_1 (to a b n g : Int) (w : World) (hto : fits to) (hn : fits n) :
    Calls Tryd.prog 39 #[.agg #[.int .i64 1, .int .i64 to, .int .i64 a, .int .i64 b, .int .i64 n, .int .i64 g]] w fun e w' => e = .returned (.string (lineB ⟨1, to, a, b, n, g⟩)) ∧ Below w.heap.size w w' := by
  have t1 : nTo 1 = true := rfl
  have t2 : nA 1 = false := rfl
  have t3 : nB 1 = false := rfl
  have t4 : nN 1 = true := rfl
  have t5 : nG 1 = false := rfl
  have sw : (wordB 1).size = 6 := rfl
  have s1 : (⟨#[32]⟩ : ByteArray).size = 1 := rfl
  have lto := itoaB_size to hto
  have ln := itoaB_size n hn
  have hr : Hid (wordB 1 ++ (⟨#[32]⟩ ++ itoaB to) ++ (⟨#[32]⟩ ++ itoaB n) = lineB ⟨1, to, a, b, n, g⟩) := by show _ = _; rfl
  go_enter Tryd.func39, Tryd.ntmps39
  go_wp2_with (first
    | (go_at_call 38; refine (digitsB_any _ _ ?hf).mono ?_; (case hf => assumption); rintro e w1 ⟨rfl, hb1⟩; obtain ⟨hc1, hf1⟩ := bcell hb1; have HB : Below w.heap.size w w1 := (by first | exact HB.trans (hb1.mono HB.size) | exact Below.trans (by go_grown) (hb1.mono (by go_size))); have hz1 : w.heap.size < w1.heap.size := (by have := hb1.size; (try simp at this); omega))
    | (go_at_call 57; refine (namesTo_any _ _).mono ?_; rintro e w' ⟨rfl, rfl⟩)
    | (go_at_call 51; refine (namesA_any _ _).mono ?_; rintro e w' ⟨rfl, rfl⟩)
    | (go_at_call 52; refine (namesB_any _ _).mono ?_; rintro e w' ⟨rfl, rfl⟩)
    | (go_at_call 66; refine (namesN_any _ _).mono ?_; rintro e w' ⟨rfl, rfl⟩)
    | (go_at_call 40; refine (namesGoto_any _ _).mono ?_; rintro e w' ⟨rfl, rfl⟩)
    | (go_at_call 65; refine (word_any _ _).mono ?_; rintro e w1 ⟨rfl, hb1⟩; obtain ⟨hc1, hf1⟩ := bcell hb1; have HB : Below w.heap.size w w1 := Below.trans (by go_grown) (hb1.mono (by go_size)); have hz1 : w.heap.size < w1.heap.size := (by have := hb1.size; simp at this; omega)))
  go_ret
  exact ⟨ret_str hr.out, HB⟩

set_option maxHeartbeats 2000000 in
set_option maxRecDepth 20000 in
theorem lineOf_2 (to a b n g : Int) (w : World) (hto : fits to) (hn : fits n) :
    Calls Tryd.prog 39 #[.agg #[.int .i64 2, .int .i64 to, .int .i64 a, .int .i64 b, .int .i64 n, .int .i64 g]] w fun e w' => e = .returned (.string (lineB ⟨2, to, a, b, n, g⟩)) ∧ Below w.heap.size w w' := by
  have t1 : nTo 2 = true := rfl
  have t2 : nA 2 = false := rfl
  have t3 : nB 2 = false := rfl
  have t4 : nN 2 = true := rfl
  have t5 : nG 2 = false := rfl
  have sw : (wordB 2).size = 5 := rfl
  have s1 : (⟨#[32]⟩ : ByteArray).size = 1 := rfl
  have lto := itoaB_size to hto
  have ln := itoaB_size n hn
  have hr : Hid (wordB 2 ++ (⟨#[32]⟩ ++ itoaB to) ++ (⟨#[32]⟩ ++ itoaB n) = lineB ⟨2, to, a, b, n, g⟩) := by show _ = _; rfl
  go_enter Tryd.func39, Tryd.ntmps39
  go_wp2_with (first
    | (go_at_call 38; refine (digitsB_any _ _ ?hf).mono ?_; (case hf => assumption); rintro e w1 ⟨rfl, hb1⟩; obtain ⟨hc1, hf1⟩ := bcell hb1; have HB : Below w.heap.size w w1 := (by first | exact HB.trans (hb1.mono HB.size) | exact Below.trans (by go_grown) (hb1.mono (by go_size))); have hz1 : w.heap.size < w1.heap.size := (by have := hb1.size; (try simp at this); omega))
    | (go_at_call 57; refine (namesTo_any _ _).mono ?_; rintro e w' ⟨rfl, rfl⟩)
    | (go_at_call 51; refine (namesA_any _ _).mono ?_; rintro e w' ⟨rfl, rfl⟩)
    | (go_at_call 52; refine (namesB_any _ _).mono ?_; rintro e w' ⟨rfl, rfl⟩)
    | (go_at_call 66; refine (namesN_any _ _).mono ?_; rintro e w' ⟨rfl, rfl⟩)
    | (go_at_call 40; refine (namesGoto_any _ _).mono ?_; rintro e w' ⟨rfl, rfl⟩)
    | (go_at_call 65; refine (word_any _ _).mono ?_; rintro e w1 ⟨rfl, hb1⟩; obtain ⟨hc1, hf1⟩ := bcell hb1; have HB : Below w.heap.size w w1 := Below.trans (by go_grown) (hb1.mono (by go_size)); have hz1 : w.heap.size < w1.heap.size := (by have := hb1.size; simp at this; omega)))
  go_ret
  exact ⟨ret_str hr.out, HB⟩

set_option maxHeartbeats 2000000 in
set_option maxRecDepth 20000 in
theorem lineOf_3 (to a b n g : Int) (w : World) (hto : fits to) :
    Calls Tryd.prog 39 #[.agg #[.int .i64 3, .int .i64 to, .int .i64 a, .int .i64 b, .int .i64 n, .int .i64 g]] w fun e w' => e = .returned (.string (lineB ⟨3, to, a, b, n, g⟩)) ∧ Below w.heap.size w w' := by
  have t1 : nTo 3 = true := rfl
  have t2 : nA 3 = false := rfl
  have t3 : nB 3 = false := rfl
  have t4 : nN 3 = false := rfl
  have t5 : nG 3 = false := rfl
  have sw : (wordB 3).size = 4 := rfl
  have s1 : (⟨#[32]⟩ : ByteArray).size = 1 := rfl
  have lto := itoaB_size to hto
  have hr : Hid (wordB 3 ++ (⟨#[32]⟩ ++ itoaB to) = lineB ⟨3, to, a, b, n, g⟩) := by show _ = _; rfl
  go_enter Tryd.func39, Tryd.ntmps39
  go_wp2_with (first
    | (go_at_call 38; refine (digitsB_any _ _ ?hf).mono ?_; (case hf => assumption); rintro e w1 ⟨rfl, hb1⟩; obtain ⟨hc1, hf1⟩ := bcell hb1; have HB : Below w.heap.size w w1 := (by first | exact HB.trans (hb1.mono HB.size) | exact Below.trans (by go_grown) (hb1.mono (by go_size))); have hz1 : w.heap.size < w1.heap.size := (by have := hb1.size; (try simp at this); omega))
    | (go_at_call 57; refine (namesTo_any _ _).mono ?_; rintro e w' ⟨rfl, rfl⟩)
    | (go_at_call 51; refine (namesA_any _ _).mono ?_; rintro e w' ⟨rfl, rfl⟩)
    | (go_at_call 52; refine (namesB_any _ _).mono ?_; rintro e w' ⟨rfl, rfl⟩)
    | (go_at_call 66; refine (namesN_any _ _).mono ?_; rintro e w' ⟨rfl, rfl⟩)
    | (go_at_call 40; refine (namesGoto_any _ _).mono ?_; rintro e w' ⟨rfl, rfl⟩)
    | (go_at_call 65; refine (word_any _ _).mono ?_; rintro e w1 ⟨rfl, hb1⟩; obtain ⟨hc1, hf1⟩ := bcell hb1; have HB : Below w.heap.size w w1 := Below.trans (by go_grown) (hb1.mono (by go_size)); have hz1 : w.heap.size < w1.heap.size := (by have := hb1.size; simp at this; omega)))
  go_ret
  exact ⟨ret_str hr.out, HB⟩

set_option maxHeartbeats 2000000 in
set_option maxRecDepth 20000 in
theorem lineOf_4 (to a b n g : Int) (w : World) (hto : fits to) (ha : fits a) :
    Calls Tryd.prog 39 #[.agg #[.int .i64 4, .int .i64 to, .int .i64 a, .int .i64 b, .int .i64 n, .int .i64 g]] w fun e w' => e = .returned (.string (lineB ⟨4, to, a, b, n, g⟩)) ∧ Below w.heap.size w w' := by
  have t1 : nTo 4 = true := rfl
  have t2 : nA 4 = true := rfl
  have t3 : nB 4 = false := rfl
  have t4 : nN 4 = false := rfl
  have t5 : nG 4 = false := rfl
  have sw : (wordB 4).size = 4 := rfl
  have s1 : (⟨#[32]⟩ : ByteArray).size = 1 := rfl
  have lto := itoaB_size to hto
  have la := itoaB_size a ha
  have hr : Hid (wordB 4 ++ (⟨#[32]⟩ ++ itoaB to) ++ (⟨#[32]⟩ ++ itoaB a) = lineB ⟨4, to, a, b, n, g⟩) := by show _ = _; rfl
  go_enter Tryd.func39, Tryd.ntmps39
  go_wp2_with (first
    | (go_at_call 38; refine (digitsB_any _ _ ?hf).mono ?_; (case hf => assumption); rintro e w1 ⟨rfl, hb1⟩; obtain ⟨hc1, hf1⟩ := bcell hb1; have HB : Below w.heap.size w w1 := (by first | exact HB.trans (hb1.mono HB.size) | exact Below.trans (by go_grown) (hb1.mono (by go_size))); have hz1 : w.heap.size < w1.heap.size := (by have := hb1.size; (try simp at this); omega))
    | (go_at_call 57; refine (namesTo_any _ _).mono ?_; rintro e w' ⟨rfl, rfl⟩)
    | (go_at_call 51; refine (namesA_any _ _).mono ?_; rintro e w' ⟨rfl, rfl⟩)
    | (go_at_call 52; refine (namesB_any _ _).mono ?_; rintro e w' ⟨rfl, rfl⟩)
    | (go_at_call 66; refine (namesN_any _ _).mono ?_; rintro e w' ⟨rfl, rfl⟩)
    | (go_at_call 40; refine (namesGoto_any _ _).mono ?_; rintro e w' ⟨rfl, rfl⟩)
    | (go_at_call 65; refine (word_any _ _).mono ?_; rintro e w1 ⟨rfl, hb1⟩; obtain ⟨hc1, hf1⟩ := bcell hb1; have HB : Below w.heap.size w w1 := Below.trans (by go_grown) (hb1.mono (by go_size)); have hz1 : w.heap.size < w1.heap.size := (by have := hb1.size; simp at this; omega)))
  go_ret
  exact ⟨ret_str hr.out, HB⟩

set_option maxHeartbeats 2000000 in
set_option maxRecDepth 20000 in
theorem lineOf_19 (to a b n g : Int) (w : World)  :
    Calls Tryd.prog 39 #[.agg #[.int .i64 19, .int .i64 to, .int .i64 a, .int .i64 b, .int .i64 n, .int .i64 g]] w fun e w' => e = .returned (.string (lineB ⟨19, to, a, b, n, g⟩)) ∧ Below w.heap.size w w' := by
  have t1 : nTo 19 = false := rfl
  have t2 : nA 19 = false := rfl
  have t3 : nB 19 = false := rfl
  have t4 : nN 19 = false := rfl
  have t5 : nG 19 = false := rfl
  have sw : (wordB 19).size = 3 := rfl
  have s1 : (⟨#[32]⟩ : ByteArray).size = 1 := rfl
  have hr : Hid (wordB 19 = lineB ⟨19, to, a, b, n, g⟩) := by show _ = _; rfl
  go_enter Tryd.func39, Tryd.ntmps39
  go_wp2_with (first
    | (go_at_call 38; refine (digitsB_any _ _ ?hf).mono ?_; (case hf => assumption); rintro e w1 ⟨rfl, hb1⟩; obtain ⟨hc1, hf1⟩ := bcell hb1; have HB : Below w.heap.size w w1 := (by first | exact HB.trans (hb1.mono HB.size) | exact Below.trans (by go_grown) (hb1.mono (by go_size))); have hz1 : w.heap.size < w1.heap.size := (by have := hb1.size; (try simp at this); omega))
    | (go_at_call 57; refine (namesTo_any _ _).mono ?_; rintro e w' ⟨rfl, rfl⟩)
    | (go_at_call 51; refine (namesA_any _ _).mono ?_; rintro e w' ⟨rfl, rfl⟩)
    | (go_at_call 52; refine (namesB_any _ _).mono ?_; rintro e w' ⟨rfl, rfl⟩)
    | (go_at_call 66; refine (namesN_any _ _).mono ?_; rintro e w' ⟨rfl, rfl⟩)
    | (go_at_call 40; refine (namesGoto_any _ _).mono ?_; rintro e w' ⟨rfl, rfl⟩)
    | (go_at_call 65; refine (word_any _ _).mono ?_; rintro e w1 ⟨rfl, hb1⟩; obtain ⟨hc1, hf1⟩ := bcell hb1; have HB : Below w.heap.size w w1 := Below.trans (by go_grown) (hb1.mono (by go_size)); have hz1 : w.heap.size < w1.heap.size := (by have := hb1.size; simp at this; omega)))
  go_ret
  exact ⟨ret_str hr.out, HB⟩

set_option maxHeartbeats 2000000 in
set_option maxRecDepth 20000 in
theorem lineOf_5 (to a b n g : Int) (w : World) (hto : fits to) (ha : fits a) (hb : fits b) :
    Calls Tryd.prog 39 #[.agg #[.int .i64 5, .int .i64 to, .int .i64 a, .int .i64 b, .int .i64 n, .int .i64 g]] w fun e w' => e = .returned (.string (lineB ⟨5, to, a, b, n, g⟩)) ∧ Below w.heap.size w w' := by
  have t1 : nTo 5 = true := rfl
  have t2 : nA 5 = true := rfl
  have t3 : nB 5 = true := rfl
  have t4 : nN 5 = false := rfl
  have t5 : nG 5 = false := rfl
  have sw : (wordB 5).size = 3 := rfl
  have s1 : (⟨#[32]⟩ : ByteArray).size = 1 := rfl
  have lto := itoaB_size to hto
  have la := itoaB_size a ha
  have lb := itoaB_size b hb
  have hr : Hid (wordB 5 ++ (⟨#[32]⟩ ++ itoaB to) ++ (⟨#[32]⟩ ++ itoaB a) ++ (⟨#[32]⟩ ++ itoaB b) = lineB ⟨5, to, a, b, n, g⟩) := by show _ = _; rfl
  go_enter Tryd.func39, Tryd.ntmps39
  go_wp2_with (first
    | (go_at_call 38; refine (digitsB_any _ _ ?hf).mono ?_; (case hf => assumption); rintro e w1 ⟨rfl, hb1⟩; obtain ⟨hc1, hf1⟩ := bcell hb1; have HB : Below w.heap.size w w1 := (by first | exact HB.trans (hb1.mono HB.size) | exact Below.trans (by go_grown) (hb1.mono (by go_size))); have hz1 : w.heap.size < w1.heap.size := (by have := hb1.size; (try simp at this); omega))
    | (go_at_call 57; refine (namesTo_any _ _).mono ?_; rintro e w' ⟨rfl, rfl⟩)
    | (go_at_call 51; refine (namesA_any _ _).mono ?_; rintro e w' ⟨rfl, rfl⟩)
    | (go_at_call 52; refine (namesB_any _ _).mono ?_; rintro e w' ⟨rfl, rfl⟩)
    | (go_at_call 66; refine (namesN_any _ _).mono ?_; rintro e w' ⟨rfl, rfl⟩)
    | (go_at_call 40; refine (namesGoto_any _ _).mono ?_; rintro e w' ⟨rfl, rfl⟩)
    | (go_at_call 65; refine (word_any _ _).mono ?_; rintro e w1 ⟨rfl, hb1⟩; obtain ⟨hc1, hf1⟩ := bcell hb1; have HB : Below w.heap.size w w1 := Below.trans (by go_grown) (hb1.mono (by go_size)); have hz1 : w.heap.size < w1.heap.size := (by have := hb1.size; simp at this; omega)))
  go_ret
  exact ⟨ret_str hr.out, HB⟩
end Go.Proofs.YtmapdpcfanecdaaDoor

namespace Go.Proofs.YtmapdpcfanecdaaDoor
set_option linter.unusedVariables false
set_option linter.unusedSimpArgs false
open Go.RowKit

set_option maxHeartbeats 2000000 in
set_option maxRecDepth 20000 in
theorem lineOf_6 (to a b n g : Int) (w : World) (hto : fits to) (ha : fits a) (hb : fits b) :
    Calls Tryd.prog 39 #[.agg #[.int .i64 6, .int .i64 to, .int .i64 a, .int .i64 b, .int .i64 n, .int .i64 g]] w fun e w' => e = .returned (.string (lineB ⟨6, to, a, b, n, g⟩)) ∧ Below w.heap.size w w' := by
  have t1 : nTo 6 = true := rfl
  have t2 : nA 6 = true := rfl
  have t3 : nB 6 = true := rfl
  have t4 : nN 6 = false := rfl
  have t5 : nG 6 = false := rfl
  have sw : (wordB 6).size = 3 := rfl
  have s1 : (⟨#[32]⟩ : ByteArray).size = 1 := rfl
  have lto := itoaB_size to hto
  have la := itoaB_size a ha
  have lb := itoaB_size b hb
  have hr : Hid (wordB 6 ++ (⟨#[32]⟩ ++ itoaB to) ++ (⟨#[32]⟩ ++ itoaB a) ++ (⟨#[32]⟩ ++ itoaB b) = lineB ⟨6, to, a, b, n, g⟩) := by show _ = _; rfl
  go_enter Tryd.func39, Tryd.ntmps39
  go_wp2_with (first
    | (go_at_call 38; refine (digitsB_any _ _ ?hf).mono ?_; (case hf => assumption); rintro e w1 ⟨rfl, hb1⟩; obtain ⟨hc1, hf1⟩ := bcell hb1; have HB : Below w.heap.size w w1 := (by first | exact HB.trans (hb1.mono HB.size) | exact Below.trans (by go_grown) (hb1.mono (by go_size))); have hz1 : w.heap.size < w1.heap.size := (by have := hb1.size; (try simp at this); omega))
    | (go_at_call 57; refine (namesTo_any _ _).mono ?_; rintro e w' ⟨rfl, rfl⟩)
    | (go_at_call 51; refine (namesA_any _ _).mono ?_; rintro e w' ⟨rfl, rfl⟩)
    | (go_at_call 52; refine (namesB_any _ _).mono ?_; rintro e w' ⟨rfl, rfl⟩)
    | (go_at_call 66; refine (namesN_any _ _).mono ?_; rintro e w' ⟨rfl, rfl⟩)
    | (go_at_call 40; refine (namesGoto_any _ _).mono ?_; rintro e w' ⟨rfl, rfl⟩)
    | (go_at_call 65; refine (word_any _ _).mono ?_; rintro e w1 ⟨rfl, hb1⟩; obtain ⟨hc1, hf1⟩ := bcell hb1; have HB : Below w.heap.size w w1 := Below.trans (by go_grown) (hb1.mono (by go_size)); have hz1 : w.heap.size < w1.heap.size := (by have := hb1.size; simp at this; omega)))
  go_ret
  exact ⟨ret_str hr.out, HB⟩

set_option maxHeartbeats 2000000 in
set_option maxRecDepth 20000 in
theorem lineOf_7 (to a b n g : Int) (w : World) (hto : fits to) (ha : fits a) (hb : fits b) :
    Calls Tryd.prog 39 #[.agg #[.int .i64 7, .int .i64 to, .int .i64 a, .int .i64 b, .int .i64 n, .int .i64 g]] w fun e w' => e = .returned (.string (lineB ⟨7, to, a, b, n, g⟩)) ∧ Below w.heap.size w w' := by
  have t1 : nTo 7 = true := rfl
  have t2 : nA 7 = true := rfl
  have t3 : nB 7 = true := rfl
  have t4 : nN 7 = false := rfl
  have t5 : nG 7 = false := rfl
  have sw : (wordB 7).size = 3 := rfl
  have s1 : (⟨#[32]⟩ : ByteArray).size = 1 := rfl
  have lto := itoaB_size to hto
  have la := itoaB_size a ha
  have lb := itoaB_size b hb
  have hr : Hid (wordB 7 ++ (⟨#[32]⟩ ++ itoaB to) ++ (⟨#[32]⟩ ++ itoaB a) ++ (⟨#[32]⟩ ++ itoaB b) = lineB ⟨7, to, a, b, n, g⟩) := by show _ = _; rfl
  go_enter Tryd.func39, Tryd.ntmps39
  go_wp2_with (first
    | (go_at_call 38; refine (digitsB_any _ _ ?hf).mono ?_; (case hf => assumption); rintro e w1 ⟨rfl, hb1⟩; obtain ⟨hc1, hf1⟩ := bcell hb1; have HB : Below w.heap.size w w1 := (by first | exact HB.trans (hb1.mono HB.size) | exact Below.trans (by go_grown) (hb1.mono (by go_size))); have hz1 : w.heap.size < w1.heap.size := (by have := hb1.size; (try simp at this); omega))
    | (go_at_call 57; refine (namesTo_any _ _).mono ?_; rintro e w' ⟨rfl, rfl⟩)
    | (go_at_call 51; refine (namesA_any _ _).mono ?_; rintro e w' ⟨rfl, rfl⟩)
    | (go_at_call 52; refine (namesB_any _ _).mono ?_; rintro e w' ⟨rfl, rfl⟩)
    | (go_at_call 66; refine (namesN_any _ _).mono ?_; rintro e w' ⟨rfl, rfl⟩)
    | (go_at_call 40; refine (namesGoto_any _ _).mono ?_; rintro e w' ⟨rfl, rfl⟩)
    | (go_at_call 65; refine (word_any _ _).mono ?_; rintro e w1 ⟨rfl, hb1⟩; obtain ⟨hc1, hf1⟩ := bcell hb1; have HB : Below w.heap.size w w1 := Below.trans (by go_grown) (hb1.mono (by go_size)); have hz1 : w.heap.size < w1.heap.size := (by have := hb1.size; simp at this; omega)))
  go_ret
  exact ⟨ret_str hr.out, HB⟩

set_option maxHeartbeats 2000000 in
set_option maxRecDepth 20000 in
theorem lineOf_8 (to a b n g : Int) (w : World) (hto : fits to) (ha : fits a) (hb : fits b) :
    Calls Tryd.prog 39 #[.agg #[.int .i64 8, .int .i64 to, .int .i64 a, .int .i64 b, .int .i64 n, .int .i64 g]] w fun e w' => e = .returned (.string (lineB ⟨8, to, a, b, n, g⟩)) ∧ Below w.heap.size w w' := by
  have t1 : nTo 8 = true := rfl
  have t2 : nA 8 = true := rfl
  have t3 : nB 8 = true := rfl
  have t4 : nN 8 = false := rfl
  have t5 : nG 8 = false := rfl
  have sw : (wordB 8).size = 4 := rfl
  have s1 : (⟨#[32]⟩ : ByteArray).size = 1 := rfl
  have lto := itoaB_size to hto
  have la := itoaB_size a ha
  have lb := itoaB_size b hb
  have hr : Hid (wordB 8 ++ (⟨#[32]⟩ ++ itoaB to) ++ (⟨#[32]⟩ ++ itoaB a) ++ (⟨#[32]⟩ ++ itoaB b) = lineB ⟨8, to, a, b, n, g⟩) := by show _ = _; rfl
  go_enter Tryd.func39, Tryd.ntmps39
  go_wp2_with (first
    | (go_at_call 38; refine (digitsB_any _ _ ?hf).mono ?_; (case hf => assumption); rintro e w1 ⟨rfl, hb1⟩; obtain ⟨hc1, hf1⟩ := bcell hb1; have HB : Below w.heap.size w w1 := (by first | exact HB.trans (hb1.mono HB.size) | exact Below.trans (by go_grown) (hb1.mono (by go_size))); have hz1 : w.heap.size < w1.heap.size := (by have := hb1.size; (try simp at this); omega))
    | (go_at_call 57; refine (namesTo_any _ _).mono ?_; rintro e w' ⟨rfl, rfl⟩)
    | (go_at_call 51; refine (namesA_any _ _).mono ?_; rintro e w' ⟨rfl, rfl⟩)
    | (go_at_call 52; refine (namesB_any _ _).mono ?_; rintro e w' ⟨rfl, rfl⟩)
    | (go_at_call 66; refine (namesN_any _ _).mono ?_; rintro e w' ⟨rfl, rfl⟩)
    | (go_at_call 40; refine (namesGoto_any _ _).mono ?_; rintro e w' ⟨rfl, rfl⟩)
    | (go_at_call 65; refine (word_any _ _).mono ?_; rintro e w1 ⟨rfl, hb1⟩; obtain ⟨hc1, hf1⟩ := bcell hb1; have HB : Below w.heap.size w w1 := Below.trans (by go_grown) (hb1.mono (by go_size)); have hz1 : w.heap.size < w1.heap.size := (by have := hb1.size; simp at this; omega)))
  go_ret
  exact ⟨ret_str hr.out, HB⟩

set_option maxHeartbeats 2000000 in
set_option maxRecDepth 20000 in
theorem lineOf_9 (to a b n g : Int) (w : World) (hto : fits to) (ha : fits a) (hb : fits b) :
    Calls Tryd.prog 39 #[.agg #[.int .i64 9, .int .i64 to, .int .i64 a, .int .i64 b, .int .i64 n, .int .i64 g]] w fun e w' => e = .returned (.string (lineB ⟨9, to, a, b, n, g⟩)) ∧ Below w.heap.size w w' := by
  have t1 : nTo 9 = true := rfl
  have t2 : nA 9 = true := rfl
  have t3 : nB 9 = true := rfl
  have t4 : nN 9 = false := rfl
  have t5 : nG 9 = false := rfl
  have sw : (wordB 9).size = 4 := rfl
  have s1 : (⟨#[32]⟩ : ByteArray).size = 1 := rfl
  have lto := itoaB_size to hto
  have la := itoaB_size a ha
  have lb := itoaB_size b hb
  have hr : Hid (wordB 9 ++ (⟨#[32]⟩ ++ itoaB to) ++ (⟨#[32]⟩ ++ itoaB a) ++ (⟨#[32]⟩ ++ itoaB b) = lineB ⟨9, to, a, b, n, g⟩) := by show _ = _; rfl
  go_enter Tryd.func39, Tryd.ntmps39
  go_wp2_with (first
    | (go_at_call 38; refine (digitsB_any _ _ ?hf).mono ?_; (case hf => assumption); rintro e w1 ⟨rfl, hb1⟩; obtain ⟨hc1, hf1⟩ := bcell hb1; have HB : Below w.heap.size w w1 := (by first | exact HB.trans (hb1.mono HB.size) | exact Below.trans (by go_grown) (hb1.mono (by go_size))); have hz1 : w.heap.size < w1.heap.size := (by have := hb1.size; (try simp at this); omega))
    | (go_at_call 57; refine (namesTo_any _ _).mono ?_; rintro e w' ⟨rfl, rfl⟩)
    | (go_at_call 51; refine (namesA_any _ _).mono ?_; rintro e w' ⟨rfl, rfl⟩)
    | (go_at_call 52; refine (namesB_any _ _).mono ?_; rintro e w' ⟨rfl, rfl⟩)
    | (go_at_call 66; refine (namesN_any _ _).mono ?_; rintro e w' ⟨rfl, rfl⟩)
    | (go_at_call 40; refine (namesGoto_any _ _).mono ?_; rintro e w' ⟨rfl, rfl⟩)
    | (go_at_call 65; refine (word_any _ _).mono ?_; rintro e w1 ⟨rfl, hb1⟩; obtain ⟨hc1, hf1⟩ := bcell hb1; have HB : Below w.heap.size w w1 := Below.trans (by go_grown) (hb1.mono (by go_size)); have hz1 : w.heap.size < w1.heap.size := (by have := hb1.size; simp at this; omega)))
  go_ret
  exact ⟨ret_str hr.out, HB⟩
end Go.Proofs.YtmapdpcfanecdaaDoor

namespace Go.Proofs.YtmapdpcfanecdaaDoor
set_option linter.unusedVariables false
set_option linter.unusedSimpArgs false
open Go.RowKit

set_option maxHeartbeats 2000000 in
set_option maxRecDepth 20000 in
theorem lineOf_10 (to a b n g : Int) (w : World) (hto : fits to) (ha : fits a) :
    Calls Tryd.prog 39 #[.agg #[.int .i64 10, .int .i64 to, .int .i64 a, .int .i64 b, .int .i64 n, .int .i64 g]] w fun e w' => e = .returned (.string (lineB ⟨10, to, a, b, n, g⟩)) ∧ Below w.heap.size w w' := by
  have t1 : nTo 10 = true := rfl
  have t2 : nA 10 = true := rfl
  have t3 : nB 10 = false := rfl
  have t4 : nN 10 = false := rfl
  have t5 : nG 10 = false := rfl
  have sw : (wordB 10).size = 3 := rfl
  have s1 : (⟨#[32]⟩ : ByteArray).size = 1 := rfl
  have lto := itoaB_size to hto
  have la := itoaB_size a ha
  have hr : Hid (wordB 10 ++ (⟨#[32]⟩ ++ itoaB to) ++ (⟨#[32]⟩ ++ itoaB a) = lineB ⟨10, to, a, b, n, g⟩) := by show _ = _; rfl
  go_enter Tryd.func39, Tryd.ntmps39
  go_wp2_with (first
    | (go_at_call 38; refine (digitsB_any _ _ ?hf).mono ?_; (case hf => assumption); rintro e w1 ⟨rfl, hb1⟩; obtain ⟨hc1, hf1⟩ := bcell hb1; have HB : Below w.heap.size w w1 := (by first | exact HB.trans (hb1.mono HB.size) | exact Below.trans (by go_grown) (hb1.mono (by go_size))); have hz1 : w.heap.size < w1.heap.size := (by have := hb1.size; (try simp at this); omega))
    | (go_at_call 57; refine (namesTo_any _ _).mono ?_; rintro e w' ⟨rfl, rfl⟩)
    | (go_at_call 51; refine (namesA_any _ _).mono ?_; rintro e w' ⟨rfl, rfl⟩)
    | (go_at_call 52; refine (namesB_any _ _).mono ?_; rintro e w' ⟨rfl, rfl⟩)
    | (go_at_call 66; refine (namesN_any _ _).mono ?_; rintro e w' ⟨rfl, rfl⟩)
    | (go_at_call 40; refine (namesGoto_any _ _).mono ?_; rintro e w' ⟨rfl, rfl⟩)
    | (go_at_call 65; refine (word_any _ _).mono ?_; rintro e w1 ⟨rfl, hb1⟩; obtain ⟨hc1, hf1⟩ := bcell hb1; have HB : Below w.heap.size w w1 := Below.trans (by go_grown) (hb1.mono (by go_size)); have hz1 : w.heap.size < w1.heap.size := (by have := hb1.size; simp at this; omega)))
  go_ret
  exact ⟨ret_str hr.out, HB⟩

set_option maxHeartbeats 2000000 in
set_option maxRecDepth 20000 in
theorem lineOf_11 (to a b n g : Int) (w : World) (hto : fits to) :
    Calls Tryd.prog 39 #[.agg #[.int .i64 11, .int .i64 to, .int .i64 a, .int .i64 b, .int .i64 n, .int .i64 g]] w fun e w' => e = .returned (.string (lineB ⟨11, to, a, b, n, g⟩)) ∧ Below w.heap.size w w' := by
  have t1 : nTo 11 = true := rfl
  have t2 : nA 11 = false := rfl
  have t3 : nB 11 = false := rfl
  have t4 : nN 11 = false := rfl
  have t5 : nG 11 = false := rfl
  have sw : (wordB 11).size = 3 := rfl
  have s1 : (⟨#[32]⟩ : ByteArray).size = 1 := rfl
  have lto := itoaB_size to hto
  have hr : Hid (wordB 11 ++ (⟨#[32]⟩ ++ itoaB to) = lineB ⟨11, to, a, b, n, g⟩) := by show _ = _; rfl
  go_enter Tryd.func39, Tryd.ntmps39
  go_wp2_with (first
    | (go_at_call 38; refine (digitsB_any _ _ ?hf).mono ?_; (case hf => assumption); rintro e w1 ⟨rfl, hb1⟩; obtain ⟨hc1, hf1⟩ := bcell hb1; have HB : Below w.heap.size w w1 := (by first | exact HB.trans (hb1.mono HB.size) | exact Below.trans (by go_grown) (hb1.mono (by go_size))); have hz1 : w.heap.size < w1.heap.size := (by have := hb1.size; (try simp at this); omega))
    | (go_at_call 57; refine (namesTo_any _ _).mono ?_; rintro e w' ⟨rfl, rfl⟩)
    | (go_at_call 51; refine (namesA_any _ _).mono ?_; rintro e w' ⟨rfl, rfl⟩)
    | (go_at_call 52; refine (namesB_any _ _).mono ?_; rintro e w' ⟨rfl, rfl⟩)
    | (go_at_call 66; refine (namesN_any _ _).mono ?_; rintro e w' ⟨rfl, rfl⟩)
    | (go_at_call 40; refine (namesGoto_any _ _).mono ?_; rintro e w' ⟨rfl, rfl⟩)
    | (go_at_call 65; refine (word_any _ _).mono ?_; rintro e w1 ⟨rfl, hb1⟩; obtain ⟨hc1, hf1⟩ := bcell hb1; have HB : Below w.heap.size w w1 := Below.trans (by go_grown) (hb1.mono (by go_size)); have hz1 : w.heap.size < w1.heap.size := (by have := hb1.size; simp at this; omega)))
  go_ret
  exact ⟨ret_str hr.out, HB⟩

set_option maxHeartbeats 2000000 in
set_option maxRecDepth 20000 in
theorem lineOf_12 (to a b n g : Int) (w : World) (hto : fits to) (ha : fits a) (hn : fits n) :
    Calls Tryd.prog 39 #[.agg #[.int .i64 12, .int .i64 to, .int .i64 a, .int .i64 b, .int .i64 n, .int .i64 g]] w fun e w' => e = .returned (.string (lineB ⟨12, to, a, b, n, g⟩)) ∧ Below w.heap.size w w' := by
  have t1 : nTo 12 = true := rfl
  have t2 : nA 12 = true := rfl
  have t3 : nB 12 = false := rfl
  have t4 : nN 12 = true := rfl
  have t5 : nG 12 = false := rfl
  have sw : (wordB 12).size = 3 := rfl
  have s1 : (⟨#[32]⟩ : ByteArray).size = 1 := rfl
  have lto := itoaB_size to hto
  have la := itoaB_size a ha
  have ln := itoaB_size n hn
  have hr : Hid (wordB 12 ++ (⟨#[32]⟩ ++ itoaB to) ++ (⟨#[32]⟩ ++ itoaB a) ++ (⟨#[32]⟩ ++ itoaB n) = lineB ⟨12, to, a, b, n, g⟩) := by show _ = _; rfl
  go_enter Tryd.func39, Tryd.ntmps39
  go_wp2_with (first
    | (go_at_call 38; refine (digitsB_any _ _ ?hf).mono ?_; (case hf => assumption); rintro e w1 ⟨rfl, hb1⟩; obtain ⟨hc1, hf1⟩ := bcell hb1; have HB : Below w.heap.size w w1 := (by first | exact HB.trans (hb1.mono HB.size) | exact Below.trans (by go_grown) (hb1.mono (by go_size))); have hz1 : w.heap.size < w1.heap.size := (by have := hb1.size; (try simp at this); omega))
    | (go_at_call 57; refine (namesTo_any _ _).mono ?_; rintro e w' ⟨rfl, rfl⟩)
    | (go_at_call 51; refine (namesA_any _ _).mono ?_; rintro e w' ⟨rfl, rfl⟩)
    | (go_at_call 52; refine (namesB_any _ _).mono ?_; rintro e w' ⟨rfl, rfl⟩)
    | (go_at_call 66; refine (namesN_any _ _).mono ?_; rintro e w' ⟨rfl, rfl⟩)
    | (go_at_call 40; refine (namesGoto_any _ _).mono ?_; rintro e w' ⟨rfl, rfl⟩)
    | (go_at_call 65; refine (word_any _ _).mono ?_; rintro e w1 ⟨rfl, hb1⟩; obtain ⟨hc1, hf1⟩ := bcell hb1; have HB : Below w.heap.size w w1 := Below.trans (by go_grown) (hb1.mono (by go_size)); have hz1 : w.heap.size < w1.heap.size := (by have := hb1.size; simp at this; omega)))
  go_ret
  exact ⟨ret_str hr.out, HB⟩

set_option maxHeartbeats 2000000 in
set_option maxRecDepth 20000 in
theorem lineOf_13 (to a b n g : Int) (w : World) (ha : fits a) (hb : fits b) (hn : fits n) :
    Calls Tryd.prog 39 #[.agg #[.int .i64 13, .int .i64 to, .int .i64 a, .int .i64 b, .int .i64 n, .int .i64 g]] w fun e w' => e = .returned (.string (lineB ⟨13, to, a, b, n, g⟩)) ∧ Below w.heap.size w w' := by
  have t1 : nTo 13 = false := rfl
  have t2 : nA 13 = true := rfl
  have t3 : nB 13 = true := rfl
  have t4 : nN 13 = true := rfl
  have t5 : nG 13 = false := rfl
  have sw : (wordB 13).size = 3 := rfl
  have s1 : (⟨#[32]⟩ : ByteArray).size = 1 := rfl
  have la := itoaB_size a ha
  have lb := itoaB_size b hb
  have ln := itoaB_size n hn
  have hr : Hid (wordB 13 ++ ⟨#[32]⟩ ++ itoaB a ++ ⟨#[32]⟩ ++ itoaB n ++ ⟨#[32]⟩ ++ itoaB b = lineB ⟨13, to, a, b, n, g⟩) := by show _ = _; simp only [lineB, argsOf, List.foldl, ByteArray.append_assoc]
  have p1 : ¬ 9223372036854775807 < 3 + 1 + (itoaB a).size := by omega
  have p2 : ¬ 9223372036854775807 < 3 + 1 + (itoaB a).size + 1 := by omega
  have p3 : ¬ 9223372036854775807 < 3 + 1 + (itoaB a).size + 1 + (itoaB n).size := by omega
  have p4 : ¬ 9223372036854775807 < 3 + 1 + (itoaB a).size + 1 + (itoaB n).size + 1 := by omega
  have p5 : ¬ 9223372036854775807 < 3 + 1 + (itoaB a).size + 1 + (itoaB n).size + 1 + (itoaB b).size := by omega
  have hbox : Below w.heap.size w (w.alloc (.cells #[.int .i64 13, .int .i64 to, .int .i64 a, .int .i64 b, .int .i64 n, .int .i64 g] 71)) := by go_grown
  go_enter Tryd.func39, Tryd.ntmps39
  go_wp2_with (first
    | (go_at_call 38; refine (digitsB_any _ _ ?hf).mono ?_; (case hf => assumption); rintro e w1 ⟨rfl, hb1⟩; obtain ⟨hc1, hf1⟩ := bcell hb1; have HB : Below w.heap.size w w1 := (by first | exact HB.trans (hb1.mono HB.size) | exact Below.trans (by go_grown) (hb1.mono (by go_size))); have hz1 : w.heap.size < w1.heap.size := (by have := hb1.size; (try simp at this); omega))
    | (go_at_call 57; refine (namesTo_any _ _).mono ?_; rintro e w' ⟨rfl, rfl⟩)
    | (go_at_call 51; refine (namesA_any _ _).mono ?_; rintro e w' ⟨rfl, rfl⟩)
    | (go_at_call 52; refine (namesB_any _ _).mono ?_; rintro e w' ⟨rfl, rfl⟩)
    | (go_at_call 66; refine (namesN_any _ _).mono ?_; rintro e w' ⟨rfl, rfl⟩)
    | (go_at_call 40; refine (namesGoto_any _ _).mono ?_; rintro e w' ⟨rfl, rfl⟩)
    | (go_at_call 65; refine (word_any _ _).mono ?_; rintro e w1 ⟨rfl, hb1⟩; obtain ⟨hc1, hf1⟩ := bcell hb1; have HB : Below w.heap.size w w1 := Below.trans (by go_grown) (hb1.mono (by go_size)); have hz1 : w.heap.size < w1.heap.size := (by have := hb1.size; simp at this; omega)))
  have c2 : w1.cell? ⟨w.heap.size, 2, none⟩ = some (.int .i64 a) := by rw [hb1.cell (by simp)]; simp [go_sem]
  have c3 : w1.cell? ⟨w.heap.size, 3, none⟩ = some (.int .i64 b) := by rw [hb1.cell (by simp)]; simp [go_sem]
  have c4 : w1.cell? ⟨w.heap.size, 4, none⟩ = some (.int .i64 n) := by rw [hb1.cell (by simp)]; simp [go_sem]
  clear hc1 hf1
  have g2 := cell_regrown (w := w1) c2
  have g3 := cell_regrown (w := w1) c3
  have g4 := cell_regrown (w := w1) c4
  refine wp_region_quiet_below (by kernel_rfl) (by kernel_rfl) ?_
  repeat (quiet_step (exact Calls.regrown_of (digitsB_any _ _ (by assumption))))
  refine wpQuiet_nil ?_
  intro _ hw'
  obtain ⟨⟨dq, osq⟩, hw''⟩ := hw'
  subst hw''
  go_wp2
  go_ret
  exact ⟨ret_str hr.out, HB.trans ((below_regrown _ dq osq).mono HB.size)⟩
end Go.Proofs.YtmapdpcfanecdaaDoor

namespace Go.Proofs.YtmapdpcfanecdaaDoor
set_option linter.unusedVariables false
set_option linter.unusedSimpArgs false
open Go.RowKit

set_option maxHeartbeats 2000000 in
set_option maxRecDepth 20000 in
theorem lineOf_14 (to a b n g : Int) (w : World) (hto : fits to) (hn : fits n) :
    Calls Tryd.prog 39 #[.agg #[.int .i64 14, .int .i64 to, .int .i64 a, .int .i64 b, .int .i64 n, .int .i64 g]] w fun e w' => e = .returned (.string (lineB ⟨14, to, a, b, n, g⟩)) ∧ Below w.heap.size w w' := by
  have t1 : nTo 14 = true := rfl
  have t2 : nA 14 = false := rfl
  have t3 : nB 14 = false := rfl
  have t4 : nN 14 = true := rfl
  have t5 : nG 14 = false := rfl
  have sw : (wordB 14).size = 5 := rfl
  have s1 : (⟨#[32]⟩ : ByteArray).size = 1 := rfl
  have lto := itoaB_size to hto
  have ln := itoaB_size n hn
  have hr : Hid (wordB 14 ++ (⟨#[32]⟩ ++ itoaB to) ++ (⟨#[32]⟩ ++ itoaB n) = lineB ⟨14, to, a, b, n, g⟩) := by show _ = _; rfl
  go_enter Tryd.func39, Tryd.ntmps39
  go_wp2_with (first
    | (go_at_call 38; refine (digitsB_any _ _ ?hf).mono ?_; (case hf => assumption); rintro e w1 ⟨rfl, hb1⟩; obtain ⟨hc1, hf1⟩ := bcell hb1; have HB : Below w.heap.size w w1 := (by first | exact HB.trans (hb1.mono HB.size) | exact Below.trans (by go_grown) (hb1.mono (by go_size))); have hz1 : w.heap.size < w1.heap.size := (by have := hb1.size; (try simp at this); omega))
    | (go_at_call 57; refine (namesTo_any _ _).mono ?_; rintro e w' ⟨rfl, rfl⟩)
    | (go_at_call 51; refine (namesA_any _ _).mono ?_; rintro e w' ⟨rfl, rfl⟩)
    | (go_at_call 52; refine (namesB_any _ _).mono ?_; rintro e w' ⟨rfl, rfl⟩)
    | (go_at_call 66; refine (namesN_any _ _).mono ?_; rintro e w' ⟨rfl, rfl⟩)
    | (go_at_call 40; refine (namesGoto_any _ _).mono ?_; rintro e w' ⟨rfl, rfl⟩)
    | (go_at_call 65; refine (word_any _ _).mono ?_; rintro e w1 ⟨rfl, hb1⟩; obtain ⟨hc1, hf1⟩ := bcell hb1; have HB : Below w.heap.size w w1 := Below.trans (by go_grown) (hb1.mono (by go_size)); have hz1 : w.heap.size < w1.heap.size := (by have := hb1.size; simp at this; omega)))
  go_ret
  exact ⟨ret_str hr.out, HB⟩

set_option maxHeartbeats 2000000 in
set_option maxRecDepth 20000 in
theorem lineOf_15 (to a b n g : Int) (w : World) (ha : fits a) (hg : fits g) :
    Calls Tryd.prog 39 #[.agg #[.int .i64 15, .int .i64 to, .int .i64 a, .int .i64 b, .int .i64 n, .int .i64 g]] w fun e w' => e = .returned (.string (lineB ⟨15, to, a, b, n, g⟩)) ∧ Below w.heap.size w w' := by
  have t1 : nTo 15 = false := rfl
  have t2 : nA 15 = true := rfl
  have t3 : nB 15 = false := rfl
  have t4 : nN 15 = false := rfl
  have t5 : nG 15 = true := rfl
  have sw : (wordB 15).size = 2 := rfl
  have s1 : (⟨#[32]⟩ : ByteArray).size = 1 := rfl
  have la := itoaB_size a ha
  have lg := itoaB_size g hg
  have hr : Hid (wordB 15 ++ (⟨#[32]⟩ ++ itoaB a) ++ (⟨#[32]⟩ ++ itoaB g) = lineB ⟨15, to, a, b, n, g⟩) := by show _ = _; rfl
  go_enter Tryd.func39, Tryd.ntmps39
  go_wp2_with (first
    | (go_at_call 38; refine (digitsB_any _ _ ?hf).mono ?_; (case hf => assumption); rintro e w1 ⟨rfl, hb1⟩; obtain ⟨hc1, hf1⟩ := bcell hb1; have HB : Below w.heap.size w w1 := (by first | exact HB.trans (hb1.mono HB.size) | exact Below.trans (by go_grown) (hb1.mono (by go_size))); have hz1 : w.heap.size < w1.heap.size := (by have := hb1.size; (try simp at this); omega))
    | (go_at_call 57; refine (namesTo_any _ _).mono ?_; rintro e w' ⟨rfl, rfl⟩)
    | (go_at_call 51; refine (namesA_any _ _).mono ?_; rintro e w' ⟨rfl, rfl⟩)
    | (go_at_call 52; refine (namesB_any _ _).mono ?_; rintro e w' ⟨rfl, rfl⟩)
    | (go_at_call 66; refine (namesN_any _ _).mono ?_; rintro e w' ⟨rfl, rfl⟩)
    | (go_at_call 40; refine (namesGoto_any _ _).mono ?_; rintro e w' ⟨rfl, rfl⟩)
    | (go_at_call 65; refine (word_any _ _).mono ?_; rintro e w1 ⟨rfl, hb1⟩; obtain ⟨hc1, hf1⟩ := bcell hb1; have HB : Below w.heap.size w w1 := Below.trans (by go_grown) (hb1.mono (by go_size)); have hz1 : w.heap.size < w1.heap.size := (by have := hb1.size; simp at this; omega)))
  go_ret
  exact ⟨ret_str hr.out, HB⟩

set_option maxHeartbeats 2000000 in
set_option maxRecDepth 20000 in
theorem lineOf_16 (to a b n g : Int) (w : World) (hg : fits g) :
    Calls Tryd.prog 39 #[.agg #[.int .i64 16, .int .i64 to, .int .i64 a, .int .i64 b, .int .i64 n, .int .i64 g]] w fun e w' => e = .returned (.string (lineB ⟨16, to, a, b, n, g⟩)) ∧ Below w.heap.size w w' := by
  have t1 : nTo 16 = false := rfl
  have t2 : nA 16 = false := rfl
  have t3 : nB 16 = false := rfl
  have t4 : nN 16 = false := rfl
  have t5 : nG 16 = true := rfl
  have sw : (wordB 16).size = 4 := rfl
  have s1 : (⟨#[32]⟩ : ByteArray).size = 1 := rfl
  have lg := itoaB_size g hg
  have hr : Hid (wordB 16 ++ (⟨#[32]⟩ ++ itoaB g) = lineB ⟨16, to, a, b, n, g⟩) := by show _ = _; rfl
  go_enter Tryd.func39, Tryd.ntmps39
  go_wp2_with (first
    | (go_at_call 38; refine (digitsB_any _ _ ?hf).mono ?_; (case hf => assumption); rintro e w1 ⟨rfl, hb1⟩; obtain ⟨hc1, hf1⟩ := bcell hb1; have HB : Below w.heap.size w w1 := (by first | exact HB.trans (hb1.mono HB.size) | exact Below.trans (by go_grown) (hb1.mono (by go_size))); have hz1 : w.heap.size < w1.heap.size := (by have := hb1.size; (try simp at this); omega))
    | (go_at_call 57; refine (namesTo_any _ _).mono ?_; rintro e w' ⟨rfl, rfl⟩)
    | (go_at_call 51; refine (namesA_any _ _).mono ?_; rintro e w' ⟨rfl, rfl⟩)
    | (go_at_call 52; refine (namesB_any _ _).mono ?_; rintro e w' ⟨rfl, rfl⟩)
    | (go_at_call 66; refine (namesN_any _ _).mono ?_; rintro e w' ⟨rfl, rfl⟩)
    | (go_at_call 40; refine (namesGoto_any _ _).mono ?_; rintro e w' ⟨rfl, rfl⟩)
    | (go_at_call 65; refine (word_any _ _).mono ?_; rintro e w1 ⟨rfl, hb1⟩; obtain ⟨hc1, hf1⟩ := bcell hb1; have HB : Below w.heap.size w w1 := Below.trans (by go_grown) (hb1.mono (by go_size)); have hz1 : w.heap.size < w1.heap.size := (by have := hb1.size; simp at this; omega)))
  go_ret
  exact ⟨ret_str hr.out, HB⟩

set_option maxHeartbeats 2000000 in
set_option maxRecDepth 20000 in
theorem lineOf_17 (to a b n g : Int) (w : World) (ha : fits a) :
    Calls Tryd.prog 39 #[.agg #[.int .i64 17, .int .i64 to, .int .i64 a, .int .i64 b, .int .i64 n, .int .i64 g]] w fun e w' => e = .returned (.string (lineB ⟨17, to, a, b, n, g⟩)) ∧ Below w.heap.size w w' := by
  have t1 : nTo 17 = false := rfl
  have t2 : nA 17 = true := rfl
  have t3 : nB 17 = false := rfl
  have t4 : nN 17 = false := rfl
  have t5 : nG 17 = false := rfl
  have sw : (wordB 17).size = 6 := rfl
  have s1 : (⟨#[32]⟩ : ByteArray).size = 1 := rfl
  have la := itoaB_size a ha
  have hr : Hid (wordB 17 ++ (⟨#[32]⟩ ++ itoaB a) = lineB ⟨17, to, a, b, n, g⟩) := by show _ = _; rfl
  go_enter Tryd.func39, Tryd.ntmps39
  go_wp2_with (first
    | (go_at_call 38; refine (digitsB_any _ _ ?hf).mono ?_; (case hf => assumption); rintro e w1 ⟨rfl, hb1⟩; obtain ⟨hc1, hf1⟩ := bcell hb1; have HB : Below w.heap.size w w1 := (by first | exact HB.trans (hb1.mono HB.size) | exact Below.trans (by go_grown) (hb1.mono (by go_size))); have hz1 : w.heap.size < w1.heap.size := (by have := hb1.size; (try simp at this); omega))
    | (go_at_call 57; refine (namesTo_any _ _).mono ?_; rintro e w' ⟨rfl, rfl⟩)
    | (go_at_call 51; refine (namesA_any _ _).mono ?_; rintro e w' ⟨rfl, rfl⟩)
    | (go_at_call 52; refine (namesB_any _ _).mono ?_; rintro e w' ⟨rfl, rfl⟩)
    | (go_at_call 66; refine (namesN_any _ _).mono ?_; rintro e w' ⟨rfl, rfl⟩)
    | (go_at_call 40; refine (namesGoto_any _ _).mono ?_; rintro e w' ⟨rfl, rfl⟩)
    | (go_at_call 65; refine (word_any _ _).mono ?_; rintro e w1 ⟨rfl, hb1⟩; obtain ⟨hc1, hf1⟩ := bcell hb1; have HB : Below w.heap.size w w1 := Below.trans (by go_grown) (hb1.mono (by go_size)); have hz1 : w.heap.size < w1.heap.size := (by have := hb1.size; simp at this; omega)))
  go_ret
  exact ⟨ret_str hr.out, HB⟩

set_option maxHeartbeats 2000000 in
set_option maxRecDepth 20000 in
theorem lineOf_18 (to a b n g : Int) (w : World) (ha : fits a) :
    Calls Tryd.prog 39 #[.agg #[.int .i64 18, .int .i64 to, .int .i64 a, .int .i64 b, .int .i64 n, .int .i64 g]] w fun e w' => e = .returned (.string (lineB ⟨18, to, a, b, n, g⟩)) ∧ Below w.heap.size w w' := by
  have t1 : nTo 18 = false := rfl
  have t2 : nA 18 = true := rfl
  have t3 : nB 18 = false := rfl
  have t4 : nN 18 = false := rfl
  have t5 : nG 18 = false := rfl
  have sw : (wordB 18).size = 5 := rfl
  have s1 : (⟨#[32]⟩ : ByteArray).size = 1 := rfl
  have la := itoaB_size a ha
  have hr : Hid (wordB 18 ++ (⟨#[32]⟩ ++ itoaB a) = lineB ⟨18, to, a, b, n, g⟩) := by show _ = _; rfl
  go_enter Tryd.func39, Tryd.ntmps39
  go_wp2_with (first
    | (go_at_call 38; refine (digitsB_any _ _ ?hf).mono ?_; (case hf => assumption); rintro e w1 ⟨rfl, hb1⟩; obtain ⟨hc1, hf1⟩ := bcell hb1; have HB : Below w.heap.size w w1 := (by first | exact HB.trans (hb1.mono HB.size) | exact Below.trans (by go_grown) (hb1.mono (by go_size))); have hz1 : w.heap.size < w1.heap.size := (by have := hb1.size; (try simp at this); omega))
    | (go_at_call 57; refine (namesTo_any _ _).mono ?_; rintro e w' ⟨rfl, rfl⟩)
    | (go_at_call 51; refine (namesA_any _ _).mono ?_; rintro e w' ⟨rfl, rfl⟩)
    | (go_at_call 52; refine (namesB_any _ _).mono ?_; rintro e w' ⟨rfl, rfl⟩)
    | (go_at_call 66; refine (namesN_any _ _).mono ?_; rintro e w' ⟨rfl, rfl⟩)
    | (go_at_call 40; refine (namesGoto_any _ _).mono ?_; rintro e w' ⟨rfl, rfl⟩)
    | (go_at_call 65; refine (word_any _ _).mono ?_; rintro e w1 ⟨rfl, hb1⟩; obtain ⟨hc1, hf1⟩ := bcell hb1; have HB : Below w.heap.size w w1 := Below.trans (by go_grown) (hb1.mono (by go_size)); have hz1 : w.heap.size < w1.heap.size := (by have := hb1.size; simp at this; omega)))
  go_ret
  exact ⟨ret_str hr.out, HB⟩
end Go.Proofs.YtmapdpcfanecdaaDoor

namespace Go.Proofs.YtmapdpcfanecdaaDoor
set_option linter.unusedVariables false
set_option linter.unusedSimpArgs false
open Go.RowKit

structure Ins.Fits (i : Ins) : Prop where
  to : fits i.to
  a : fits i.a
  b : fits i.b
  n : fits i.n
  g : fits i.g

theorem lineOf_any (i : Ins) (w : World) (h : btw i.k 1 19 = true) (hf : i.Fits) :
    Calls Tryd.prog 39 #[.agg #[.int .i64 i.k, .int .i64 i.to, .int .i64 i.a, .int .i64 i.b, .int .i64 i.n, .int .i64 i.g]] w fun e w' => e = .returned (.string (lineB i)) ∧ Below w.heap.size w w' := by
  obtain ⟨k, to, a, b, n, g⟩ := i
  obtain ⟨hto, ha, hb, hn, hg⟩ := hf
  simp only at h hto ha hb hn hg
  rcases btw_cases h with rfl | rfl | rfl | rfl | rfl | rfl | rfl | rfl | rfl | rfl | rfl | rfl | rfl | rfl | rfl | rfl | rfl | rfl | rfl
  · exact lineOf_1 to a b n g w hto hn
  · exact lineOf_2 to a b n g w hto hn
  · exact lineOf_3 to a b n g w hto
  · exact lineOf_4 to a b n g w hto ha
  · exact lineOf_5 to a b n g w hto ha hb
  · exact lineOf_6 to a b n g w hto ha hb
  · exact lineOf_7 to a b n g w hto ha hb
  · exact lineOf_8 to a b n g w hto ha hb
  · exact lineOf_9 to a b n g w hto ha hb
  · exact lineOf_10 to a b n g w hto ha
  · exact lineOf_11 to a b n g w hto
  · exact lineOf_12 to a b n g w hto ha hn
  · exact lineOf_13 to a b n g w ha hb hn
  · exact lineOf_14 to a b n g w hto hn
  · exact lineOf_15 to a b n g w ha hg
  · exact lineOf_16 to a b n g w hg
  · exact lineOf_17 to a b n g w ha
  · exact lineOf_18 to a b n g w ha
  · exact lineOf_19 to a b n g w

/-- The first line of a text. -/
def headB (V F : Int) : ByteArray := ⟨#[118, 97, 114, 115, 32]⟩ ++ itoaB V ++ ⟨#[32, 102, 105, 101, 108, 100, 115, 32]⟩ ++ itoaB F ++ ⟨#[10]⟩
/-- The text of a program. -/
def textB (V F : Int) (c : List Ins) : ByteArray := c.foldl (fun s i => s ++ (lineB i ++ ⟨#[10]⟩)) (headB V F)

theorem textB_snoc (V F : Int) (c : List Ins) (k : Nat) (h : k < c.length) : textB V F (c.take (k + 1)) = textB V F (c.take k) ++ (lineB c[k] ++ ⟨#[10]⟩) := by
  unfold textB
  rw [List.take_succ_eq_append_getElem h, List.foldl_append]
  rfl

theorem wordB_size (k : Int) : (wordB k).size ≤ 6 := by
  unfold wordB
  split <;> decide

theorem lineB_size (i : Ins) (hf : i.Fits) : (lineB i).size ≤ 72 := by
  have hw := wordB_size i.k
  have s1 : (⟨#[32]⟩ : ByteArray).size = 1 := rfl
  have h1 := itoaB_size _ hf.to
  have h2 := itoaB_size _ hf.a
  have h3 := itoaB_size _ hf.b
  have h4 := itoaB_size _ hf.n
  have h5 := itoaB_size _ hf.g
  unfold lineB argsOf
  split <;> simp only [List.foldl, ByteArray.size_append, s1] <;> omega

theorem headB_size (V F : Int) (h1 : fits V) (h2 : fits F) : (headB V F).size ≤ 56 := by
  have h1 := itoaB_size _ h1
  have h2 := itoaB_size _ h2
  have s1 : (⟨#[118, 97, 114, 115, 32]⟩ : ByteArray).size = 5 := rfl
  have s2 : (⟨#[32, 102, 105, 101, 108, 100, 115, 32]⟩ : ByteArray).size = 8 := rfl
  have s3 : (⟨#[10]⟩ : ByteArray).size = 1 := rfl
  simp only [headB, ByteArray.size_append, s1, s2, s3]
  omega

theorem textB_size (V F : Int) (h1 : fits V) (h2 : fits F) (c : List Ins) (hf : ∀ i ∈ c, i.Fits) : (textB V F c).size ≤ 56 + 73 * c.length := by
  have gen : ∀ (c : List Ins) (s : ByteArray), (∀ i ∈ c, i.Fits) → (c.foldl (fun s i => s ++ (lineB i ++ ⟨#[10]⟩)) s).size ≤ s.size + 73 * c.length := by
    intro c
    induction c with
    | nil => intro s _; simp
    | cons i r ih =>
      intro s hf
      have := ih (s ++ (lineB i ++ ⟨#[10]⟩)) (fun j hj => hf j (by simp [hj]))
      have hl := lineB_size i (hf i (by simp))
      have s3 : (⟨#[10]⟩ : ByteArray).size = 1 := rfl
      simp only [List.foldl, ByteArray.size_append, s3, List.length_cons] at this ⊢
      omega
  have := gen c (headB V F) hf
  have := headB_size V F h1 h2
  unfold textB
  omega

set_option maxHeartbeats 1000000 in
set_option maxRecDepth 10000 in
theorem printOf_loop (V F : Int) (b off cap : Nat) (c : List Ins) (w : World) (h1 : fits V) (h2 : fits F) (hL : c.length ≤ 60) (hf : ∀ i ∈ c, i.Fits) (hk : ∀ i ∈ c, btw i.k 1 19 = true) (hb : b < w.heap.size) (hc : ∀ k (h : k < c.length), InsAt w b (off + k * 6) c[k]) :
    Calls Tryd.prog 11 #[.agg #[.int .i64 V, .int .i64 F, .slice (some ⟨b, off, none⟩) c.length cap]] w fun e w' => e = .returned (.string (textB V F c)) ∧ Below w.heap.size w w' := by
  have hbox : Below w.heap.size w (w.alloc (.cells #[.int .i64 V, .int .i64 F, .slice (some ⟨b, off, none⟩) c.length cap] 24)) := by go_grown
  have g0 := cell_regrown (w := w.alloc (.cells #[.int .i64 V, .int .i64 F, .slice (some ⟨b, off, none⟩) c.length cap] 24)) (a := ⟨w.heap.size, 0, none⟩) (v := .int .i64 V) (by simp [go_sem])
  have g1 := cell_regrown (w := w.alloc (.cells #[.int .i64 V, .int .i64 F, .slice (some ⟨b, off, none⟩) c.length cap] 24)) (a := ⟨w.heap.size, 1, none⟩) (v := .int .i64 F) (by simp [go_sem])
  have l1 := itoaB_size _ h1
  have l2 := itoaB_size _ h2
  have p1 : ¬ 9223372036854775807 < 5 + (itoaB V).size := by omega
  have p2 : ¬ 9223372036854775807 < 5 + (itoaB V).size + 8 := by omega
  have p3 : ¬ 9223372036854775807 < 5 + (itoaB V).size + 8 + (itoaB F).size := by omega
  have p4 : ¬ 9223372036854775807 < 5 + (itoaB V).size + 8 + (itoaB F).size + 1 := by omega
  go_enter Tryd.func11, Tryd.ntmps11
  go_wp2
  refine wp_region_quiet_below (by kernel_rfl) (by kernel_rfl) ?_
  repeat (quiet_step (exact Calls.regrown_of (digitsB_any _ _ (by assumption))))
  refine wpQuiet_nil ?_
  intro wq hw'
  obtain ⟨⟨dq, osq⟩, hw''⟩ := hw'
  have hbq := below_regrown (w.alloc (.cells #[.int .i64 V, .int .i64 F, .slice (some ⟨b, off, none⟩) c.length cap] 24)) dq osq
  rw [← hw''] at hbq
  clear hw'' g0 g1
  have hbq' : Below (w.heap.size + 1) (w.alloc (.cells #[.int .i64 V, .int .i64 F, .slice (some ⟨b, off, none⟩) c.length cap] 24)) wq := hbq.mono (by simp)
  go_wp2
  go_loopw [3, 4] (fun s i wr => ∃ k : Nat, k ≤ c.length ∧ i = .int .i64 k ∧ s = .string (textB V F (c.take k)) ∧ Below (w.heap.size + 1) (w.alloc (.cells #[.int .i64 V, .int .i64 F, .slice (some ⟨b, off, none⟩) c.length cap] 24)) wr) (fun _ i _ => c.length - (intOf i).toNat)
  case atStart => exact ⟨0, Nat.zero_le _, rfl, rfl, hbq'⟩
  case round =>
    obtain ⟨k, hk', rfl, rfl, hbr⟩ := hrel
    have q2 : wr.cell? ⟨w.heap.size, 2, none⟩ = some (.slice (some ⟨b, off, none⟩) c.length cap) := by rw [hbr.cell (by simp)]; simp [go_sem]
    have s1 : w.heap.size < wr.heap.size := by have := hbr.size; simp at this; omega
    by_cases hlt : k < c.length
    · have hi : InsAt wr b (off + k * 6) c[k] := ((hc k hlt).below (Below.alloc (Below.refl w.heap.size w) (Nat.le_refl _) _) hb).below hbr (by omega)
      obtain ⟨i0, i1, i2, i3, i4, i5⟩ := hi
      have n0 : (0 : Int) ≤ (k : Int) := by omega
      have n1 : (k : Int) < (c.length : Int) := by omega
      have hs := lineB_size c[k] (hf _ (List.getElem_mem _))
      have ht := textB_size V F h1 h2 (c.take k) (fun i hi => hf i (List.mem_of_mem_take hi))
      have hl : (c.take k).length = k := by simp; omega
      rw [hl] at ht
      have u1 : ¬ 9223372036854775807 < (lineB c[k]).size + 1 := by omega
      have u2 : ¬ 9223372036854775807 < (textB V F (c.take k)).size + ((lineB c[k]).size + 1) := by omega
      have HT : Hid (textB V F (c.take (k + 1)) = textB V F (c.take k) ++ (lineB c[k] ++ ⟨#[10]⟩)) := textB_snoc V F c k hlt
      clear hl ht
      go_wp2_with (go_at_call 39; refine (lineOf_any c[k] _ (hk _ (List.getElem_mem _)) (hf _ (List.getElem_mem _))).mono ?_; rintro e w1 ⟨rfl, hb1⟩)
      go_roundw
      case rel => exact ⟨k + 1, by omega, by go_num, by rw [HT.out], hbr.trans (hb1.mono (by omega))⟩
      case measure => simp [intOf]; omega
    · go_wp2
      go_ret
      exact ⟨ret_str (by rw [List.take_of_length_le (by omega)]), hbox.trans (hbr.mono (by omega))⟩

set_option maxHeartbeats 1000000 in
set_option maxRecDepth 10000 in
theorem printOf_nil (V F : Int) (s : Option Addr) (cap : Nat) (w : World) (h1 : fits V) (h2 : fits F) :
    Calls Tryd.prog 11 #[.agg #[.int .i64 V, .int .i64 F, .slice s 0 cap]] w fun e w' => e = .returned (.string (textB V F [])) ∧ Below w.heap.size w w' := by
  have hbox : Below w.heap.size w (w.alloc (.cells #[.int .i64 V, .int .i64 F, .slice s 0 cap] 24)) := by go_grown
  have g0 := cell_regrown (w := w.alloc (.cells #[.int .i64 V, .int .i64 F, .slice s 0 cap] 24)) (a := ⟨w.heap.size, 0, none⟩) (v := .int .i64 V) (by simp [go_sem])
  have g1 := cell_regrown (w := w.alloc (.cells #[.int .i64 V, .int .i64 F, .slice s 0 cap] 24)) (a := ⟨w.heap.size, 1, none⟩) (v := .int .i64 F) (by simp [go_sem])
  have l1 := itoaB_size _ h1
  have l2 := itoaB_size _ h2
  have p1 : ¬ 9223372036854775807 < 5 + (itoaB V).size := by omega
  have p2 : ¬ 9223372036854775807 < 5 + (itoaB V).size + 8 := by omega
  have p3 : ¬ 9223372036854775807 < 5 + (itoaB V).size + 8 + (itoaB F).size := by omega
  have p4 : ¬ 9223372036854775807 < 5 + (itoaB V).size + 8 + (itoaB F).size + 1 := by omega
  go_enter Tryd.func11, Tryd.ntmps11
  go_wp2
  refine wp_region_quiet_below (by kernel_rfl) (by kernel_rfl) ?_
  repeat (quiet_step (exact Calls.regrown_of (digitsB_any _ _ (by assumption))))
  refine wpQuiet_nil ?_
  intro wq hw'
  obtain ⟨⟨dq, osq⟩, hw''⟩ := hw'
  have hbq := below_regrown (w.alloc (.cells #[.int .i64 V, .int .i64 F, .slice s 0 cap] 24)) dq osq
  rw [← hw''] at hbq
  have q2 : wq.cell? ⟨w.heap.size, 2, none⟩ = some (.slice s 0 cap) := by rw [hbq.cell (by simp)]; simp [go_sem]
  clear hw'' g0 g1
  go_wp2
  go_rounds 1
  go_ret
  exact ⟨rfl, hbox.trans (hbq.mono (by simp))⟩

/-- The document's text of a program that is right. -/
theorem printOf_any (V F : Int) (s : Option Addr) (cap : Nat) (c : List Ins) (w : World) (h1 : fits V) (h2 : fits F) (hL : c.length ≤ 60) (hf : ∀ i ∈ c, i.Fits) (hk : ∀ i ∈ c, btw i.k 1 19 = true) (h : CodeAt w s c) :
    Calls Tryd.prog 11 #[.agg #[.int .i64 V, .int .i64 F, .slice s c.length cap]] w fun e w' => e = .returned (.string (textB V F c)) ∧ Below w.heap.size w w' := by
  rcases h with rfl | ⟨b, off, rfl, hb, hc⟩
  · exact printOf_nil V F s cap w h1 h2
  · exact printOf_loop V F b off cap c w h1 h2 hL hf hk hb hc
end Go.Proofs.YtmapdpcfanecdaaDoor
