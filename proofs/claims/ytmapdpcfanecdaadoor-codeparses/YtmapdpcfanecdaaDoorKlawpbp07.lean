/- Walks over the document's own answers: the line of an instruction, kind by kind. -/
import Derived.Test.YtmapdpcfanecdaaDoorKlawpbp04
namespace Go.Proofs.YtmapdpcfanecdaaDoor
set_option linter.unusedVariables false
set_option linter.unusedSimpArgs false
open Go.RowKit

set_option maxHeartbeats 2000000 in
set_option maxRecDepth 20000 in
theorem lineOf_10 (to a b n g : Int) (w : World) (hto : fits to) (ha : fits a) :
    Calls Tryd.prog 39 #[.agg #[.int .i64 10, .int .i64 to, .int .i64 a, .int .i64 b, .int .i64 n, .int .i64 g]] w fun e w' => e = .returned (.string (lineB ⟨10, to, a, b, n, g⟩)) ∧ Below w.heap.size w w' := by
  have t1 : nTo 10 = true := rfl
  have t2 : nA 10 = true := rfl
  have t3 : nB 10 = false := rfl
  have t4 : nN 10 = false := rfl
  have t5 : nG 10 = false := rfl
  have sw : (wordB 10).size = 3 := rfl
  have s1 : (⟨#[32]⟩ : ByteArray).size = 1 := rfl
  have lto := itoaB_size to hto
  have la := itoaB_size a ha
  have hr : Hid (wordB 10 ++ (⟨#[32]⟩ ++ itoaB to) ++ (⟨#[32]⟩ ++ itoaB a) = lineB ⟨10, to, a, b, n, g⟩) := by show _ = _; rfl
  go_enter Tryd.func39, Tryd.ntmps39
  go_wp2_with (first
    | (go_at_call 38; refine (digitsB_any _ _ ?hf).mono ?_; (case hf => assumption); rintro e w1 ⟨rfl, hb1⟩; obtain ⟨hc1, hf1⟩ := bcell hb1; have HB : Below w.heap.size w w1 := (by first | exact HB.trans (hb1.mono HB.size) | exact Below.trans (by go_grown) (hb1.mono (by go_size))); have hz1 : w.heap.size < w1.heap.size := (by have := hb1.size; (try simp at this); omega))
    | (go_at_call 57; refine (namesTo_any _ _).mono ?_; rintro e w' ⟨rfl, rfl⟩)
    | (go_at_call 51; refine (namesA_any _ _).mono ?_; rintro e w' ⟨rfl, rfl⟩)
    | (go_at_call 52; refine (namesB_any _ _).mono ?_; rintro e w' ⟨rfl, rfl⟩)
    | (go_at_call 66; refine (namesN_any _ _).mono ?_; rintro e w' ⟨rfl, rfl⟩)
    | (go_at_call 40; refine (namesGoto_any _ _).mono ?_; rintro e w' ⟨rfl, rfl⟩)
    | (go_at_call 65; refine (word_any _ _).mono ?_; rintro e w1 ⟨rfl, hb1⟩; obtain ⟨hc1, hf1⟩ := bcell hb1; have HB : Below w.heap.size w w1 := Below.trans (by go_grown) (hb1.mono (by go_size)); have hz1 : w.heap.size < w1.heap.size := (by have := hb1.size; simp at this; omega)))
  go_ret
  exact ⟨ret_str hr.out, HB⟩

set_option maxHeartbeats 2000000 in
set_option maxRecDepth 20000 in
theorem lineOf_11 (to a b n g : Int) (w : World) (hto : fits to) :
    Calls Tryd.prog 39 #[.agg #[.int .i64 11, .int .i64 to, .int .i64 a, .int .i64 b, .int .i64 n, .int .i64 g]] w fun e w' => e = .returned (.string (lineB ⟨11, to, a, b, n, g⟩)) ∧ Below w.heap.size w w' := by
  have t1 : nTo 11 = true := rfl
  have t2 : nA 11 = false := rfl
  have t3 : nB 11 = false := rfl
  have t4 : nN 11 = false := rfl
  have t5 : nG 11 = false := rfl
  have sw : (wordB 11).size = 3 := rfl
  have s1 : (⟨#[32]⟩ : ByteArray).size = 1 := rfl
  have lto := itoaB_size to hto
  have hr : Hid (wordB 11 ++ (⟨#[32]⟩ ++ itoaB to) = lineB ⟨11, to, a, b, n, g⟩) := by show _ = _; rfl
  go_enter Tryd.func39, Tryd.ntmps39
  go_wp2_with (first
    | (go_at_call 38; refine (digitsB_any _ _ ?hf).mono ?_; (case hf => assumption); rintro e w1 ⟨rfl, hb1⟩; obtain ⟨hc1, hf1⟩ := bcell hb1; have HB : Below w.heap.size w w1 := (by first | exact HB.trans (hb1.mono HB.size) | exact Below.trans (by go_grown) (hb1.mono (by go_size))); have hz1 : w.heap.size < w1.heap.size := (by have := hb1.size; (try simp at this); omega))
    | (go_at_call 57; refine (namesTo_any _ _).mono ?_; rintro e w' ⟨rfl, rfl⟩)
    | (go_at_call 51; refine (namesA_any _ _).mono ?_; rintro e w' ⟨rfl, rfl⟩)
    | (go_at_call 52; refine (namesB_any _ _).mono ?_; rintro e w' ⟨rfl, rfl⟩)
    | (go_at_call 66; refine (namesN_any _ _).mono ?_; rintro e w' ⟨rfl, rfl⟩)
    | (go_at_call 40; refine (namesGoto_any _ _).mono ?_; rintro e w' ⟨rfl, rfl⟩)
    | (go_at_call 65; refine (word_any _ _).mono ?_; rintro e w1 ⟨rfl, hb1⟩; obtain ⟨hc1, hf1⟩ := bcell hb1; have HB : Below w.heap.size w w1 := Below.trans (by go_grown) (hb1.mono (by go_size)); have hz1 : w.heap.size < w1.heap.size := (by have := hb1.size; simp at this; omega)))
  go_ret
  exact ⟨ret_str hr.out, HB⟩

set_option maxHeartbeats 2000000 in
set_option maxRecDepth 20000 in
theorem lineOf_12 (to a b n g : Int) (w : World) (hto : fits to) (ha : fits a) (hn : fits n) :
    Calls Tryd.prog 39 #[.agg #[.int .i64 12, .int .i64 to, .int .i64 a, .int .i64 b, .int .i64 n, .int .i64 g]] w fun e w' => e = .returned (.string (lineB ⟨12, to, a, b, n, g⟩)) ∧ Below w.heap.size w w' := by
  have t1 : nTo 12 = true := rfl
  have t2 : nA 12 = true := rfl
  have t3 : nB 12 = false := rfl
  have t4 : nN 12 = true := rfl
  have t5 : nG 12 = false := rfl
  have sw : (wordB 12).size = 3 := rfl
  have s1 : (⟨#[32]⟩ : ByteArray).size = 1 := rfl
  have lto := itoaB_size to hto
  have la := itoaB_size a ha
  have ln := itoaB_size n hn
  have hr : Hid (wordB 12 ++ (⟨#[32]⟩ ++ itoaB to) ++ (⟨#[32]⟩ ++ itoaB a) ++ (⟨#[32]⟩ ++ itoaB n) = lineB ⟨12, to, a, b, n, g⟩) := by show _ = _; rfl
  go_enter Tryd.func39, Tryd.ntmps39
  go_wp2_with (first
    | (go_at_call 38; refine (digitsB_any _ _ ?hf).mono ?_; (case hf => assumption); rintro e w1 ⟨rfl, hb1⟩; obtain ⟨hc1, hf1⟩ := bcell hb1; have HB : Below w.heap.size w w1 := (by first | exact HB.trans (hb1.mono HB.size) | exact Below.trans (by go_grown) (hb1.mono (by go_size))); have hz1 : w.heap.size < w1.heap.size := (by have := hb1.size; (try simp at this); omega))
    | (go_at_call 57; refine (namesTo_any _ _).mono ?_; rintro e w' ⟨rfl, rfl⟩)
    | (go_at_call 51; refine (namesA_any _ _).mono ?_; rintro e w' ⟨rfl, rfl⟩)
    | (go_at_call 52; refine (namesB_any _ _).mono ?_; rintro e w' ⟨rfl, rfl⟩)
    | (go_at_call 66; refine (namesN_any _ _).mono ?_; rintro e w' ⟨rfl, rfl⟩)
    | (go_at_call 40; refine (namesGoto_any _ _).mono ?_; rintro e w' ⟨rfl, rfl⟩)
    | (go_at_call 65; refine (word_any _ _).mono ?_; rintro e w1 ⟨rfl, hb1⟩; obtain ⟨hc1, hf1⟩ := bcell hb1; have HB : Below w.heap.size w w1 := Below.trans (by go_grown) (hb1.mono (by go_size)); have hz1 : w.heap.size < w1.heap.size := (by have := hb1.size; simp at this; omega)))
  go_ret
  exact ⟨ret_str hr.out, HB⟩

set_option maxHeartbeats 2000000 in
set_option maxRecDepth 20000 in
theorem lineOf_13 (to a b n g : Int) (w : World) (ha : fits a) (hb : fits b) (hn : fits n) :
    Calls Tryd.prog 39 #[.agg #[.int .i64 13, .int .i64 to, .int .i64 a, .int .i64 b, .int .i64 n, .int .i64 g]] w fun e w' => e = .returned (.string (lineB ⟨13, to, a, b, n, g⟩)) ∧ Below w.heap.size w w' := by
  have t1 : nTo 13 = false := rfl
  have t2 : nA 13 = true := rfl
  have t3 : nB 13 = true := rfl
  have t4 : nN 13 = true := rfl
  have t5 : nG 13 = false := rfl
  have sw : (wordB 13).size = 3 := rfl
  have s1 : (⟨#[32]⟩ : ByteArray).size = 1 := rfl
  have la := itoaB_size a ha
  have lb := itoaB_size b hb
  have ln := itoaB_size n hn
  have hr : Hid (wordB 13 ++ ⟨#[32]⟩ ++ itoaB a ++ ⟨#[32]⟩ ++ itoaB n ++ ⟨#[32]⟩ ++ itoaB b = lineB ⟨13, to, a, b, n, g⟩) := by show _ = _; simp only [lineB, argsOf, List.foldl, ByteArray.append_assoc]
  have p1 : ¬ 9223372036854775807 < 3 + 1 + (itoaB a).size := by omega
  have p2 : ¬ 9223372036854775807 < 3 + 1 + (itoaB a).size + 1 := by omega
  have p3 : ¬ 9223372036854775807 < 3 + 1 + (itoaB a).size + 1 + (itoaB n).size := by omega
  have p4 : ¬ 9223372036854775807 < 3 + 1 + (itoaB a).size + 1 + (itoaB n).size + 1 := by omega
  have p5 : ¬ 9223372036854775807 < 3 + 1 + (itoaB a).size + 1 + (itoaB n).size + 1 + (itoaB b).size := by omega
  have hbox : Below w.heap.size w (w.alloc (.cells #[.int .i64 13, .int .i64 to, .int .i64 a, .int .i64 b, .int .i64 n, .int .i64 g] 71)) := by go_grown
  go_enter Tryd.func39, Tryd.ntmps39
  go_wp2_with (first
    | (go_at_call 38; refine (digitsB_any _ _ ?hf).mono ?_; (case hf => assumption); rintro e w1 ⟨rfl, hb1⟩; obtain ⟨hc1, hf1⟩ := bcell hb1; have HB : Below w.heap.size w w1 := (by first | exact HB.trans (hb1.mono HB.size) | exact Below.trans (by go_grown) (hb1.mono (by go_size))); have hz1 : w.heap.size < w1.heap.size := (by have := hb1.size; (try simp at this); omega))
    | (go_at_call 57; refine (namesTo_any _ _).mono ?_; rintro e w' ⟨rfl, rfl⟩)
    | (go_at_call 51; refine (namesA_any _ _).mono ?_; rintro e w' ⟨rfl, rfl⟩)
    | (go_at_call 52; refine (namesB_any _ _).mono ?_; rintro e w' ⟨rfl, rfl⟩)
    | (go_at_call 66; refine (namesN_any _ _).mono ?_; rintro e w' ⟨rfl, rfl⟩)
    | (go_at_call 40; refine (namesGoto_any _ _).mono ?_; rintro e w' ⟨rfl, rfl⟩)
    | (go_at_call 65; refine (word_any _ _).mono ?_; rintro e w1 ⟨rfl, hb1⟩; obtain ⟨hc1, hf1⟩ := bcell hb1; have HB : Below w.heap.size w w1 := Below.trans (by go_grown) (hb1.mono (by go_size)); have hz1 : w.heap.size < w1.heap.size := (by have := hb1.size; simp at this; omega)))
  have c2 : w1.cell? ⟨w.heap.size, 2, none⟩ = some (.int .i64 a) := by rw [hb1.cell (by simp)]; simp [go_sem]
  have c3 : w1.cell? ⟨w.heap.size, 3, none⟩ = some (.int .i64 b) := by rw [hb1.cell (by simp)]; simp [go_sem]
  have c4 : w1.cell? ⟨w.heap.size, 4, none⟩ = some (.int .i64 n) := by rw [hb1.cell (by simp)]; simp [go_sem]
  clear hc1 hf1
  have g2 := cell_regrown (w := w1) c2
  have g3 := cell_regrown (w := w1) c3
  have g4 := cell_regrown (w := w1) c4
  refine wp_region_quiet_below (by kernel_rfl) (by kernel_rfl) ?_
  repeat (quiet_step (exact Calls.regrown_of (digitsB_any _ _ (by assumption))))
  refine wpQuiet_nil ?_
  intro _ hw'
  obtain ⟨⟨dq, osq⟩, hw''⟩ := hw'
  subst hw''
  go_wp2
  go_ret
  exact ⟨ret_str hr.out, HB.trans ((below_regrown _ dq osq).mono HB.size)⟩
end Go.Proofs.YtmapdpcfanecdaaDoor
