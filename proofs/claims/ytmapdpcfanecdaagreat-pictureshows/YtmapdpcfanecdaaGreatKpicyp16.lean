/- Walks over package code: the check of an instruction, kind by kind. -/
import Derived.Test.YtmapdpcfanecdaaGreatKpicyp14
namespace Go.Proofs.YtmapdpcfanecdaaGreat
set_option linter.unusedVariables false
set_option linter.unusedSimpArgs false
open Go.RowKit

set_option maxHeartbeats 2000000 in
set_option maxRecDepth 20000 in
theorem checkInstr_5 (V F : Int) (s : Option Addr) (len cap N : Nat) (tto a b n g : Int) (w : World) (hV : 1 ≤ V) (hV' : V ≤ 8) (hF : 0 ≤ F) (hF' : F ≤ 3) (hL : len ≤ 60) (hs : ShpAt N shps w) :
    Calls Tryz.prog 106 #[.agg #[.int .i64 V, .int .i64 F, .slice s len cap], .map (some N), .agg #[.int .i64 5, .int .i64 tto, .int .i64 a, .int .i64 b, .int .i64 n, .int .i64 g]] w fun e w' => e = .returned (.int .i64 (ckOne V F len ⟨5, tto, a, b, n, g⟩)) ∧ Below w.heap.size w w' := by
  have hb0 : Below w.heap.size w ((w.alloc (.cells #[.int .i64 V, .int .i64 F, .slice s len cap] 24)).alloc (.cells #[.int .i64 5, .int .i64 tto, .int .i64 a, .int .i64 b, .int .i64 n, .int .i64 g] 113)) := by go_grown
  have hl : (Instr.lookup 133 (.map (some N)) (.int .i64 5) true).run Tryz.prog _ = .ok (.tuple #[.agg #[.string (wordB 5), .slice (some ⟨N + 5, 0, none⟩) 3 3], .bool true]) _ := look_at (hs.below hb0 (Nat.le_refl _)) 5 4 _ rfl
  have hz : N + 5 < w.heap.size := (part_cell hs 4 0 (by decide) (by decide) (.int .i64 0) rfl).2
  have p0 : w.cell? ⟨N + 5, 0, none⟩ = some (.int .i64 0) := (part_cell hs 4 0 (by decide) (by decide) (.int .i64 0) rfl).1
  have p1 : w.cell? ⟨N + 5, 1, none⟩ = some (.int .i64 1) := (part_cell hs 4 1 (by decide) (by decide) (.int .i64 1) rfl).1
  have p2 : w.cell? ⟨N + 5, 2, none⟩ = some (.int .i64 2) := (part_cell hs 4 2 (by decide) (by decide) (.int .i64 2) rfl).1
  have l0 : lo 0 = 0 := rfl
  have m0 : hi V F len 0 = V - 1 := rfl
  have e0 : er 0 = 5 := rfl
  have l1 : lo 1 = 0 := rfl
  have m1 : hi V F len 1 = V - 1 := rfl
  have e1 : er 1 = 5 := rfl
  have l2 : lo 2 = 0 := rfl
  have m2 : hi V F len 2 = V - 1 := rfl
  have e2 : er 2 = 5 := rfl
  have z1 : N + 5 < w.heap.size + 1 := by omega
  have z2 : N + 5 < w.heap.size + 1 + 1 := by omega
  have z3 : N + 5 < w.heap.size + 1 + 1 + 1 := by omega
  have z4 : N + 5 < w.heap.size + 1 + 1 + 1 + 1 := by omega
  have x3 : ¬ N + 5 = w.heap.size + 1 + 1 + 1 := by omega
  clear hb0 hs
  go_enter Tryz.func106, Tryz.ntmps106
  go_wp2
  refine wp_loop_rounds 4 ?_
  rw [rounds_succ]
  go_wp2_with (first | (go_at_call 133; refine (bounds_any V F _ _ _ _ _ hV hV' hF hF' hL ?hq).mono ?_; (case hq => decide); rintro e w1 ⟨rfl, hb1⟩; obtain ⟨hc1, hf1⟩ := bcell hb1; have hz1 : w.heap.size + 3 < w1.heap.size := (by have := hb1.size; simp at this; omega); have hz2 : w.heap.size < w1.heap.size := (by omega); have hz3 : w.heap.size + 1 < w1.heap.size := (by omega); have hz4 : w.heap.size + 1 + 1 < w1.heap.size := (by omega); have hz5 : w.heap.size + 1 + 1 + 1 < w1.heap.size := (by omega); have hz6 : N + 5 < w1.heap.size := (by omega); have HB : Below w.heap.size w w1 := Below.trans (by go_grown) (hb1.mono (by go_size))) | go_in)
  any_goals (rw [rounds_succ]; go_wp2_with (first | (go_at_call 133; refine (bounds_any V F _ _ _ _ _ hV hV' hF hF' hL ?hq).mono ?_; (case hq => decide); rintro e w1 ⟨rfl, hb1⟩; obtain ⟨hc1, hf1⟩ := bcell hb1; have hz1 : w.heap.size + 3 < w1.heap.size := (by have := hb1.size; simp at this; omega); have hz2 : w.heap.size < w1.heap.size := (by omega); have hz3 : w.heap.size + 1 < w1.heap.size := (by omega); have hz4 : w.heap.size + 1 + 1 < w1.heap.size := (by omega); have hz5 : w.heap.size + 1 + 1 + 1 < w1.heap.size := (by omega); have hz6 : N + 5 < w1.heap.size := (by omega); have HB : Below w.heap.size w w1 := Below.trans (by go_grown) (hb1.mono (by go_size))) | go_in))
  any_goals (rw [rounds_succ]; go_wp2_with (first | (go_at_call 133; refine (bounds_any V F _ _ _ _ _ hV hV' hF hF' hL ?hq).mono ?_; (case hq => decide); rintro e w1 ⟨rfl, hb1⟩; obtain ⟨hc1, hf1⟩ := bcell hb1; have hz1 : w.heap.size + 3 < w1.heap.size := (by have := hb1.size; simp at this; omega); have hz2 : w.heap.size < w1.heap.size := (by omega); have hz3 : w.heap.size + 1 < w1.heap.size := (by omega); have hz4 : w.heap.size + 1 + 1 < w1.heap.size := (by omega); have hz5 : w.heap.size + 1 + 1 + 1 < w1.heap.size := (by omega); have hz6 : N + 5 < w1.heap.size := (by omega); have HB : Below w.heap.size w w1 := Below.trans (by go_grown) (hb1.mono (by go_size))) | go_in))
  any_goals (rw [rounds_succ]; go_wp2_with (first | (go_at_call 133; refine (bounds_any V F _ _ _ _ _ hV hV' hF hF' hL ?hq).mono ?_; (case hq => decide); rintro e w1 ⟨rfl, hb1⟩; obtain ⟨hc1, hf1⟩ := bcell hb1; have hz1 : w.heap.size + 3 < w1.heap.size := (by have := hb1.size; simp at this; omega); have hz2 : w.heap.size < w1.heap.size := (by omega); have hz3 : w.heap.size + 1 < w1.heap.size := (by omega); have hz4 : w.heap.size + 1 + 1 < w1.heap.size := (by omega); have hz5 : w.heap.size + 1 + 1 + 1 < w1.heap.size := (by omega); have hz6 : N + 5 < w1.heap.size := (by omega); have HB : Below w.heap.size w w1 := Below.trans (by go_grown) (hb1.mono (by go_size))) | go_in))
  all_goals go_ret
  all_goals refine ⟨ret_int ?_, by go_grown⟩
  all_goals clear hl p0 p1 p2
  all_goals simp [ckOne, nTo, nA, nB, nN, nG, btw]
  all_goals omega

set_option maxHeartbeats 2000000 in
set_option maxRecDepth 20000 in
theorem checkInstr_6 (V F : Int) (s : Option Addr) (len cap N : Nat) (tto a b n g : Int) (w : World) (hV : 1 ≤ V) (hV' : V ≤ 8) (hF : 0 ≤ F) (hF' : F ≤ 3) (hL : len ≤ 60) (hs : ShpAt N shps w) :
    Calls Tryz.prog 106 #[.agg #[.int .i64 V, .int .i64 F, .slice s len cap], .map (some N), .agg #[.int .i64 6, .int .i64 tto, .int .i64 a, .int .i64 b, .int .i64 n, .int .i64 g]] w fun e w' => e = .returned (.int .i64 (ckOne V F len ⟨6, tto, a, b, n, g⟩)) ∧ Below w.heap.size w w' := by
  have hb0 : Below w.heap.size w ((w.alloc (.cells #[.int .i64 V, .int .i64 F, .slice s len cap] 24)).alloc (.cells #[.int .i64 6, .int .i64 tto, .int .i64 a, .int .i64 b, .int .i64 n, .int .i64 g] 113)) := by go_grown
  have hl : (Instr.lookup 133 (.map (some N)) (.int .i64 6) true).run Tryz.prog _ = .ok (.tuple #[.agg #[.string (wordB 6), .slice (some ⟨N + 6, 0, none⟩) 3 3], .bool true]) _ := look_at (hs.below hb0 (Nat.le_refl _)) 6 5 _ rfl
  have hz : N + 6 < w.heap.size := (part_cell hs 5 0 (by decide) (by decide) (.int .i64 0) rfl).2
  have p0 : w.cell? ⟨N + 6, 0, none⟩ = some (.int .i64 0) := (part_cell hs 5 0 (by decide) (by decide) (.int .i64 0) rfl).1
  have p1 : w.cell? ⟨N + 6, 1, none⟩ = some (.int .i64 1) := (part_cell hs 5 1 (by decide) (by decide) (.int .i64 1) rfl).1
  have p2 : w.cell? ⟨N + 6, 2, none⟩ = some (.int .i64 2) := (part_cell hs 5 2 (by decide) (by decide) (.int .i64 2) rfl).1
  have l0 : lo 0 = 0 := rfl
  have m0 : hi V F len 0 = V - 1 := rfl
  have e0 : er 0 = 5 := rfl
  have l1 : lo 1 = 0 := rfl
  have m1 : hi V F len 1 = V - 1 := rfl
  have e1 : er 1 = 5 := rfl
  have l2 : lo 2 = 0 := rfl
  have m2 : hi V F len 2 = V - 1 := rfl
  have e2 : er 2 = 5 := rfl
  have z1 : N + 6 < w.heap.size + 1 := by omega
  have z2 : N + 6 < w.heap.size + 1 + 1 := by omega
  have z3 : N + 6 < w.heap.size + 1 + 1 + 1 := by omega
  have z4 : N + 6 < w.heap.size + 1 + 1 + 1 + 1 := by omega
  have x3 : ¬ N + 6 = w.heap.size + 1 + 1 + 1 := by omega
  clear hb0 hs
  go_enter Tryz.func106, Tryz.ntmps106
  go_wp2
  refine wp_loop_rounds 4 ?_
  rw [rounds_succ]
  go_wp2_with (first | (go_at_call 133; refine (bounds_any V F _ _ _ _ _ hV hV' hF hF' hL ?hq).mono ?_; (case hq => decide); rintro e w1 ⟨rfl, hb1⟩; obtain ⟨hc1, hf1⟩ := bcell hb1; have hz1 : w.heap.size + 3 < w1.heap.size := (by have := hb1.size; simp at this; omega); have hz2 : w.heap.size < w1.heap.size := (by omega); have hz3 : w.heap.size + 1 < w1.heap.size := (by omega); have hz4 : w.heap.size + 1 + 1 < w1.heap.size := (by omega); have hz5 : w.heap.size + 1 + 1 + 1 < w1.heap.size := (by omega); have hz6 : N + 6 < w1.heap.size := (by omega); have HB : Below w.heap.size w w1 := Below.trans (by go_grown) (hb1.mono (by go_size))) | go_in)
  any_goals (rw [rounds_succ]; go_wp2_with (first | (go_at_call 133; refine (bounds_any V F _ _ _ _ _ hV hV' hF hF' hL ?hq).mono ?_; (case hq => decide); rintro e w1 ⟨rfl, hb1⟩; obtain ⟨hc1, hf1⟩ := bcell hb1; have hz1 : w.heap.size + 3 < w1.heap.size := (by have := hb1.size; simp at this; omega); have hz2 : w.heap.size < w1.heap.size := (by omega); have hz3 : w.heap.size + 1 < w1.heap.size := (by omega); have hz4 : w.heap.size + 1 + 1 < w1.heap.size := (by omega); have hz5 : w.heap.size + 1 + 1 + 1 < w1.heap.size := (by omega); have hz6 : N + 6 < w1.heap.size := (by omega); have HB : Below w.heap.size w w1 := Below.trans (by go_grown) (hb1.mono (by go_size))) | go_in))
  any_goals (rw [rounds_succ]; go_wp2_with (first | (go_at_call 133; refine (bounds_any V F _ _ _ _ _ hV hV' hF hF' hL ?hq).mono ?_; (case hq => decide); rintro e w1 ⟨rfl, hb1⟩; obtain ⟨hc1, hf1⟩ := bcell hb1; have hz1 : w.heap.size + 3 < w1.heap.size := (by have := hb1.size; simp at this; omega); have hz2 : w.heap.size < w1.heap.size := (by omega); have hz3 : w.heap.size + 1 < w1.heap.size := (by omega); have hz4 : w.heap.size + 1 + 1 < w1.heap.size := (by omega); have hz5 : w.heap.size + 1 + 1 + 1 < w1.heap.size := (by omega); have hz6 : N + 6 < w1.heap.size := (by omega); have HB : Below w.heap.size w w1 := Below.trans (by go_grown) (hb1.mono (by go_size))) | go_in))
  any_goals (rw [rounds_succ]; go_wp2_with (first | (go_at_call 133; refine (bounds_any V F _ _ _ _ _ hV hV' hF hF' hL ?hq).mono ?_; (case hq => decide); rintro e w1 ⟨rfl, hb1⟩; obtain ⟨hc1, hf1⟩ := bcell hb1; have hz1 : w.heap.size + 3 < w1.heap.size := (by have := hb1.size; simp at this; omega); have hz2 : w.heap.size < w1.heap.size := (by omega); have hz3 : w.heap.size + 1 < w1.heap.size := (by omega); have hz4 : w.heap.size + 1 + 1 < w1.heap.size := (by omega); have hz5 : w.heap.size + 1 + 1 + 1 < w1.heap.size := (by omega); have hz6 : N + 6 < w1.heap.size := (by omega); have HB : Below w.heap.size w w1 := Below.trans (by go_grown) (hb1.mono (by go_size))) | go_in))
  all_goals go_ret
  all_goals refine ⟨ret_int ?_, by go_grown⟩
  all_goals clear hl p0 p1 p2
  all_goals simp [ckOne, nTo, nA, nB, nN, nG, btw]
  all_goals omega

set_option maxHeartbeats 2000000 in
set_option maxRecDepth 20000 in
theorem checkInstr_7 (V F : Int) (s : Option Addr) (len cap N : Nat) (tto a b n g : Int) (w : World) (hV : 1 ≤ V) (hV' : V ≤ 8) (hF : 0 ≤ F) (hF' : F ≤ 3) (hL : len ≤ 60) (hs : ShpAt N shps w) :
    Calls Tryz.prog 106 #[.agg #[.int .i64 V, .int .i64 F, .slice s len cap], .map (some N), .agg #[.int .i64 7, .int .i64 tto, .int .i64 a, .int .i64 b, .int .i64 n, .int .i64 g]] w fun e w' => e = .returned (.int .i64 (ckOne V F len ⟨7, tto, a, b, n, g⟩)) ∧ Below w.heap.size w w' := by
  have hb0 : Below w.heap.size w ((w.alloc (.cells #[.int .i64 V, .int .i64 F, .slice s len cap] 24)).alloc (.cells #[.int .i64 7, .int .i64 tto, .int .i64 a, .int .i64 b, .int .i64 n, .int .i64 g] 113)) := by go_grown
  have hl : (Instr.lookup 133 (.map (some N)) (.int .i64 7) true).run Tryz.prog _ = .ok (.tuple #[.agg #[.string (wordB 7), .slice (some ⟨N + 7, 0, none⟩) 3 3], .bool true]) _ := look_at (hs.below hb0 (Nat.le_refl _)) 7 6 _ rfl
  have hz : N + 7 < w.heap.size := (part_cell hs 6 0 (by decide) (by decide) (.int .i64 0) rfl).2
  have p0 : w.cell? ⟨N + 7, 0, none⟩ = some (.int .i64 0) := (part_cell hs 6 0 (by decide) (by decide) (.int .i64 0) rfl).1
  have p1 : w.cell? ⟨N + 7, 1, none⟩ = some (.int .i64 1) := (part_cell hs 6 1 (by decide) (by decide) (.int .i64 1) rfl).1
  have p2 : w.cell? ⟨N + 7, 2, none⟩ = some (.int .i64 2) := (part_cell hs 6 2 (by decide) (by decide) (.int .i64 2) rfl).1
  have l0 : lo 0 = 0 := rfl
  have m0 : hi V F len 0 = V - 1 := rfl
  have e0 : er 0 = 5 := rfl
  have l1 : lo 1 = 0 := rfl
  have m1 : hi V F len 1 = V - 1 := rfl
  have e1 : er 1 = 5 := rfl
  have l2 : lo 2 = 0 := rfl
  have m2 : hi V F len 2 = V - 1 := rfl
  have e2 : er 2 = 5 := rfl
  have z1 : N + 7 < w.heap.size + 1 := by omega
  have z2 : N + 7 < w.heap.size + 1 + 1 := by omega
  have z3 : N + 7 < w.heap.size + 1 + 1 + 1 := by omega
  have z4 : N + 7 < w.heap.size + 1 + 1 + 1 + 1 := by omega
  have x3 : ¬ N + 7 = w.heap.size + 1 + 1 + 1 := by omega
  clear hb0 hs
  go_enter Tryz.func106, Tryz.ntmps106
  go_wp2
  refine wp_loop_rounds 4 ?_
  rw [rounds_succ]
  go_wp2_with (first | (go_at_call 133; refine (bounds_any V F _ _ _ _ _ hV hV' hF hF' hL ?hq).mono ?_; (case hq => decide); rintro e w1 ⟨rfl, hb1⟩; obtain ⟨hc1, hf1⟩ := bcell hb1; have hz1 : w.heap.size + 3 < w1.heap.size := (by have := hb1.size; simp at this; omega); have hz2 : w.heap.size < w1.heap.size := (by omega); have hz3 : w.heap.size + 1 < w1.heap.size := (by omega); have hz4 : w.heap.size + 1 + 1 < w1.heap.size := (by omega); have hz5 : w.heap.size + 1 + 1 + 1 < w1.heap.size := (by omega); have hz6 : N + 7 < w1.heap.size := (by omega); have HB : Below w.heap.size w w1 := Below.trans (by go_grown) (hb1.mono (by go_size))) | go_in)
  any_goals (rw [rounds_succ]; go_wp2_with (first | (go_at_call 133; refine (bounds_any V F _ _ _ _ _ hV hV' hF hF' hL ?hq).mono ?_; (case hq => decide); rintro e w1 ⟨rfl, hb1⟩; obtain ⟨hc1, hf1⟩ := bcell hb1; have hz1 : w.heap.size + 3 < w1.heap.size := (by have := hb1.size; simp at this; omega); have hz2 : w.heap.size < w1.heap.size := (by omega); have hz3 : w.heap.size + 1 < w1.heap.size := (by omega); have hz4 : w.heap.size + 1 + 1 < w1.heap.size := (by omega); have hz5 : w.heap.size + 1 + 1 + 1 < w1.heap.size := (by omega); have hz6 : N + 7 < w1.heap.size := (by omega); have HB : Below w.heap.size w w1 := Below.trans (by go_grown) (hb1.mono (by go_size))) | go_in))
  any_goals (rw [rounds_succ]; go_wp2_with (first | (go_at_call 133; refine (bounds_any V F _ _ _ _ _ hV hV' hF hF' hL ?hq).mono ?_; (case hq => decide); rintro e w1 ⟨rfl, hb1⟩; obtain ⟨hc1, hf1⟩ := bcell hb1; have hz1 : w.heap.size + 3 < w1.heap.size := (by have := hb1.size; simp at this; omega); have hz2 : w.heap.size < w1.heap.size := (by omega); have hz3 : w.heap.size + 1 < w1.heap.size := (by omega); have hz4 : w.heap.size + 1 + 1 < w1.heap.size := (by omega); have hz5 : w.heap.size + 1 + 1 + 1 < w1.heap.size := (by omega); have hz6 : N + 7 < w1.heap.size := (by omega); have HB : Below w.heap.size w w1 := Below.trans (by go_grown) (hb1.mono (by go_size))) | go_in))
  any_goals (rw [rounds_succ]; go_wp2_with (first | (go_at_call 133; refine (bounds_any V F _ _ _ _ _ hV hV' hF hF' hL ?hq).mono ?_; (case hq => decide); rintro e w1 ⟨rfl, hb1⟩; obtain ⟨hc1, hf1⟩ := bcell hb1; have hz1 : w.heap.size + 3 < w1.heap.size := (by have := hb1.size; simp at this; omega); have hz2 : w.heap.size < w1.heap.size := (by omega); have hz3 : w.heap.size + 1 < w1.heap.size := (by omega); have hz4 : w.heap.size + 1 + 1 < w1.heap.size := (by omega); have hz5 : w.heap.size + 1 + 1 + 1 < w1.heap.size := (by omega); have hz6 : N + 7 < w1.heap.size := (by omega); have HB : Below w.heap.size w w1 := Below.trans (by go_grown) (hb1.mono (by go_size))) | go_in))
  all_goals go_ret
  all_goals refine ⟨ret_int ?_, by go_grown⟩
  all_goals clear hl p0 p1 p2
  all_goals simp [ckOne, nTo, nA, nB, nN, nG, btw]
  all_goals omega

set_option maxHeartbeats 2000000 in
set_option maxRecDepth 20000 in
theorem checkInstr_16 (V F : Int) (s : Option Addr) (len cap N : Nat) (tto a b n g : Int) (w : World) (hV : 1 ≤ V) (hV' : V ≤ 8) (hF : 0 ≤ F) (hF' : F ≤ 3) (hL : len ≤ 60) (hs : ShpAt N shps w) :
    Calls Tryz.prog 106 #[.agg #[.int .i64 V, .int .i64 F, .slice s len cap], .map (some N), .agg #[.int .i64 16, .int .i64 tto, .int .i64 a, .int .i64 b, .int .i64 n, .int .i64 g]] w fun e w' => e = .returned (.int .i64 (ckOne V F len ⟨16, tto, a, b, n, g⟩)) ∧ Below w.heap.size w w' := by
  have hb0 : Below w.heap.size w ((w.alloc (.cells #[.int .i64 V, .int .i64 F, .slice s len cap] 24)).alloc (.cells #[.int .i64 16, .int .i64 tto, .int .i64 a, .int .i64 b, .int .i64 n, .int .i64 g] 113)) := by go_grown
  have hl : (Instr.lookup 133 (.map (some N)) (.int .i64 16) true).run Tryz.prog _ = .ok (.tuple #[.agg #[.string (wordB 16), .slice (some ⟨N + 16, 0, none⟩) 1 1], .bool true]) _ := look_at (hs.below hb0 (Nat.le_refl _)) 16 15 _ rfl
  have hz : N + 16 < w.heap.size := (part_cell hs 15 0 (by decide) (by decide) (.int .i64 3) rfl).2
  have p0 : w.cell? ⟨N + 16, 0, none⟩ = some (.int .i64 3) := (part_cell hs 15 0 (by decide) (by decide) (.int .i64 3) rfl).1
  have l3 : lo 3 = 0 := rfl
  have m3 : hi V F len 3 = (len : Int) := rfl
  have e3 : er 3 = 5 := rfl
  have z1 : N + 16 < w.heap.size + 1 := by omega
  have z2 : N + 16 < w.heap.size + 1 + 1 := by omega
  have z3 : N + 16 < w.heap.size + 1 + 1 + 1 := by omega
  have z4 : N + 16 < w.heap.size + 1 + 1 + 1 + 1 := by omega
  have x3 : ¬ N + 16 = w.heap.size + 1 + 1 + 1 := by omega
  clear hb0 hs
  go_enter Tryz.func106, Tryz.ntmps106
  go_wp2
  refine wp_loop_rounds 2 ?_
  rw [rounds_succ]
  go_wp2_with (first | (go_at_call 133; refine (bounds_any V F _ _ _ _ _ hV hV' hF hF' hL ?hq).mono ?_; (case hq => decide); rintro e w1 ⟨rfl, hb1⟩; obtain ⟨hc1, hf1⟩ := bcell hb1; have hz1 : w.heap.size + 3 < w1.heap.size := (by have := hb1.size; simp at this; omega); have hz2 : w.heap.size < w1.heap.size := (by omega); have hz3 : w.heap.size + 1 < w1.heap.size := (by omega); have hz4 : w.heap.size + 1 + 1 < w1.heap.size := (by omega); have hz5 : w.heap.size + 1 + 1 + 1 < w1.heap.size := (by omega); have hz6 : N + 16 < w1.heap.size := (by omega); have HB : Below w.heap.size w w1 := Below.trans (by go_grown) (hb1.mono (by go_size))) | go_in)
  any_goals (rw [rounds_succ]; go_wp2_with (first | (go_at_call 133; refine (bounds_any V F _ _ _ _ _ hV hV' hF hF' hL ?hq).mono ?_; (case hq => decide); rintro e w1 ⟨rfl, hb1⟩; obtain ⟨hc1, hf1⟩ := bcell hb1; have hz1 : w.heap.size + 3 < w1.heap.size := (by have := hb1.size; simp at this; omega); have hz2 : w.heap.size < w1.heap.size := (by omega); have hz3 : w.heap.size + 1 < w1.heap.size := (by omega); have hz4 : w.heap.size + 1 + 1 < w1.heap.size := (by omega); have hz5 : w.heap.size + 1 + 1 + 1 < w1.heap.size := (by omega); have hz6 : N + 16 < w1.heap.size := (by omega); have HB : Below w.heap.size w w1 := Below.trans (by go_grown) (hb1.mono (by go_size))) | go_in))
  all_goals go_ret
  all_goals refine ⟨ret_int ?_, by go_grown⟩
  all_goals clear hl p0
  all_goals simp [ckOne, nTo, nA, nB, nN, nG, btw]
  all_goals omega

set_option maxHeartbeats 2000000 in
set_option maxRecDepth 20000 in
theorem checkInstr_17 (V F : Int) (s : Option Addr) (len cap N : Nat) (tto a b n g : Int) (w : World) (hV : 1 ≤ V) (hV' : V ≤ 8) (hF : 0 ≤ F) (hF' : F ≤ 3) (hL : len ≤ 60) (hs : ShpAt N shps w) :
    Calls Tryz.prog 106 #[.agg #[.int .i64 V, .int .i64 F, .slice s len cap], .map (some N), .agg #[.int .i64 17, .int .i64 tto, .int .i64 a, .int .i64 b, .int .i64 n, .int .i64 g]] w fun e w' => e = .returned (.int .i64 (ckOne V F len ⟨17, tto, a, b, n, g⟩)) ∧ Below w.heap.size w w' := by
  have hb0 : Below w.heap.size w ((w.alloc (.cells #[.int .i64 V, .int .i64 F, .slice s len cap] 24)).alloc (.cells #[.int .i64 17, .int .i64 tto, .int .i64 a, .int .i64 b, .int .i64 n, .int .i64 g] 113)) := by go_grown
  have hl : (Instr.lookup 133 (.map (some N)) (.int .i64 17) true).run Tryz.prog _ = .ok (.tuple #[.agg #[.string (wordB 17), .slice (some ⟨N + 17, 0, none⟩) 1 1], .bool true]) _ := look_at (hs.below hb0 (Nat.le_refl _)) 17 16 _ rfl
  have hz : N + 17 < w.heap.size := (part_cell hs 16 0 (by decide) (by decide) (.int .i64 1) rfl).2
  have p0 : w.cell? ⟨N + 17, 0, none⟩ = some (.int .i64 1) := (part_cell hs 16 0 (by decide) (by decide) (.int .i64 1) rfl).1
  have l1 : lo 1 = 0 := rfl
  have m1 : hi V F len 1 = V - 1 := rfl
  have e1 : er 1 = 5 := rfl
  have z1 : N + 17 < w.heap.size + 1 := by omega
  have z2 : N + 17 < w.heap.size + 1 + 1 := by omega
  have z3 : N + 17 < w.heap.size + 1 + 1 + 1 := by omega
  have z4 : N + 17 < w.heap.size + 1 + 1 + 1 + 1 := by omega
  have x3 : ¬ N + 17 = w.heap.size + 1 + 1 + 1 := by omega
  clear hb0 hs
  go_enter Tryz.func106, Tryz.ntmps106
  go_wp2
  refine wp_loop_rounds 2 ?_
  rw [rounds_succ]
  go_wp2_with (first | (go_at_call 133; refine (bounds_any V F _ _ _ _ _ hV hV' hF hF' hL ?hq).mono ?_; (case hq => decide); rintro e w1 ⟨rfl, hb1⟩; obtain ⟨hc1, hf1⟩ := bcell hb1; have hz1 : w.heap.size + 3 < w1.heap.size := (by have := hb1.size; simp at this; omega); have hz2 : w.heap.size < w1.heap.size := (by omega); have hz3 : w.heap.size + 1 < w1.heap.size := (by omega); have hz4 : w.heap.size + 1 + 1 < w1.heap.size := (by omega); have hz5 : w.heap.size + 1 + 1 + 1 < w1.heap.size := (by omega); have hz6 : N + 17 < w1.heap.size := (by omega); have HB : Below w.heap.size w w1 := Below.trans (by go_grown) (hb1.mono (by go_size))) | go_in)
  any_goals (rw [rounds_succ]; go_wp2_with (first | (go_at_call 133; refine (bounds_any V F _ _ _ _ _ hV hV' hF hF' hL ?hq).mono ?_; (case hq => decide); rintro e w1 ⟨rfl, hb1⟩; obtain ⟨hc1, hf1⟩ := bcell hb1; have hz1 : w.heap.size + 3 < w1.heap.size := (by have := hb1.size; simp at this; omega); have hz2 : w.heap.size < w1.heap.size := (by omega); have hz3 : w.heap.size + 1 < w1.heap.size := (by omega); have hz4 : w.heap.size + 1 + 1 < w1.heap.size := (by omega); have hz5 : w.heap.size + 1 + 1 + 1 < w1.heap.size := (by omega); have hz6 : N + 17 < w1.heap.size := (by omega); have HB : Below w.heap.size w w1 := Below.trans (by go_grown) (hb1.mono (by go_size))) | go_in))
  all_goals go_ret
  all_goals refine ⟨ret_int ?_, by go_grown⟩
  all_goals clear hl p0
  all_goals simp [ckOne, nTo, nA, nB, nN, nG, btw]
  all_goals omega
end Go.Proofs.YtmapdpcfanecdaaGreat
