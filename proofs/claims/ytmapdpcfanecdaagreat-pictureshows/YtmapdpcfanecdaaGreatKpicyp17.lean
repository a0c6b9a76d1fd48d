/- Walks over package code: the check of an instruction, kind by kind. -/
import Derived.Test.YtmapdpcfanecdaaGreatKpicyp14
namespace Go.Proofs.YtmapdpcfanecdaaGreat
set_option linter.unusedVariables false
set_option linter.unusedSimpArgs false
open Go.RowKit

set_option maxHeartbeats 2000000 in
set_option maxRecDepth 20000 in
theorem checkInstr_8 (V F : Int) (s : Option Addr) (len cap N : Nat) (tto a b n g : Int) (w : World) (hV : 1 ≤ V) (hV' : V ≤ 8) (hF : 0 ≤ F) (hF' : F ≤ 3) (hL : len ≤ 60) (hs : ShpAt N shps w) :
    Calls Tryz.prog 106 #[.agg #[.int .i64 V, .int .i64 F, .slice s len cap], .map (some N), .agg #[.int .i64 8, .int .i64 tto, .int .i64 a, .int .i64 b, .int .i64 n, .int .i64 g]] w fun e w' => e = .returned (.int .i64 (ckOne V F len ⟨8, tto, a, b, n, g⟩)) ∧ Below w.heap.size w w' := by
  have hb0 : Below w.heap.size w ((w.alloc (.cells #[.int .i64 V, .int .i64 F, .slice s len cap] 24)).alloc (.cells #[.int .i64 8, .int .i64 tto, .int .i64 a, .int .i64 b, .int .i64 n, .int .i64 g] 113)) := by go_grown
  have hl : (Instr.lookup 133 (.map (some N)) (.int .i64 8) true).run Tryz.prog _ = .ok (.tuple #[.agg #[.string (wordB 8), .slice (some ⟨N + 8, 0, none⟩) 3 3], .bool true]) _ := look_at (hs.below hb0 (Nat.le_refl _)) 8 7 _ rfl
  have hz : N + 8 < w.heap.size := (part_cell hs 7 0 (by decide) (by decide) (.int .i64 0) rfl).2
  have p0 : w.cell? ⟨N + 8, 0, none⟩ = some (.int .i64 0) := (part_cell hs 7 0 (by decide) (by decide) (.int .i64 0) rfl).1
  have p1 : w.cell? ⟨N + 8, 1, none⟩ = some (.int .i64 1) := (part_cell hs 7 1 (by decide) (by decide) (.int .i64 1) rfl).1
  have p2 : w.cell? ⟨N + 8, 2, none⟩ = some (.int .i64 2) := (part_cell hs 7 2 (by decide) (by decide) (.int .i64 2) rfl).1
  have l0 : lo 0 = 0 := rfl
  have m0 : hi V F len 0 = V - 1 := rfl
  have e0 : er 0 = 5 := rfl
  have l1 : lo 1 = 0 := rfl
  have m1 : hi V F len 1 = V - 1 := rfl
  have e1 : er 1 = 5 := rfl
  have l2 : lo 2 = 0 := rfl
  have m2 : hi V F len 2 = V - 1 := rfl
  have e2 : er 2 = 5 := rfl
  have z1 : N + 8 < w.heap.size + 1 := by omega
  have z2 : N + 8 < w.heap.size + 1 + 1 := by omega
  have z3 : N + 8 < w.heap.size + 1 + 1 + 1 := by omega
  have z4 : N + 8 < w.heap.size + 1 + 1 + 1 + 1 := by omega
  have x3 : ¬ N + 8 = w.heap.size + 1 + 1 + 1 := by omega
  clear hb0 hs
  go_enter Tryz.func106, Tryz.ntmps106
  go_wp2
  refine wp_loop_rounds 4 ?_
  rw [rounds_succ]
  go_wp2_with (first | (go_at_call 133; refine (bounds_any V F _ _ _ _ _ hV hV' hF hF' hL ?hq).mono ?_; (case hq => decide); rintro e w1 ⟨rfl, hb1⟩; obtain ⟨hc1, hf1⟩ := bcell hb1; have hz1 : w.heap.size + 3 < w1.heap.size := (by have := hb1.size; simp at this; omega); have hz2 : w.heap.size < w1.heap.size := (by omega); have hz3 : w.heap.size + 1 < w1.heap.size := (by omega); have hz4 : w.heap.size + 1 + 1 < w1.heap.size := (by omega); have hz5 : w.heap.size + 1 + 1 + 1 < w1.heap.size := (by omega); have hz6 : N + 8 < w1.heap.size := (by omega); have HB : Below w.heap.size w w1 := Below.trans (by go_grown) (hb1.mono (by go_size))) | go_in)
  any_goals (rw [rounds_succ]; go_wp2_with (first | (go_at_call 133; refine (bounds_any V F _ _ _ _ _ hV hV' hF hF' hL ?hq).mono ?_; (case hq => decide); rintro e w1 ⟨rfl, hb1⟩; obtain ⟨hc1, hf1⟩ := bcell hb1; have hz1 : w.heap.size + 3 < w1.heap.size := (by have := hb1.size; simp at this; omega); have hz2 : w.heap.size < w1.heap.size := (by omega); have hz3 : w.heap.size + 1 < w1.heap.size := (by omega); have hz4 : w.heap.size + 1 + 1 < w1.heap.size := (by omega); have hz5 : w.heap.size + 1 + 1 + 1 < w1.heap.size := (by omega); have hz6 : N + 8 < w1.heap.size := (by omega); have HB : Below w.heap.size w w1 := Below.trans (by go_grown) (hb1.mono (by go_size))) | go_in))
  any_goals (rw [rounds_succ]; go_wp2_with (first | (go_at_call 133; refine (bounds_any V F _ _ _ _ _ hV hV' hF hF' hL ?hq).mono ?_; (case hq => decide); rintro e w1 ⟨rfl, hb1⟩; obtain ⟨hc1, hf1⟩ := bcell hb1; have hz1 : w.heap.size + 3 < w1.heap.size := (by have := hb1.size; simp at this; omega); have hz2 : w.heap.size < w1.heap.size := (by omega); have hz3 : w.heap.size + 1 < w1.heap.size := (by omega); have hz4 : w.heap.size + 1 + 1 < w1.heap.size := (by omega); have hz5 : w.heap.size + 1 + 1 + 1 < w1.heap.size := (by omega); have hz6 : N + 8 < w1.heap.size := (by omega); have HB : Below w.heap.size w w1 := Below.trans (by go_grown) (hb1.mono (by go_size))) | go_in))
  any_goals (rw [rounds_succ]; go_wp2_with (first | (go_at_call 133; refine (bounds_any V F _ _ _ _ _ hV hV' hF hF' hL ?hq).mono ?_; (case hq => decide); rintro e w1 ⟨rfl, hb1⟩; obtain ⟨hc1, hf1⟩ := bcell hb1; have hz1 : w.heap.size + 3 < w1.heap.size := (by have := hb1.size; simp at this; omega); have hz2 : w.heap.size < w1.heap.size := (by omega); have hz3 : w.heap.size + 1 < w1.heap.size := (by omega); have hz4 : w.heap.size + 1 + 1 < w1.heap.size := (by omega); have hz5 : w.heap.size + 1 + 1 + 1 < w1.heap.size := (by omega); have hz6 : N + 8 < w1.heap.size := (by omega); have HB : Below w.heap.size w w1 := Below.trans (by go_grown) (hb1.mono (by go_size))) | go_in))
  all_goals go_ret
  all_goals refine ⟨ret_int ?_, by go_grown⟩
  all_goals clear hl p0 p1 p2
  all_goals simp [ckOne, nTo, nA, nB, nN, nG, btw]
  all_goals omega

set_option maxHeartbeats 2000000 in
set_option maxRecDepth 20000 in
theorem checkInstr_9 (V F : Int) (s : Option Addr) (len cap N : Nat) (tto a b n g : Int) (w : World) (hV : 1 ≤ V) (hV' : V ≤ 8) (hF : 0 ≤ F) (hF' : F ≤ 3) (hL : len ≤ 60) (hs : ShpAt N shps w) :
    Calls Tryz.prog 106 #[.agg #[.int .i64 V, .int .i64 F, .slice s len cap], .map (some N), .agg #[.int .i64 9, .int .i64 tto, .int .i64 a, .int .i64 b, .int .i64 n, .int .i64 g]] w fun e w' => e = .returned (.int .i64 (ckOne V F len ⟨9, tto, a, b, n, g⟩)) ∧ Below w.heap.size w w' := by
  have hb0 : Below w.heap.size w ((w.alloc (.cells #[.int .i64 V, .int .i64 F, .slice s len cap] 24)).alloc (.cells #[.int .i64 9, .int .i64 tto, .int .i64 a, .int .i64 b, .int .i64 n, .int .i64 g] 113)) := by go_grown
  have hl : (Instr.lookup 133 (.map (some N)) (.int .i64 9) true).run Tryz.prog _ = .ok (.tuple #[.agg #[.string (wordB 9), .slice (some ⟨N + 9, 0, none⟩) 3 3], .bool true]) _ := look_at (hs.below hb0 (Nat.le_refl _)) 9 8 _ rfl
  have hz : N + 9 < w.heap.size := (part_cell hs 8 0 (by decide) (by decide) (.int .i64 0) rfl).2
  have p0 : w.cell? ⟨N + 9, 0, none⟩ = some (.int .i64 0) := (part_cell hs 8 0 (by decide) (by decide) (.int .i64 0) rfl).1
  have p1 : w.cell? ⟨N + 9, 1, none⟩ = some (.int .i64 1) := (part_cell hs 8 1 (by decide) (by decide) (.int .i64 1) rfl).1
  have p2 : w.cell? ⟨N + 9, 2, none⟩ = some (.int .i64 2) := (part_cell hs 8 2 (by decide) (by decide) (.int .i64 2) rfl).1
  have l0 : lo 0 = 0 := rfl
  have m0 : hi V F len 0 = V - 1 := rfl
  have e0 : er 0 = 5 := rfl
  have l1 : lo 1 = 0 := rfl
  have m1 : hi V F len 1 = V - 1 := rfl
  have e1 : er 1 = 5 := rfl
  have l2 : lo 2 = 0 := rfl
  have m2 : hi V F len 2 = V - 1 := rfl
  have e2 : er 2 = 5 := rfl
  have z1 : N + 9 < w.heap.size + 1 := by omega
  have z2 : N + 9 < w.heap.size + 1 + 1 := by omega
  have z3 : N + 9 < w.heap.size + 1 + 1 + 1 := by omega
  have z4 : N + 9 < w.heap.size + 1 + 1 + 1 + 1 := by omega
  have x3 : ¬ N + 9 = w.heap.size + 1 + 1 + 1 := by omega
  clear hb0 hs
  go_enter Tryz.func106, Tryz.ntmps106
  go_wp2
  refine wp_loop_rounds 4 ?_
  rw [rounds_succ]
  go_wp2_with (first | (go_at_call 133; refine (bounds_any V F _ _ _ _ _ hV hV' hF hF' hL ?hq).mono ?_; (case hq => decide); rintro e w1 ⟨rfl, hb1⟩; obtain ⟨hc1, hf1⟩ := bcell hb1; have hz1 : w.heap.size + 3 < w1.heap.size := (by have := hb1.size; simp at this; omega); have hz2 : w.heap.size < w1.heap.size := (by omega); have hz3 : w.heap.size + 1 < w1.heap.size := (by omega); have hz4 : w.heap.size + 1 + 1 < w1.heap.size := (by omega); have hz5 : w.heap.size + 1 + 1 + 1 < w1.heap.size := (by omega); have hz6 : N + 9 < w1.heap.size := (by omega); have HB : Below w.heap.size w w1 := Below.trans (by go_grown) (hb1.mono (by go_size))) | go_in)
  any_goals (rw [rounds_succ]; go_wp2_with (first | (go_at_call 133; refine (bounds_any V F _ _ _ _ _ hV hV' hF hF' hL ?hq).mono ?_; (case hq => decide); rintro e w1 ⟨rfl, hb1⟩; obtain ⟨hc1, hf1⟩ := bcell hb1; have hz1 : w.heap.size + 3 < w1.heap.size := (by have := hb1.size; simp at this; omega); have hz2 : w.heap.size < w1.heap.size := (by omega); have hz3 : w.heap.size + 1 < w1.heap.size := (by omega); have hz4 : w.heap.size + 1 + 1 < w1.heap.size := (by omega); have hz5 : w.heap.size + 1 + 1 + 1 < w1.heap.size := (by omega); have hz6 : N + 9 < w1.heap.size := (by omega); have HB : Below w.heap.size w w1 := Below.trans (by go_grown) (hb1.mono (by go_size))) | go_in))
  any_goals (rw [rounds_succ]; go_wp2_with (first | (go_at_call 133; refine (bounds_any V F _ _ _ _ _ hV hV' hF hF' hL ?hq).mono ?_; (case hq => decide); rintro e w1 ⟨rfl, hb1⟩; obtain ⟨hc1, hf1⟩ := bcell hb1; have hz1 : w.heap.size + 3 < w1.heap.size := (by have := hb1.size; simp at this; omega); have hz2 : w.heap.size < w1.heap.size := (by omega); have hz3 : w.heap.size + 1 < w1.heap.size := (by omega); have hz4 : w.heap.size + 1 + 1 < w1.heap.size := (by omega); have hz5 : w.heap.size + 1 + 1 + 1 < w1.heap.size := (by omega); have hz6 : N + 9 < w1.heap.size := (by omega); have HB : Below w.heap.size w w1 := Below.trans (by go_grown) (hb1.mono (by go_size))) | go_in))
  any_goals (rw [rounds_succ]; go_wp2_with (first | (go_at_call 133; refine (bounds_any V F _ _ _ _ _ hV hV' hF hF' hL ?hq).mono ?_; (case hq => decide); rintro e w1 ⟨rfl, hb1⟩; obtain ⟨hc1, hf1⟩ := bcell hb1; have hz1 : w.heap.size + 3 < w1.heap.size := (by have := hb1.size; simp at this; omega); have hz2 : w.heap.size < w1.heap.size := (by omega); have hz3 : w.heap.size + 1 < w1.heap.size := (by omega); have hz4 : w.heap.size + 1 + 1 < w1.heap.size := (by omega); have hz5 : w.heap.size + 1 + 1 + 1 < w1.heap.size := (by omega); have hz6 : N + 9 < w1.heap.size := (by omega); have HB : Below w.heap.size w w1 := Below.trans (by go_grown) (hb1.mono (by go_size))) | go_in))
  all_goals go_ret
  all_goals refine ⟨ret_int ?_, by go_grown⟩
  all_goals clear hl p0 p1 p2
  all_goals simp [ckOne, nTo, nA, nB, nN, nG, btw]
  all_goals omega

set_option maxHeartbeats 2000000 in
set_option maxRecDepth 20000 in
theorem checkInstr_10 (V F : Int) (s : Option Addr) (len cap N : Nat) (tto a b n g : Int) (w : World) (hV : 1 ≤ V) (hV' : V ≤ 8) (hF : 0 ≤ F) (hF' : F ≤ 3) (hL : len ≤ 60) (hs : ShpAt N shps w) :
    Calls Tryz.prog 106 #[.agg #[.int .i64 V, .int .i64 F, .slice s len cap], .map (some N), .agg #[.int .i64 10, .int .i64 tto, .int .i64 a, .int .i64 b, .int .i64 n, .int .i64 g]] w fun e w' => e = .returned (.int .i64 (ckOne V F len ⟨10, tto, a, b, n, g⟩)) ∧ Below w.heap.size w w' := by
  have hb0 : Below w.heap.size w ((w.alloc (.cells #[.int .i64 V, .int .i64 F, .slice s len cap] 24)).alloc (.cells #[.int .i64 10, .int .i64 tto, .int .i64 a, .int .i64 b, .int .i64 n, .int .i64 g] 113)) := by go_grown
  have hl : (Instr.lookup 133 (.map (some N)) (.int .i64 10) true).run Tryz.prog _ = .ok (.tuple #[.agg #[.string (wordB 10), .slice (some ⟨N + 10, 0, none⟩) 2 2], .bool true]) _ := look_at (hs.below hb0 (Nat.le_refl _)) 10 9 _ rfl
  have hz : N + 10 < w.heap.size := (part_cell hs 9 0 (by decide) (by decide) (.int .i64 0) rfl).2
  have p0 : w.cell? ⟨N + 10, 0, none⟩ = some (.int .i64 0) := (part_cell hs 9 0 (by decide) (by decide) (.int .i64 0) rfl).1
  have p1 : w.cell? ⟨N + 10, 1, none⟩ = some (.int .i64 1) := (part_cell hs 9 1 (by decide) (by decide) (.int .i64 1) rfl).1
  have l0 : lo 0 = 0 := rfl
  have m0 : hi V F len 0 = V - 1 := rfl
  have e0 : er 0 = 5 := rfl
  have l1 : lo 1 = 0 := rfl
  have m1 : hi V F len 1 = V - 1 := rfl
  have e1 : er 1 = 5 := rfl
  have z1 : N + 10 < w.heap.size + 1 := by omega
  have z2 : N + 10 < w.heap.size + 1 + 1 := by omega
  have z3 : N + 10 < w.heap.size + 1 + 1 + 1 := by omega
  have z4 : N + 10 < w.heap.size + 1 + 1 + 1 + 1 := by omega
  have x3 : ¬ N + 10 = w.heap.size + 1 + 1 + 1 := by omega
  clear hb0 hs
  go_enter Tryz.func106, Tryz.ntmps106
  go_wp2
  refine wp_loop_rounds 3 ?_
  rw [rounds_succ]
  go_wp2_with (first | (go_at_call 133; refine (bounds_any V F _ _ _ _ _ hV hV' hF hF' hL ?hq).mono ?_; (case hq => decide); rintro e w1 ⟨rfl, hb1⟩; obtain ⟨hc1, hf1⟩ := bcell hb1; have hz1 : w.heap.size + 3 < w1.heap.size := (by have := hb1.size; simp at this; omega); have hz2 : w.heap.size < w1.heap.size := (by omega); have hz3 : w.heap.size + 1 < w1.heap.size := (by omega); have hz4 : w.heap.size + 1 + 1 < w1.heap.size := (by omega); have hz5 : w.heap.size + 1 + 1 + 1 < w1.heap.size := (by omega); have hz6 : N + 10 < w1.heap.size := (by omega); have HB : Below w.heap.size w w1 := Below.trans (by go_grown) (hb1.mono (by go_size))) | go_in)
  any_goals (rw [rounds_succ]; go_wp2_with (first | (go_at_call 133; refine (bounds_any V F _ _ _ _ _ hV hV' hF hF' hL ?hq).mono ?_; (case hq => decide); rintro e w1 ⟨rfl, hb1⟩; obtain ⟨hc1, hf1⟩ := bcell hb1; have hz1 : w.heap.size + 3 < w1.heap.size := (by have := hb1.size; simp at this; omega); have hz2 : w.heap.size < w1.heap.size := (by omega); have hz3 : w.heap.size + 1 < w1.heap.size := (by omega); have hz4 : w.heap.size + 1 + 1 < w1.heap.size := (by omega); have hz5 : w.heap.size + 1 + 1 + 1 < w1.heap.size := (by omega); have hz6 : N + 10 < w1.heap.size := (by omega); have HB : Below w.heap.size w w1 := Below.trans (by go_grown) (hb1.mono (by go_size))) | go_in))
  any_goals (rw [rounds_succ]; go_wp2_with (first | (go_at_call 133; refine (bounds_any V F _ _ _ _ _ hV hV' hF hF' hL ?hq).mono ?_; (case hq => decide); rintro e w1 ⟨rfl, hb1⟩; obtain ⟨hc1, hf1⟩ := bcell hb1; have hz1 : w.heap.size + 3 < w1.heap.size := (by have := hb1.size; simp at this; omega); have hz2 : w.heap.size < w1.heap.size := (by omega); have hz3 : w.heap.size + 1 < w1.heap.size := (by omega); have hz4 : w.heap.size + 1 + 1 < w1.heap.size := (by omega); have hz5 : w.heap.size + 1 + 1 + 1 < w1.heap.size := (by omega); have hz6 : N + 10 < w1.heap.size := (by omega); have HB : Below w.heap.size w w1 := Below.trans (by go_grown) (hb1.mono (by go_size))) | go_in))
  all_goals go_ret
  all_goals refine ⟨ret_int ?_, by go_grown⟩
  all_goals clear hl p0 p1
  all_goals simp [ckOne, nTo, nA, nB, nN, nG, btw]
  all_goals omega

set_option maxHeartbeats 2000000 in
set_option maxRecDepth 20000 in
theorem checkInstr_15 (V F : Int) (s : Option Addr) (len cap N : Nat) (tto a b n g : Int) (w : World) (hV : 1 ≤ V) (hV' : V ≤ 8) (hF : 0 ≤ F) (hF' : F ≤ 3) (hL : len ≤ 60) (hs : ShpAt N shps w) :
    Calls Tryz.prog 106 #[.agg #[.int .i64 V, .int .i64 F, .slice s len cap], .map (some N), .agg #[.int .i64 15, .int .i64 tto, .int .i64 a, .int .i64 b, .int .i64 n, .int .i64 g]] w fun e w' => e = .returned (.int .i64 (ckOne V F len ⟨15, tto, a, b, n, g⟩)) ∧ Below w.heap.size w w' := by
  have hb0 : Below w.heap.size w ((w.alloc (.cells #[.int .i64 V, .int .i64 F, .slice s len cap] 24)).alloc (.cells #[.int .i64 15, .int .i64 tto, .int .i64 a, .int .i64 b, .int .i64 n, .int .i64 g] 113)) := by go_grown
  have hl : (Instr.lookup 133 (.map (some N)) (.int .i64 15) true).run Tryz.prog _ = .ok (.tuple #[.agg #[.string (wordB 15), .slice (some ⟨N + 15, 0, none⟩) 2 2], .bool true]) _ := look_at (hs.below hb0 (Nat.le_refl _)) 15 14 _ rfl
  have hz : N + 15 < w.heap.size := (part_cell hs 14 0 (by decide) (by decide) (.int .i64 1) rfl).2
  have p0 : w.cell? ⟨N + 15, 0, none⟩ = some (.int .i64 1) := (part_cell hs 14 0 (by decide) (by decide) (.int .i64 1) rfl).1
  have p1 : w.cell? ⟨N + 15, 1, none⟩ = some (.int .i64 3) := (part_cell hs 14 1 (by decide) (by decide) (.int .i64 3) rfl).1
  have l1 : lo 1 = 0 := rfl
  have m1 : hi V F len 1 = V - 1 := rfl
  have e1 : er 1 = 5 := rfl
  have l3 : lo 3 = 0 := rfl
  have m3 : hi V F len 3 = (len : Int) := rfl
  have e3 : er 3 = 5 := rfl
  have z1 : N + 15 < w.heap.size + 1 := by omega
  have z2 : N + 15 < w.heap.size + 1 + 1 := by omega
  have z3 : N + 15 < w.heap.size + 1 + 1 + 1 := by omega
  have z4 : N + 15 < w.heap.size + 1 + 1 + 1 + 1 := by omega
  have x3 : ¬ N + 15 = w.heap.size + 1 + 1 + 1 := by omega
  clear hb0 hs
  go_enter Tryz.func106, Tryz.ntmps106
  go_wp2
  refine wp_loop_rounds 3 ?_
  rw [rounds_succ]
  go_wp2_with (first | (go_at_call 133; refine (bounds_any V F _ _ _ _ _ hV hV' hF hF' hL ?hq).mono ?_; (case hq => decide); rintro e w1 ⟨rfl, hb1⟩; obtain ⟨hc1, hf1⟩ := bcell hb1; have hz1 : w.heap.size + 3 < w1.heap.size := (by have := hb1.size; simp at this; omega); have hz2 : w.heap.size < w1.heap.size := (by omega); have hz3 : w.heap.size + 1 < w1.heap.size := (by omega); have hz4 : w.heap.size + 1 + 1 < w1.heap.size := (by omega); have hz5 : w.heap.size + 1 + 1 + 1 < w1.heap.size := (by omega); have hz6 : N + 15 < w1.heap.size := (by omega); have HB : Below w.heap.size w w1 := Below.trans (by go_grown) (hb1.mono (by go_size))) | go_in)
  any_goals (rw [rounds_succ]; go_wp2_with (first | (go_at_call 133; refine (bounds_any V F _ _ _ _ _ hV hV' hF hF' hL ?hq).mono ?_; (case hq => decide); rintro e w1 ⟨rfl, hb1⟩; obtain ⟨hc1, hf1⟩ := bcell hb1; have hz1 : w.heap.size + 3 < w1.heap.size := (by have := hb1.size; simp at this; omega); have hz2 : w.heap.size < w1.heap.size := (by omega); have hz3 : w.heap.size + 1 < w1.heap.size := (by omega); have hz4 : w.heap.size + 1 + 1 < w1.heap.size := (by omega); have hz5 : w.heap.size + 1 + 1 + 1 < w1.heap.size := (by omega); have hz6 : N + 15 < w1.heap.size := (by omega); have HB : Below w.heap.size w w1 := Below.trans (by go_grown) (hb1.mono (by go_size))) | go_in))
  any_goals (rw [rounds_succ]; go_wp2_with (first | (go_at_call 133; refine (bounds_any V F _ _ _ _ _ hV hV' hF hF' hL ?hq).mono ?_; (case hq => decide); rintro e w1 ⟨rfl, hb1⟩; obtain ⟨hc1, hf1⟩ := bcell hb1; have hz1 : w.heap.size + 3 < w1.heap.size := (by have := hb1.size; simp at this; omega); have hz2 : w.heap.size < w1.heap.size := (by omega); have hz3 : w.heap.size + 1 < w1.heap.size := (by omega); have hz4 : w.heap.size + 1 + 1 < w1.heap.size := (by omega); have hz5 : w.heap.size + 1 + 1 + 1 < w1.heap.size := (by omega); have hz6 : N + 15 < w1.heap.size := (by omega); have HB : Below w.heap.size w w1 := Below.trans (by go_grown) (hb1.mono (by go_size))) | go_in))
  all_goals go_ret
  all_goals refine ⟨ret_int ?_, by go_grown⟩
  all_goals clear hl p0 p1
  all_goals simp [ckOne, nTo, nA, nB, nN, nG, btw]
  all_goals omega

set_option maxHeartbeats 2000000 in
set_option maxRecDepth 20000 in
theorem checkInstr_18 (V F : Int) (s : Option Addr) (len cap N : Nat) (tto a b n g : Int) (w : World) (hV : 1 ≤ V) (hV' : V ≤ 8) (hF : 0 ≤ F) (hF' : F ≤ 3) (hL : len ≤ 60) (hs : ShpAt N shps w) :
    Calls Tryz.prog 106 #[.agg #[.int .i64 V, .int .i64 F, .slice s len cap], .map (some N), .agg #[.int .i64 18, .int .i64 tto, .int .i64 a, .int .i64 b, .int .i64 n, .int .i64 g]] w fun e w' => e = .returned (.int .i64 (ckOne V F len ⟨18, tto, a, b, n, g⟩)) ∧ Below w.heap.size w w' := by
  have hb0 : Below w.heap.size w ((w.alloc (.cells #[.int .i64 V, .int .i64 F, .slice s len cap] 24)).alloc (.cells #[.int .i64 18, .int .i64 tto, .int .i64 a, .int .i64 b, .int .i64 n, .int .i64 g] 113)) := by go_grown
  have hl : (Instr.lookup 133 (.map (some N)) (.int .i64 18) true).run Tryz.prog _ = .ok (.tuple #[.agg #[.string (wordB 18), .slice (some ⟨N + 18, 0, none⟩) 1 1], .bool true]) _ := look_at (hs.below hb0 (Nat.le_refl _)) 18 17 _ rfl
  have hz : N + 18 < w.heap.size := (part_cell hs 17 0 (by decide) (by decide) (.int .i64 1) rfl).2
  have p0 : w.cell? ⟨N + 18, 0, none⟩ = some (.int .i64 1) := (part_cell hs 17 0 (by decide) (by decide) (.int .i64 1) rfl).1
  have l1 : lo 1 = 0 := rfl
  have m1 : hi V F len 1 = V - 1 := rfl
  have e1 : er 1 = 5 := rfl
  have z1 : N + 18 < w.heap.size + 1 := by omega
  have z2 : N + 18 < w.heap.size + 1 + 1 := by omega
  have z3 : N + 18 < w.heap.size + 1 + 1 + 1 := by omega
  have z4 : N + 18 < w.heap.size + 1 + 1 + 1 + 1 := by omega
  have x3 : ¬ N + 18 = w.heap.size + 1 + 1 + 1 := by omega
  clear hb0 hs
  go_enter Tryz.func106, Tryz.ntmps106
  go_wp2
  refine wp_loop_rounds 2 ?_
  rw [rounds_succ]
  go_wp2_with (first | (go_at_call 133; refine (bounds_any V F _ _ _ _ _ hV hV' hF hF' hL ?hq).mono ?_; (case hq => decide); rintro e w1 ⟨rfl, hb1⟩; obtain ⟨hc1, hf1⟩ := bcell hb1; have hz1 : w.heap.size + 3 < w1.heap.size := (by have := hb1.size; simp at this; omega); have hz2 : w.heap.size < w1.heap.size := (by omega); have hz3 : w.heap.size + 1 < w1.heap.size := (by omega); have hz4 : w.heap.size + 1 + 1 < w1.heap.size := (by omega); have hz5 : w.heap.size + 1 + 1 + 1 < w1.heap.size := (by omega); have hz6 : N + 18 < w1.heap.size := (by omega); have HB : Below w.heap.size w w1 := Below.trans (by go_grown) (hb1.mono (by go_size))) | go_in)
  any_goals (rw [rounds_succ]; go_wp2_with (first | (go_at_call 133; refine (bounds_any V F _ _ _ _ _ hV hV' hF hF' hL ?hq).mono ?_; (case hq => decide); rintro e w1 ⟨rfl, hb1⟩; obtain ⟨hc1, hf1⟩ := bcell hb1; have hz1 : w.heap.size + 3 < w1.heap.size := (by have := hb1.size; simp at this; omega); have hz2 : w.heap.size < w1.heap.size := (by omega); have hz3 : w.heap.size + 1 < w1.heap.size := (by omega); have hz4 : w.heap.size + 1 + 1 < w1.heap.size := (by omega); have hz5 : w.heap.size + 1 + 1 + 1 < w1.heap.size := (by omega); have hz6 : N + 18 < w1.heap.size := (by omega); have HB : Below w.heap.size w w1 := Below.trans (by go_grown) (hb1.mono (by go_size))) | go_in))
  all_goals go_ret
  all_goals refine ⟨ret_int ?_, by go_grown⟩
  all_goals clear hl p0
  all_goals simp [ckOne, nTo, nA, nB, nN, nG, btw]
  all_goals omega
end Go.Proofs.YtmapdpcfanecdaaGreat
