/- Walks over package code: the check of an instruction, kind by kind. -/
import Derived.Test.YtmapdpcfanecdabGreatKstpxp17
set_option linter.unusedSimpArgs false
set_option linter.unusedVariables false
namespace Go.Proofs.YtmapdpcfanecdabGreat
section
set_option maxHeartbeats 2000000
set_option maxRecDepth 20000
open Go.RowKit

theorem checkInstr_1 (V F : Int) (s : Option Addr) (len cap N : Nat) (tto a b n g : Int) (w : World) (hV : 1 ≤ V) (hV' : V ≤ 8) (hF : 0 ≤ F) (hF' : F ≤ 3) (hL : len ≤ 60) (hs : ShpAt N shps w) :
  Calls Tryz.prog 97 #[.agg #[.int .i64 V, .int .i64 F, .slice s len cap], .map (some N), .agg #[.int .i64 1, .int .i64 tto, .int .i64 a, .int .i64 b, .int .i64 n, .int .i64 g]] w fun e w' => e = .returned (.int .i64 (ckOne V F len ⟨1, tto, a, b, n, g⟩)) ∧ Below w.heap.size w w' := by
 have hb0 : Below w.heap.size w ((w.alloc (.cells #[.int .i64 V, .int .i64 F, .slice s len cap] 24)).alloc (.cells #[.int .i64 1, .int .i64 tto, .int .i64 a, .int .i64 b, .int .i64 n, .int .i64 g] 51)) := by go_grown
 have hl : (Instr.lookup 127 (.map (some N)) (.int .i64 1) true).run Tryz.prog _ = .ok (.tuple #[.agg #[.string (wordB 1), .slice (some ⟨N + 1, 0, none⟩) 2 2], .bool true]) _ := look_at (hs.below hb0 (Nat.le_refl _)) 1 0 _ rfl
 have hz : N + 1 < w.heap.size := (part_cell hs 0 0 (by decide) (by decide) (.int .i64 0) rfl).2
 have p0 : w.cell? ⟨N + 1, 0, none⟩ = some (.int .i64 0) := (part_cell hs 0 0 (by decide) (by decide) (.int .i64 0) rfl).1
 have p1 : w.cell? ⟨N + 1, 1, none⟩ = some (.int .i64 4) := (part_cell hs 0 1 (by decide) (by decide) (.int .i64 4) rfl).1
 clear hb0 hs
 exact prf_ci

theorem checkInstr_2 (V F : Int) (s : Option Addr) (len cap N : Nat) (tto a b n g : Int) (w : World) (hV : 1 ≤ V) (hV' : V ≤ 8) (hF : 0 ≤ F) (hF' : F ≤ 3) (hL : len ≤ 60) (hs : ShpAt N shps w) :
  Calls Tryz.prog 97 #[.agg #[.int .i64 V, .int .i64 F, .slice s len cap], .map (some N), .agg #[.int .i64 2, .int .i64 tto, .int .i64 a, .int .i64 b, .int .i64 n, .int .i64 g]] w fun e w' => e = .returned (.int .i64 (ckOne V F len ⟨2, tto, a, b, n, g⟩)) ∧ Below w.heap.size w w' := by
 have hb0 : Below w.heap.size w ((w.alloc (.cells #[.int .i64 V, .int .i64 F, .slice s len cap] 24)).alloc (.cells #[.int .i64 2, .int .i64 tto, .int .i64 a, .int .i64 b, .int .i64 n, .int .i64 g] 51)) := by go_grown
 have hl : (Instr.lookup 127 (.map (some N)) (.int .i64 2) true).run Tryz.prog _ = .ok (.tuple #[.agg #[.string (wordB 2), .slice (some ⟨N + 2, 0, none⟩) 2 2], .bool true]) _ := look_at (hs.below hb0 (Nat.le_refl _)) 2 1 _ rfl
 have hz : N + 2 < w.heap.size := (part_cell hs 1 0 (by decide) (by decide) (.int .i64 0) rfl).2
 have p0 : w.cell? ⟨N + 2, 0, none⟩ = some (.int .i64 0) := (part_cell hs 1 0 (by decide) (by decide) (.int .i64 0) rfl).1
 have p1 : w.cell? ⟨N + 2, 1, none⟩ = some (.int .i64 5) := (part_cell hs 1 1 (by decide) (by decide) (.int .i64 5) rfl).1
 clear hb0 hs
 exact prf_ci

theorem checkInstr_3 (V F : Int) (s : Option Addr) (len cap N : Nat) (tto a b n g : Int) (w : World) (hV : 1 ≤ V) (hV' : V ≤ 8) (hF : 0 ≤ F) (hF' : F ≤ 3) (hL : len ≤ 60) (hs : ShpAt N shps w) :
  Calls Tryz.prog 97 #[.agg #[.int .i64 V, .int .i64 F, .slice s len cap], .map (some N), .agg #[.int .i64 3, .int .i64 tto, .int .i64 a, .int .i64 b, .int .i64 n, .int .i64 g]] w fun e w' => e = .returned (.int .i64 (ckOne V F len ⟨3, tto, a, b, n, g⟩)) ∧ Below w.heap.size w w' := by
 have hb0 : Below w.heap.size w ((w.alloc (.cells #[.int .i64 V, .int .i64 F, .slice s len cap] 24)).alloc (.cells #[.int .i64 3, .int .i64 tto, .int .i64 a, .int .i64 b, .int .i64 n, .int .i64 g] 51)) := by go_grown
 have hl : (Instr.lookup 127 (.map (some N)) (.int .i64 3) true).run Tryz.prog _ = .ok (.tuple #[.agg #[.string (wordB 3), .slice (some ⟨N + 3, 0, none⟩) 1 1], .bool true]) _ := look_at (hs.below hb0 (Nat.le_refl _)) 3 2 _ rfl
 have hz : N + 3 < w.heap.size := (part_cell hs 2 0 (by decide) (by decide) (.int .i64 0) rfl).2
 have p0 : w.cell? ⟨N + 3, 0, none⟩ = some (.int .i64 0) := (part_cell hs 2 0 (by decide) (by decide) (.int .i64 0) rfl).1
 clear hb0 hs
 exact prf_ci

theorem checkInstr_4 (V F : Int) (s : Option Addr) (len cap N : Nat) (tto a b n g : Int) (w : World) (hV : 1 ≤ V) (hV' : V ≤ 8) (hF : 0 ≤ F) (hF' : F ≤ 3) (hL : len ≤ 60) (hs : ShpAt N shps w) :
  Calls Tryz.prog 97 #[.agg #[.int .i64 V, .int .i64 F, .slice s len cap], .map (some N), .agg #[.int .i64 4, .int .i64 tto, .int .i64 a, .int .i64 b, .int .i64 n, .int .i64 g]] w fun e w' => e = .returned (.int .i64 (ckOne V F len ⟨4, tto, a, b, n, g⟩)) ∧ Below w.heap.size w w' := by
 have hb0 : Below w.heap.size w ((w.alloc (.cells #[.int .i64 V, .int .i64 F, .slice s len cap] 24)).alloc (.cells #[.int .i64 4, .int .i64 tto, .int .i64 a, .int .i64 b, .int .i64 n, .int .i64 g] 51)) := by go_grown
 have hl : (Instr.lookup 127 (.map (some N)) (.int .i64 4) true).run Tryz.prog _ = .ok (.tuple #[.agg #[.string (wordB 4), .slice (some ⟨N + 4, 0, none⟩) 2 2], .bool true]) _ := look_at (hs.below hb0 (Nat.le_refl _)) 4 3 _ rfl
 have hz : N + 4 < w.heap.size := (part_cell hs 3 0 (by decide) (by decide) (.int .i64 0) rfl).2
 have p0 : w.cell? ⟨N + 4, 0, none⟩ = some (.int .i64 0) := (part_cell hs 3 0 (by decide) (by decide) (.int .i64 0) rfl).1
 have p1 : w.cell? ⟨N + 4, 1, none⟩ = some (.int .i64 1) := (part_cell hs 3 1 (by decide) (by decide) (.int .i64 1) rfl).1
 clear hb0 hs
 exact prf_ci

theorem checkInstr_19 (V F : Int) (s : Option Addr) (len cap N : Nat) (tto a b n g : Int) (w : World) (_hV : 1 ≤ V) (_hV' : V ≤ 8) (_hF : 0 ≤ F) (_hF' : F ≤ 3) (_hL : len ≤ 60) (hs : ShpAt N shps w) :
  Calls Tryz.prog 97 #[.agg #[.int .i64 V, .int .i64 F, .slice s len cap], .map (some N), .agg #[.int .i64 19, .int .i64 tto, .int .i64 a, .int .i64 b, .int .i64 n, .int .i64 g]] w fun e w' => e = .returned (.int .i64 (ckOne V F len ⟨19, tto, a, b, n, g⟩)) ∧ Below w.heap.size w w' := by
 have hb0 : Below w.heap.size w ((w.alloc (.cells #[.int .i64 V, .int .i64 F, .slice s len cap] 24)).alloc (.cells #[.int .i64 19, .int .i64 tto, .int .i64 a, .int .i64 b, .int .i64 n, .int .i64 g] 51)) := by go_grown
 have hl : (Instr.lookup 127 (.map (some N)) (.int .i64 19) true).run Tryz.prog _ = .ok (.tuple #[.agg #[.string (wordB 19), .slice none 0 0], .bool true]) _ := look_at (hs.below hb0 (Nat.le_refl _)) 19 18 _ rfl
 clear hb0 hs
 go_enter Tryz.func97, Tryz.ntmps97
 go_wp2
 refine wp_loop_rounds 1 ?_
 rw [rounds_succ]
 go_wp2
 all_goals go_ret
 all_goals refine ⟨ret_int ?_, by go_grown⟩
 all_goals clear hl 
 all_goals simp [ckOne, nTo, nA, nB, nN, nG, btw]
 all_goals omega

theorem checkInstr_no (V F : Int) (s : Option Addr) (len cap N : Nat) (k tto a b n g : Int) (w : World) (_hV : 1 ≤ V) (_hV' : V ≤ 8) (_hF : 0 ≤ F) (_hF' : F ≤ 3) (_hL : len ≤ 60) (hs : ShpAt N shps w) (hk : btw k 1 19 = false) :
  Calls Tryz.prog 97 #[.agg #[.int .i64 V, .int .i64 F, .slice s len cap], .map (some N), .agg #[.int .i64 k, .int .i64 tto, .int .i64 a, .int .i64 b, .int .i64 n, .int .i64 g]] w fun e w' => e = .returned (.int .i64 (ckOne V F len ⟨k, tto, a, b, n, g⟩)) ∧ Below w.heap.size w w' := by
 have hb0 : Below w.heap.size w ((w.alloc (.cells #[.int .i64 V, .int .i64 F, .slice s len cap] 24)).alloc (.cells #[.int .i64 k, .int .i64 tto, .int .i64 a, .int .i64 b, .int .i64 n, .int .i64 g] 51)) := by go_grown
 have hl := look_no (hs.below hb0 (Nat.le_refl _)) k hk
 have hr : ckOne V F len ⟨k, tto, a, b, n, g⟩ = 6 := by simp [ckOne, hk]
 clear hb0 hs
 go_enter Tryz.func97, Tryz.ntmps97
 go_wp2
 go_ret
 exact ⟨ret_int hr.symm, by go_grown⟩

theorem checkInstr_11 (V F : Int) (s : Option Addr) (len cap N : Nat) (tto a b n g : Int) (w : World) (hV : 1 ≤ V) (hV' : V ≤ 8) (hF : 0 ≤ F) (hF' : F ≤ 3) (hL : len ≤ 60) (hs : ShpAt N shps w) :
  Calls Tryz.prog 97 #[.agg #[.int .i64 V, .int .i64 F, .slice s len cap], .map (some N), .agg #[.int .i64 11, .int .i64 tto, .int .i64 a, .int .i64 b, .int .i64 n, .int .i64 g]] w fun e w' => e = .returned (.int .i64 (ckOne V F len ⟨11, tto, a, b, n, g⟩)) ∧ Below w.heap.size w w' := by
 have hb0 : Below w.heap.size w ((w.alloc (.cells #[.int .i64 V, .int .i64 F, .slice s len cap] 24)).alloc (.cells #[.int .i64 11, .int .i64 tto, .int .i64 a, .int .i64 b, .int .i64 n, .int .i64 g] 51)) := by go_grown
 have hl : (Instr.lookup 127 (.map (some N)) (.int .i64 11) true).run Tryz.prog _ = .ok (.tuple #[.agg #[.string (wordB 11), .slice (some ⟨N + 11, 0, none⟩) 1 1], .bool true]) _ := look_at (hs.below hb0 (Nat.le_refl _)) 11 10 _ rfl
 have hz : N + 11 < w.heap.size := (part_cell hs 10 0 (by decide) (by decide) (.int .i64 0) rfl).2
 have p0 : w.cell? ⟨N + 11, 0, none⟩ = some (.int .i64 0) := (part_cell hs 10 0 (by decide) (by decide) (.int .i64 0) rfl).1
 clear hb0 hs
 exact prf_ci
end
end Go.Proofs.YtmapdpcfanecdabGreat
