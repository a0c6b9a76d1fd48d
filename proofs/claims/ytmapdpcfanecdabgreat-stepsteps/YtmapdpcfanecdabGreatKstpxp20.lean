/- Walks over package code: the check of an instruction, kind by kind. -/
import Derived.Test.YtmapdpcfanecdabGreatKstpxp17
set_option linter.unusedSimpArgs false
set_option linter.unusedVariables false
namespace Go.Proofs.YtmapdpcfanecdabGreat
section
set_option maxHeartbeats 2000000
set_option maxRecDepth 20000
open Go.RowKit

theorem checkInstr_8 (V F : Int) (s : Option Addr) (len cap N : Nat) (tto a b n g : Int) (w : World) (hV : 1 ≤ V) (hV' : V ≤ 8) (hF : 0 ≤ F) (hF' : F ≤ 3) (hL : len ≤ 60) (hs : ShpAt N shps w) :
  Calls Tryz.prog 97 #[.agg #[.int .i64 V, .int .i64 F, .slice s len cap], .map (some N), .agg #[.int .i64 8, .int .i64 tto, .int .i64 a, .int .i64 b, .int .i64 n, .int .i64 g]] w fun e w' => e = .returned (.int .i64 (ckOne V F len ⟨8, tto, a, b, n, g⟩)) ∧ Below w.heap.size w w' := by
 have hb0 : Below w.heap.size w ((w.alloc (.cells #[.int .i64 V, .int .i64 F, .slice s len cap] 24)).alloc (.cells #[.int .i64 8, .int .i64 tto, .int .i64 a, .int .i64 b, .int .i64 n, .int .i64 g] 51)) := by go_grown
 have hl : (Instr.lookup 127 (.map (some N)) (.int .i64 8) true).run Tryz.prog _ = .ok (.tuple #[.agg #[.string (wordB 8), .slice (some ⟨N + 8, 0, none⟩) 3 3], .bool true]) _ := look_at (hs.below hb0 (Nat.le_refl _)) 8 7 _ rfl
 have hz : N + 8 < w.heap.size := (part_cell hs 7 0 (by decide) (by decide) (.int .i64 0) rfl).2
 have p0 : w.cell? ⟨N + 8, 0, none⟩ = some (.int .i64 0) := (part_cell hs 7 0 (by decide) (by decide) (.int .i64 0) rfl).1
 have p1 : w.cell? ⟨N + 8, 1, none⟩ = some (.int .i64 1) := (part_cell hs 7 1 (by decide) (by decide) (.int .i64 1) rfl).1
 have p2 : w.cell? ⟨N + 8, 2, none⟩ = some (.int .i64 2) := (part_cell hs 7 2 (by decide) (by decide) (.int .i64 2) rfl).1
 clear hb0 hs
 exact prf_ci

theorem checkInstr_9 (V F : Int) (s : Option Addr) (len cap N : Nat) (tto a b n g : Int) (w : World) (hV : 1 ≤ V) (hV' : V ≤ 8) (hF : 0 ≤ F) (hF' : F ≤ 3) (hL : len ≤ 60) (hs : ShpAt N shps w) :
  Calls Tryz.prog 97 #[.agg #[.int .i64 V, .int .i64 F, .slice s len cap], .map (some N), .agg #[.int .i64 9, .int .i64 tto, .int .i64 a, .int .i64 b, .int .i64 n, .int .i64 g]] w fun e w' => e = .returned (.int .i64 (ckOne V F len ⟨9, tto, a, b, n, g⟩)) ∧ Below w.heap.size w w' := by
 have hb0 : Below w.heap.size w ((w.alloc (.cells #[.int .i64 V, .int .i64 F, .slice s len cap] 24)).alloc (.cells #[.int .i64 9, .int .i64 tto, .int .i64 a, .int .i64 b, .int .i64 n, .int .i64 g] 51)) := by go_grown
 have hl : (Instr.lookup 127 (.map (some N)) (.int .i64 9) true).run Tryz.prog _ = .ok (.tuple #[.agg #[.string (wordB 9), .slice (some ⟨N + 9, 0, none⟩) 3 3], .bool true]) _ := look_at (hs.below hb0 (Nat.le_refl _)) 9 8 _ rfl
 have hz : N + 9 < w.heap.size := (part_cell hs 8 0 (by decide) (by decide) (.int .i64 0) rfl).2
 have p0 : w.cell? ⟨N + 9, 0, none⟩ = some (.int .i64 0) := (part_cell hs 8 0 (by decide) (by decide) (.int .i64 0) rfl).1
 have p1 : w.cell? ⟨N + 9, 1, none⟩ = some (.int .i64 1) := (part_cell hs 8 1 (by decide) (by decide) (.int .i64 1) rfl).1
 have p2 : w.cell? ⟨N + 9, 2, none⟩ = some (.int .i64 2) := (part_cell hs 8 2 (by decide) (by decide) (.int .i64 2) rfl).1
 clear hb0 hs
 exact prf_ci

theorem checkInstr_10 (V F : Int) (s : Option Addr) (len cap N : Nat) (tto a b n g : Int) (w : World) (hV : 1 ≤ V) (hV' : V ≤ 8) (hF : 0 ≤ F) (hF' : F ≤ 3) (hL : len ≤ 60) (hs : ShpAt N shps w) :
  Calls Tryz.prog 97 #[.agg #[.int .i64 V, .int .i64 F, .slice s len cap], .map (some N), .agg #[.int .i64 10, .int .i64 tto, .int .i64 a, .int .i64 b, .int .i64 n, .int .i64 g]] w fun e w' => e = .returned (.int .i64 (ckOne V F len ⟨10, tto, a, b, n, g⟩)) ∧ Below w.heap.size w w' := by
 have hb0 : Below w.heap.size w ((w.alloc (.cells #[.int .i64 V, .int .i64 F, .slice s len cap] 24)).alloc (.cells #[.int .i64 10, .int .i64 tto, .int .i64 a, .int .i64 b, .int .i64 n, .int .i64 g] 51)) := by go_grown
 have hl : (Instr.lookup 127 (.map (some N)) (.int .i64 10) true).run Tryz.prog _ = .ok (.tuple #[.agg #[.string (wordB 10), .slice (some ⟨N + 10, 0, none⟩) 2 2], .bool true]) _ := look_at (hs.below hb0 (Nat.le_refl _)) 10 9 _ rfl
 have hz : N + 10 < w.heap.size := (part_cell hs 9 0 (by decide) (by decide) (.int .i64 0) rfl).2
 have p0 : w.cell? ⟨N + 10, 0, none⟩ = some (.int .i64 0) := (part_cell hs 9 0 (by decide) (by decide) (.int .i64 0) rfl).1
 have p1 : w.cell? ⟨N + 10, 1, none⟩ = some (.int .i64 1) := (part_cell hs 9 1 (by decide) (by decide) (.int .i64 1) rfl).1
 clear hb0 hs
 exact prf_ci

theorem checkInstr_15 (V F : Int) (s : Option Addr) (len cap N : Nat) (tto a b n g : Int) (w : World) (hV : 1 ≤ V) (hV' : V ≤ 8) (hF : 0 ≤ F) (hF' : F ≤ 3) (hL : len ≤ 60) (hs : ShpAt N shps w) :
  Calls Tryz.prog 97 #[.agg #[.int .i64 V, .int .i64 F, .slice s len cap], .map (some N), .agg #[.int .i64 15, .int .i64 tto, .int .i64 a, .int .i64 b, .int .i64 n, .int .i64 g]] w fun e w' => e = .returned (.int .i64 (ckOne V F len ⟨15, tto, a, b, n, g⟩)) ∧ Below w.heap.size w w' := by
 have hb0 : Below w.heap.size w ((w.alloc (.cells #[.int .i64 V, .int .i64 F, .slice s len cap] 24)).alloc (.cells #[.int .i64 15, .int .i64 tto, .int .i64 a, .int .i64 b, .int .i64 n, .int .i64 g] 51)) := by go_grown
 have hl : (Instr.lookup 127 (.map (some N)) (.int .i64 15) true).run Tryz.prog _ = .ok (.tuple #[.agg #[.string (wordB 15), .slice (some ⟨N + 15, 0, none⟩) 2 2], .bool true]) _ := look_at (hs.below hb0 (Nat.le_refl _)) 15 14 _ rfl
 have hz : N + 15 < w.heap.size := (part_cell hs 14 0 (by decide) (by decide) (.int .i64 1) rfl).2
 have p0 : w.cell? ⟨N + 15, 0, none⟩ = some (.int .i64 1) := (part_cell hs 14 0 (by decide) (by decide) (.int .i64 1) rfl).1
 have p1 : w.cell? ⟨N + 15, 1, none⟩ = some (.int .i64 3) := (part_cell hs 14 1 (by decide) (by decide) (.int .i64 3) rfl).1
 clear hb0 hs
 exact prf_ci

theorem checkInstr_18 (V F : Int) (s : Option Addr) (len cap N : Nat) (tto a b n g : Int) (w : World) (hV : 1 ≤ V) (hV' : V ≤ 8) (hF : 0 ≤ F) (hF' : F ≤ 3) (hL : len ≤ 60) (hs : ShpAt N shps w) :
  Calls Tryz.prog 97 #[.agg #[.int .i64 V, .int .i64 F, .slice s len cap], .map (some N), .agg #[.int .i64 18, .int .i64 tto, .int .i64 a, .int .i64 b, .int .i64 n, .int .i64 g]] w fun e w' => e = .returned (.int .i64 (ckOne V F len ⟨18, tto, a, b, n, g⟩)) ∧ Below w.heap.size w w' := by
 have hb0 : Below w.heap.size w ((w.alloc (.cells #[.int .i64 V, .int .i64 F, .slice s len cap] 24)).alloc (.cells #[.int .i64 18, .int .i64 tto, .int .i64 a, .int .i64 b, .int .i64 n, .int .i64 g] 51)) := by go_grown
 have hl : (Instr.lookup 127 (.map (some N)) (.int .i64 18) true).run Tryz.prog _ = .ok (.tuple #[.agg #[.string (wordB 18), .slice (some ⟨N + 18, 0, none⟩) 1 1], .bool true]) _ := look_at (hs.below hb0 (Nat.le_refl _)) 18 17 _ rfl
 have hz : N + 18 < w.heap.size := (part_cell hs 17 0 (by decide) (by decide) (.int .i64 1) rfl).2
 have p0 : w.cell? ⟨N + 18, 0, none⟩ = some (.int .i64 1) := (part_cell hs 17 0 (by decide) (by decide) (.int .i64 1) rfl).1
 clear hb0 hs
 exact prf_ci
end
end Go.Proofs.YtmapdpcfanecdabGreat
