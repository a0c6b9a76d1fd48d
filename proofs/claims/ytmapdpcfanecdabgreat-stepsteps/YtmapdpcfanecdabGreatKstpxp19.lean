/- Walks over package code: the check of an instruction, kind by kind. -/
import Derived.Test.YtmapdpcfanecdabGreatKstpxp17
set_option linter.unusedSimpArgs false
set_option linter.unusedVariables false
namespace Go.Proofs.YtmapdpcfanecdabGreat
section
set_option maxHeartbeats 2000000
set_option maxRecDepth 20000
open Go.RowKit

theorem checkInstr_5 (V F : Int) (s : Option Addr) (len cap N : Nat) (tto a b n g : Int) (w : World) (hV : 1 ≤ V) (hV' : V ≤ 8) (hF : 0 ≤ F) (hF' : F ≤ 3) (hL : len ≤ 60) (hs : ShpAt N shps w) :
  Calls Tryz.prog 97 #[.agg #[.int .i64 V, .int .i64 F, .slice s len cap], .map (some N), .agg #[.int .i64 5, .int .i64 tto, .int .i64 a, .int .i64 b, .int .i64 n, .int .i64 g]] w fun e w' => e = .returned (.int .i64 (ckOne V F len ⟨5, tto, a, b, n, g⟩)) ∧ Below w.heap.size w w' := by
 have hb0 : Below w.heap.size w ((w.alloc (.cells #[.int .i64 V, .int .i64 F, .slice s len cap] 24)).alloc (.cells #[.int .i64 5, .int .i64 tto, .int .i64 a, .int .i64 b, .int .i64 n, .int .i64 g] 51)) := by go_grown
 have hl : (Instr.lookup 127 (.map (some N)) (.int .i64 5) true).run Tryz.prog _ = .ok (.tuple #[.agg #[.string (wordB 5), .slice (some ⟨N + 5, 0, none⟩) 3 3], .bool true]) _ := look_at (hs.below hb0 (Nat.le_refl _)) 5 4 _ rfl
 have hz : N + 5 < w.heap.size := (part_cell hs 4 0 (by decide) (by decide) (.int .i64 0) rfl).2
 have p0 : w.cell? ⟨N + 5, 0, none⟩ = some (.int .i64 0) := (part_cell hs 4 0 (by decide) (by decide) (.int .i64 0) rfl).1
 have p1 : w.cell? ⟨N + 5, 1, none⟩ = some (.int .i64 1) := (part_cell hs 4 1 (by decide) (by decide) (.int .i64 1) rfl).1
 have p2 : w.cell? ⟨N + 5, 2, none⟩ = some (.int .i64 2) := (part_cell hs 4 2 (by decide) (by decide) (.int .i64 2) rfl).1
 clear hb0 hs
 exact prf_ci

theorem checkInstr_6 (V F : Int) (s : Option Addr) (len cap N : Nat) (tto a b n g : Int) (w : World) (hV : 1 ≤ V) (hV' : V ≤ 8) (hF : 0 ≤ F) (hF' : F ≤ 3) (hL : len ≤ 60) (hs : ShpAt N shps w) :
  Calls Tryz.prog 97 #[.agg #[.int .i64 V, .int .i64 F, .slice s len cap], .map (some N), .agg #[.int .i64 6, .int .i64 tto, .int .i64 a, .int .i64 b, .int .i64 n, .int .i64 g]] w fun e w' => e = .returned (.int .i64 (ckOne V F len ⟨6, tto, a, b, n, g⟩)) ∧ Below w.heap.size w w' := by
 have hb0 : Below w.heap.size w ((w.alloc (.cells #[.int .i64 V, .int .i64 F, .slice s len cap] 24)).alloc (.cells #[.int .i64 6, .int .i64 tto, .int .i64 a, .int .i64 b, .int .i64 n, .int .i64 g] 51)) := by go_grown
 have hl : (Instr.lookup 127 (.map (some N)) (.int .i64 6) true).run Tryz.prog _ = .ok (.tuple #[.agg #[.string (wordB 6), .slice (some ⟨N + 6, 0, none⟩) 3 3], .bool true]) _ := look_at (hs.below hb0 (Nat.le_refl _)) 6 5 _ rfl
 have hz : N + 6 < w.heap.size := (part_cell hs 5 0 (by decide) (by decide) (.int .i64 0) rfl).2
 have p0 : w.cell? ⟨N + 6, 0, none⟩ = some (.int .i64 0) := (part_cell hs 5 0 (by decide) (by decide) (.int .i64 0) rfl).1
 have p1 : w.cell? ⟨N + 6, 1, none⟩ = some (.int .i64 1) := (part_cell hs 5 1 (by decide) (by decide) (.int .i64 1) rfl).1
 have p2 : w.cell? ⟨N + 6, 2, none⟩ = some (.int .i64 2) := (part_cell hs 5 2 (by decide) (by decide) (.int .i64 2) rfl).1
 clear hb0 hs
 exact prf_ci

theorem checkInstr_7 (V F : Int) (s : Option Addr) (len cap N : Nat) (tto a b n g : Int) (w : World) (hV : 1 ≤ V) (hV' : V ≤ 8) (hF : 0 ≤ F) (hF' : F ≤ 3) (hL : len ≤ 60) (hs : ShpAt N shps w) :
  Calls Tryz.prog 97 #[.agg #[.int .i64 V, .int .i64 F, .slice s len cap], .map (some N), .agg #[.int .i64 7, .int .i64 tto, .int .i64 a, .int .i64 b, .int .i64 n, .int .i64 g]] w fun e w' => e = .returned (.int .i64 (ckOne V F len ⟨7, tto, a, b, n, g⟩)) ∧ Below w.heap.size w w' := by
 have hb0 : Below w.heap.size w ((w.alloc (.cells #[.int .i64 V, .int .i64 F, .slice s len cap] 24)).alloc (.cells #[.int .i64 7, .int .i64 tto, .int .i64 a, .int .i64 b, .int .i64 n, .int .i64 g] 51)) := by go_grown
 have hl : (Instr.lookup 127 (.map (some N)) (.int .i64 7) true).run Tryz.prog _ = .ok (.tuple #[.agg #[.string (wordB 7), .slice (some ⟨N + 7, 0, none⟩) 3 3], .bool true]) _ := look_at (hs.below hb0 (Nat.le_refl _)) 7 6 _ rfl
 have hz : N + 7 < w.heap.size := (part_cell hs 6 0 (by decide) (by decide) (.int .i64 0) rfl).2
 have p0 : w.cell? ⟨N + 7, 0, none⟩ = some (.int .i64 0) := (part_cell hs 6 0 (by decide) (by decide) (.int .i64 0) rfl).1
 have p1 : w.cell? ⟨N + 7, 1, none⟩ = some (.int .i64 1) := (part_cell hs 6 1 (by decide) (by decide) (.int .i64 1) rfl).1
 have p2 : w.cell? ⟨N + 7, 2, none⟩ = some (.int .i64 2) := (part_cell hs 6 2 (by decide) (by decide) (.int .i64 2) rfl).1
 clear hb0 hs
 exact prf_ci

theorem checkInstr_16 (V F : Int) (s : Option Addr) (len cap N : Nat) (tto a b n g : Int) (w : World) (hV : 1 ≤ V) (hV' : V ≤ 8) (hF : 0 ≤ F) (hF' : F ≤ 3) (hL : len ≤ 60) (hs : ShpAt N shps w) :
  Calls Tryz.prog 97 #[.agg #[.int .i64 V, .int .i64 F, .slice s len cap], .map (some N), .agg #[.int .i64 16, .int .i64 tto, .int .i64 a, .int .i64 b, .int .i64 n, .int .i64 g]] w fun e w' => e = .returned (.int .i64 (ckOne V F len ⟨16, tto, a, b, n, g⟩)) ∧ Below w.heap.size w w' := by
 have hb0 : Below w.heap.size w ((w.alloc (.cells #[.int .i64 V, .int .i64 F, .slice s len cap] 24)).alloc (.cells #[.int .i64 16, .int .i64 tto, .int .i64 a, .int .i64 b, .int .i64 n, .int .i64 g] 51)) := by go_grown
 have hl : (Instr.lookup 127 (.map (some N)) (.int .i64 16) true).run Tryz.prog _ = .ok (.tuple #[.agg #[.string (wordB 16), .slice (some ⟨N + 16, 0, none⟩) 1 1], .bool true]) _ := look_at (hs.below hb0 (Nat.le_refl _)) 16 15 _ rfl
 have hz : N + 16 < w.heap.size := (part_cell hs 15 0 (by decide) (by decide) (.int .i64 3) rfl).2
 have p0 : w.cell? ⟨N + 16, 0, none⟩ = some (.int .i64 3) := (part_cell hs 15 0 (by decide) (by decide) (.int .i64 3) rfl).1
 clear hb0 hs
 exact prf_ci

theorem checkInstr_17 (V F : Int) (s : Option Addr) (len cap N : Nat) (tto a b n g : Int) (w : World) (hV : 1 ≤ V) (hV' : V ≤ 8) (hF : 0 ≤ F) (hF' : F ≤ 3) (hL : len ≤ 60) (hs : ShpAt N shps w) :
  Calls Tryz.prog 97 #[.agg #[.int .i64 V, .int .i64 F, .slice s len cap], .map (some N), .agg #[.int .i64 17, .int .i64 tto, .int .i64 a, .int .i64 b, .int .i64 n, .int .i64 g]] w fun e w' => e = .returned (.int .i64 (ckOne V F len ⟨17, tto, a, b, n, g⟩)) ∧ Below w.heap.size w w' := by
 have hb0 : Below w.heap.size w ((w.alloc (.cells #[.int .i64 V, .int .i64 F, .slice s len cap] 24)).alloc (.cells #[.int .i64 17, .int .i64 tto, .int .i64 a, .int .i64 b, .int .i64 n, .int .i64 g] 51)) := by go_grown
 have hl : (Instr.lookup 127 (.map (some N)) (.int .i64 17) true).run Tryz.prog _ = .ok (.tuple #[.agg #[.string (wordB 17), .slice (some ⟨N + 17, 0, none⟩) 1 1], .bool true]) _ := look_at (hs.below hb0 (Nat.le_refl _)) 17 16 _ rfl
 have hz : N + 17 < w.heap.size := (part_cell hs 16 0 (by decide) (by decide) (.int .i64 1) rfl).2
 have p0 : w.cell? ⟨N + 17, 0, none⟩ = some (.int .i64 1) := (part_cell hs 16 0 (by decide) (by decide) (.int .i64 1) rfl).1
 clear hb0 hs
 exact prf_ci
end
end Go.Proofs.YtmapdpcfanecdabGreat
