/- Walks over package guess: the check of guesses. -/
import Derived.Test.YtmapdpcfanecdabGreatKstpxp10
import Derived.Test.YtmapdpcfanecdabGreatKstpxp08
set_option linter.unusedSimpArgs false
set_option linter.unusedVariables false
namespace Go.Proofs.YtmapdpcfanecdabGreat
section
set_option maxHeartbeats 2000000
set_option maxRecDepth 20000
open Go.RowKit

theorem checkInstr_5 (V F : Int) (s : Option Addr) (len cap N : Nat) (tto a b n g : Int) (w : World) (hV : 1 ≤ V) (hV' : V ≤ 8) (hF : 0 ≤ F) (hF' : F ≤ 3) (hL : len ≤ 60) (hs : ShpAt N shps w) :
  Calls Tryz.prog 97 #[.agg #[.int .i64 V, .int .i64 F, .slice s len cap], .map (some N), .agg #[.int .i64 5, .int .i64 tto, .int .i64 a, .int .i64 b, .int .i64 n, .int .i64 g]] w fun e w' => e = .returned (.int .i64 (ckOne V F len ⟨5, tto, a, b, n, g⟩)) ∧ Below w.heap.size w w' := by
 have hb0 : Below w.heap.size w ((w.alloc (.cells #[.int .i64 V, .int .i64 F, .slice s len cap] 24)).alloc (.cells #[.int .i64 5, .int .i64 tto, .int .i64 a, .int .i64 b, .int .i64 n, .int .i64 g] 51)) := by go_grown
 have hl : (Instr.lookup 127 (.map (some N)) (.int .i64 5) true).run Tryz.prog _ = .ok (.tuple #[.agg #[.string (wordB 5), .slice (some ⟨N + 5, 0, none⟩) 3 3], .bool true]) _ := look_at (hs.below hb0 (Nat.le_refl _)) 5 4 _ rfl
 have hz : N + 5 < w.heap.size := (part_cell hs 4 0 (by decide) (by decide) (.int .i64 0) rfl).2
 have p0 : w.cell? ⟨N + 5, 0, none⟩ = some (.int .i64 0) := (part_cell hs 4 0 (by decide) (by decide) (.int .i64 0) rfl).1
 have p1 : w.cell? ⟨N + 5, 1, none⟩ = some (.int .i64 1) := (part_cell hs 4 1 (by decide) (by decide) (.int .i64 1) rfl).1
 have p2 : w.cell? ⟨N + 5, 2, none⟩ = some (.int .i64 2) := (part_cell hs 4 2 (by decide) (by decide) (.int .i64 2) rfl).1
 clear hb0 hs
 exact prf_ci

theorem checkInstr_6 (V F : Int) (s : Option Addr) (len cap N : Nat) (tto a b n g : Int) (w : World) (hV : 1 ≤ V) (hV' : V ≤ 8) (hF : 0 ≤ F) (hF' : F ≤ 3) (hL : len ≤ 60) (hs : ShpAt N shps w) :
  Calls Tryz.prog 97 #[.agg #[.int .i64 V, .int .i64 F, .slice s len cap], .map (some N), .agg #[.int .i64 6, .int .i64 tto, .int .i64 a, .int .i64 b, .int .i64 n, .int .i64 g]] w fun e w' => e = .returned (.int .i64 (ckOne V F len ⟨6, tto, a, b, n, g⟩)) ∧ Below w.heap.size w w' := by
 have hb0 : Below w.heap.size w ((w.alloc (.cells #[.int .i64 V, .int .i64 F, .slice s len cap] 24)).alloc (.cells #[.int .i64 6, .int .i64 tto, .int .i64 a, .int .i64 b, .int .i64 n, .int .i64 g] 51)) := by go_grown
 have hl : (Instr.lookup 127 (.map (some N)) (.int .i64 6) true).run Tryz.prog _ = .ok (.tuple #[.agg #[.string (wordB 6), .slice (some ⟨N + 6, 0, none⟩) 3 3], .bool true]) _ := look_at (hs.below hb0 (Nat.le_refl _)) 6 5 _ rfl
 have hz : N + 6 < w.heap.size := (part_cell hs 5 0 (by decide) (by decide) (.int .i64 0) rfl).2
 have p0 : w.cell? ⟨N + 6, 0, none⟩ = some (.int .i64 0) := (part_cell hs 5 0 (by decide) (by decide) (.int .i64 0) rfl).1
 have p1 : w.cell? ⟨N + 6, 1, none⟩ = some (.int .i64 1) := (part_cell hs 5 1 (by decide) (by decide) (.int .i64 1) rfl).1
 have p2 : w.cell? ⟨N + 6, 2, none⟩ = some (.int .i64 2) := (part_cell hs 5 2 (by decide) (by decide) (.int .i64 2) rfl).1
 clear hb0 hs
 exact prf_ci

theorem checkInstr_7 (V F : Int) (s : Option Addr) (len cap N : Nat) (tto a b n g : Int) (w : World) (hV : 1 ≤ V) (hV' : V ≤ 8) (hF : 0 ≤ F) (hF' : F ≤ 3) (hL : len ≤ 60) (hs : ShpAt N shps w) :
  Calls Tryz.prog 97 #[.agg #[.int .i64 V, .int .i64 F, .slice s len cap], .map (some N), .agg #[.int .i64 7, .int .i64 tto, .int .i64 a, .int .i64 b, .int .i64 n, .int .i64 g]] w fun e w' => e = .returned (.int .i64 (ckOne V F len ⟨7, tto, a, b, n, g⟩)) ∧ Below w.heap.size w w' := by
 have hb0 : Below w.heap.size w ((w.alloc (.cells #[.int .i64 V, .int .i64 F, .slice s len cap] 24)).alloc (.cells #[.int .i64 7, .int .i64 tto, .int .i64 a, .int .i64 b, .int .i64 n, .int .i64 g] 51)) := by go_grown
 have hl : (Instr.lookup 127 (.map (some N)) (.int .i64 7) true).run Tryz.prog _ = .ok (.tuple #[.agg #[.string (wordB 7), .slice (some ⟨N + 7, 0, none⟩) 3 3], .bool true]) _ := look_at (hs.below hb0 (Nat.le_refl _)) 7 6 _ rfl
 have hz : N + 7 < w.heap.size := (part_cell hs 6 0 (by decide) (by decide) (.int .i64 0) rfl).2
 have p0 : w.cell? ⟨N + 7, 0, none⟩ = some (.int .i64 0) := (part_cell hs 6 0 (by decide) (by decide) (.int .i64 0) rfl).1
 have p1 : w.cell? ⟨N + 7, 1, none⟩ = some (.int .i64 1) := (part_cell hs 6 1 (by decide) (by decide) (.int .i64 1) rfl).1
 have p2 : w.cell? ⟨N + 7, 2, none⟩ = some (.int .i64 2) := (part_cell hs 6 2 (by decide) (by decide) (.int .i64 2) rfl).1
 clear hb0 hs
 exact prf_ci

theorem checkInstr_16 (V F : Int) (s : Option Addr) (len cap N : Nat) (tto a b n g : Int) (w : World) (hV : 1 ≤ V) (hV' : V ≤ 8) (hF : 0 ≤ F) (hF' : F ≤ 3) (hL : len ≤ 60) (hs : ShpAt N shps w) :
  Calls Tryz.prog 97 #[.agg #[.int .i64 V, .int .i64 F, .slice s len cap], .map (some N), .agg #[.int .i64 16, .int .i64 tto, .int .i64 a, .int .i64 b, .int .i64 n, .int .i64 g]] w fun e w' => e = .returned (.int .i64 (ckOne V F len ⟨16, tto, a, b, n, g⟩)) ∧ Below w.heap.size w w' := by
 have hb0 : Below w.heap.size w ((w.alloc (.cells #[.int .i64 V, .int .i64 F, .slice s len cap] 24)).alloc (.cells #[.int .i64 16, .int .i64 tto, .int .i64 a, .int .i64 b, .int .i64 n, .int .i64 g] 51)) := by go_grown
 have hl : (Instr.lookup 127 (.map (some N)) (.int .i64 16) true).run Tryz.prog _ = .ok (.tuple #[.agg #[.string (wordB 16), .slice (some ⟨N + 16, 0, none⟩) 1 1], .bool true]) _ := look_at (hs.below hb0 (Nat.le_refl _)) 16 15 _ rfl
 have hz : N + 16 < w.heap.size := (part_cell hs 15 0 (by decide) (by decide) (.int .i64 3) rfl).2
 have p0 : w.cell? ⟨N + 16, 0, none⟩ = some (.int .i64 3) := (part_cell hs 15 0 (by decide) (by decide) (.int .i64 3) rfl).1
 clear hb0 hs
 exact prf_ci

theorem checkInstr_17 (V F : Int) (s : Option Addr) (len cap N : Nat) (tto a b n g : Int) (w : World) (hV : 1 ≤ V) (hV' : V ≤ 8) (hF : 0 ≤ F) (hF' : F ≤ 3) (hL : len ≤ 60) (hs : ShpAt N shps w) :
  Calls Tryz.prog 97 #[.agg #[.int .i64 V, .int .i64 F, .slice s len cap], .map (some N), .agg #[.int .i64 17, .int .i64 tto, .int .i64 a, .int .i64 b, .int .i64 n, .int .i64 g]] w fun e w' => e = .returned (.int .i64 (ckOne V F len ⟨17, tto, a, b, n, g⟩)) ∧ Below w.heap.size w w' := by
 have hb0 : Below w.heap.size w ((w.alloc (.cells #[.int .i64 V, .int .i64 F, .slice s len cap] 24)).alloc (.cells #[.int .i64 17, .int .i64 tto, .int .i64 a, .int .i64 b, .int .i64 n, .int .i64 g] 51)) := by go_grown
 have hl : (Instr.lookup 127 (.map (some N)) (.int .i64 17) true).run Tryz.prog _ = .ok (.tuple #[.agg #[.string (wordB 17), .slice (some ⟨N + 17, 0, none⟩) 1 1], .bool true]) _ := look_at (hs.below hb0 (Nat.le_refl _)) 17 16 _ rfl
 have hz : N + 17 < w.heap.size := (part_cell hs 16 0 (by decide) (by decide) (.int .i64 1) rfl).2
 have p0 : w.cell? ⟨N + 17, 0, none⟩ = some (.int .i64 1) := (part_cell hs 16 0 (by decide) (by decide) (.int .i64 1) rfl).1
 clear hb0 hs
 exact prf_ci
end
section
set_option maxHeartbeats 2000000
set_option maxRecDepth 20000
open Go.RowKit

theorem checkInstr_8 (V F : Int) (s : Option Addr) (len cap N : Nat) (tto a b n g : Int) (w : World) (hV : 1 ≤ V) (hV' : V ≤ 8) (hF : 0 ≤ F) (hF' : F ≤ 3) (hL : len ≤ 60) (hs : ShpAt N shps w) :
  Calls Tryz.prog 97 #[.agg #[.int .i64 V, .int .i64 F, .slice s len cap], .map (some N), .agg #[.int .i64 8, .int .i64 tto, .int .i64 a, .int .i64 b, .int .i64 n, .int .i64 g]] w fun e w' => e = .returned (.int .i64 (ckOne V F len ⟨8, tto, a, b, n, g⟩)) ∧ Below w.heap.size w w' := by
 have hb0 : Below w.heap.size w ((w.alloc (.cells #[.int .i64 V, .int .i64 F, .slice s len cap] 24)).alloc (.cells #[.int .i64 8, .int .i64 tto, .int .i64 a, .int .i64 b, .int .i64 n, .int .i64 g] 51)) := by go_grown
 have hl : (Instr.lookup 127 (.map (some N)) (.int .i64 8) true).run Tryz.prog _ = .ok (.tuple #[.agg #[.string (wordB 8), .slice (some ⟨N + 8, 0, none⟩) 3 3], .bool true]) _ := look_at (hs.below hb0 (Nat.le_refl _)) 8 7 _ rfl
 have hz : N + 8 < w.heap.size := (part_cell hs 7 0 (by decide) (by decide) (.int .i64 0) rfl).2
 have p0 : w.cell? ⟨N + 8, 0, none⟩ = some (.int .i64 0) := (part_cell hs 7 0 (by decide) (by decide) (.int .i64 0) rfl).1
 have p1 : w.cell? ⟨N + 8, 1, none⟩ = some (.int .i64 1) := (part_cell hs 7 1 (by decide) (by decide) (.int .i64 1) rfl).1
 have p2 : w.cell? ⟨N + 8, 2, none⟩ = some (.int .i64 2) := (part_cell hs 7 2 (by decide) (by decide) (.int .i64 2) rfl).1
 clear hb0 hs
 exact prf_ci

theorem checkInstr_9 (V F : Int) (s : Option Addr) (len cap N : Nat) (tto a b n g : Int) (w : World) (hV : 1 ≤ V) (hV' : V ≤ 8) (hF : 0 ≤ F) (hF' : F ≤ 3) (hL : len ≤ 60) (hs : ShpAt N shps w) :
  Calls Tryz.prog 97 #[.agg #[.int .i64 V, .int .i64 F, .slice s len cap], .map (some N), .agg #[.int .i64 9, .int .i64 tto, .int .i64 a, .int .i64 b, .int .i64 n, .int .i64 g]] w fun e w' => e = .returned (.int .i64 (ckOne V F len ⟨9, tto, a, b, n, g⟩)) ∧ Below w.heap.size w w' := by
 have hb0 : Below w.heap.size w ((w.alloc (.cells #[.int .i64 V, .int .i64 F, .slice s len cap] 24)).alloc (.cells #[.int .i64 9, .int .i64 tto, .int .i64 a, .int .i64 b, .int .i64 n, .int .i64 g] 51)) := by go_grown
 have hl : (Instr.lookup 127 (.map (some N)) (.int .i64 9) true).run Tryz.prog _ = .ok (.tuple #[.agg #[.string (wordB 9), .slice (some ⟨N + 9, 0, none⟩) 3 3], .bool true]) _ := look_at (hs.below hb0 (Nat.le_refl _)) 9 8 _ rfl
 have hz : N + 9 < w.heap.size := (part_cell hs 8 0 (by decide) (by decide) (.int .i64 0) rfl).2
 have p0 : w.cell? ⟨N + 9, 0, none⟩ = some (.int .i64 0) := (part_cell hs 8 0 (by decide) (by decide) (.int .i64 0) rfl).1
 have p1 : w.cell? ⟨N + 9, 1, none⟩ = some (.int .i64 1) := (part_cell hs 8 1 (by decide) (by decide) (.int .i64 1) rfl).1
 have p2 : w.cell? ⟨N + 9, 2, none⟩ = some (.int .i64 2) := (part_cell hs 8 2 (by decide) (by decide) (.int .i64 2) rfl).1
 clear hb0 hs
 exact prf_ci

theorem checkInstr_10 (V F : Int) (s : Option Addr) (len cap N : Nat) (tto a b n g : Int) (w : World) (hV : 1 ≤ V) (hV' : V ≤ 8) (hF : 0 ≤ F) (hF' : F ≤ 3) (hL : len ≤ 60) (hs : ShpAt N shps w) :
  Calls Tryz.prog 97 #[.agg #[.int .i64 V, .int .i64 F, .slice s len cap], .map (some N), .agg #[.int .i64 10, .int .i64 tto, .int .i64 a, .int .i64 b, .int .i64 n, .int .i64 g]] w fun e w' => e = .returned (.int .i64 (ckOne V F len ⟨10, tto, a, b, n, g⟩)) ∧ Below w.heap.size w w' := by
 have hb0 : Below w.heap.size w ((w.alloc (.cells #[.int .i64 V, .int .i64 F, .slice s len cap] 24)).alloc (.cells #[.int .i64 10, .int .i64 tto, .int .i64 a, .int .i64 b, .int .i64 n, .int .i64 g] 51)) := by go_grown
 have hl : (Instr.lookup 127 (.map (some N)) (.int .i64 10) true).run Tryz.prog _ = .ok (.tuple #[.agg #[.string (wordB 10), .slice (some ⟨N + 10, 0, none⟩) 2 2], .bool true]) _ := look_at (hs.below hb0 (Nat.le_refl _)) 10 9 _ rfl
 have hz : N + 10 < w.heap.size := (part_cell hs 9 0 (by decide) (by decide) (.int .i64 0) rfl).2
 have p0 : w.cell? ⟨N + 10, 0, none⟩ = some (.int .i64 0) := (part_cell hs 9 0 (by decide) (by decide) (.int .i64 0) rfl).1
 have p1 : w.cell? ⟨N + 10, 1, none⟩ = some (.int .i64 1) := (part_cell hs 9 1 (by decide) (by decide) (.int .i64 1) rfl).1
 clear hb0 hs
 exact prf_ci

theorem checkInstr_15 (V F : Int) (s : Option Addr) (len cap N : Nat) (tto a b n g : Int) (w : World) (hV : 1 ≤ V) (hV' : V ≤ 8) (hF : 0 ≤ F) (hF' : F ≤ 3) (hL : len ≤ 60) (hs : ShpAt N shps w) :
  Calls Tryz.prog 97 #[.agg #[.int .i64 V, .int .i64 F, .slice s len cap], .map (some N), .agg #[.int .i64 15, .int .i64 tto, .int .i64 a, .int .i64 b, .int .i64 n, .int .i64 g]] w fun e w' => e = .returned (.int .i64 (ckOne V F len ⟨15, tto, a, b, n, g⟩)) ∧ Below w.heap.size w w' := by
 have hb0 : Below w.heap.size w ((w.alloc (.cells #[.int .i64 V, .int .i64 F, .slice s len cap] 24)).alloc (.cells #[.int .i64 15, .int .i64 tto, .int .i64 a, .int .i64 b, .int .i64 n, .int .i64 g] 51)) := by go_grown
 have hl : (Instr.lookup 127 (.map (some N)) (.int .i64 15) true).run Tryz.prog _ = .ok (.tuple #[.agg #[.string (wordB 15), .slice (some ⟨N + 15, 0, none⟩) 2 2], .bool true]) _ := look_at (hs.below hb0 (Nat.le_refl _)) 15 14 _ rfl
 have hz : N + 15 < w.heap.size := (part_cell hs 14 0 (by decide) (by decide) (.int .i64 1) rfl).2
 have p0 : w.cell? ⟨N + 15, 0, none⟩ = some (.int .i64 1) := (part_cell hs 14 0 (by decide) (by decide) (.int .i64 1) rfl).1
 have p1 : w.cell? ⟨N + 15, 1, none⟩ = some (.int .i64 3) := (part_cell hs 14 1 (by decide) (by decide) (.int .i64 3) rfl).1
 clear hb0 hs
 exact prf_ci

theorem checkInstr_18 (V F : Int) (s : Option Addr) (len cap N : Nat) (tto a b n g : Int) (w : World) (hV : 1 ≤ V) (hV' : V ≤ 8) (hF : 0 ≤ F) (hF' : F ≤ 3) (hL : len ≤ 60) (hs : ShpAt N shps w) :
  Calls Tryz.prog 97 #[.agg #[.int .i64 V, .int .i64 F, .slice s len cap], .map (some N), .agg #[.int .i64 18, .int .i64 tto, .int .i64 a, .int .i64 b, .int .i64 n, .int .i64 g]] w fun e w' => e = .returned (.int .i64 (ckOne V F len ⟨18, tto, a, b, n, g⟩)) ∧ Below w.heap.size w w' := by
 have hb0 : Below w.heap.size w ((w.alloc (.cells #[.int .i64 V, .int .i64 F, .slice s len cap] 24)).alloc (.cells #[.int .i64 18, .int .i64 tto, .int .i64 a, .int .i64 b, .int .i64 n, .int .i64 g] 51)) := by go_grown
 have hl : (Instr.lookup 127 (.map (some N)) (.int .i64 18) true).run Tryz.prog _ = .ok (.tuple #[.agg #[.string (wordB 18), .slice (some ⟨N + 18, 0, none⟩) 1 1], .bool true]) _ := look_at (hs.below hb0 (Nat.le_refl _)) 18 17 _ rfl
 have hz : N + 18 < w.heap.size := (part_cell hs 17 0 (by decide) (by decide) (.int .i64 1) rfl).2
 have p0 : w.cell? ⟨N + 18, 0, none⟩ = some (.int .i64 1) := (part_cell hs 17 0 (by decide) (by decide) (.int .i64 1) rfl).1
 clear hb0 hs
 exact prf_ci
end
section
set_option maxHeartbeats 2000000
set_option maxRecDepth 20000
open Go.RowKit

theorem checkInstr_12 (V F : Int) (s : Option Addr) (len cap N : Nat) (tto a b n g : Int) (w : World) (hV : 1 ≤ V) (hV' : V ≤ 8) (hF : 0 ≤ F) (hF' : F ≤ 3) (hL : len ≤ 60) (hs : ShpAt N shps w) :
  Calls Tryz.prog 97 #[.agg #[.int .i64 V, .int .i64 F, .slice s len cap], .map (some N), .agg #[.int .i64 12, .int .i64 tto, .int .i64 a, .int .i64 b, .int .i64 n, .int .i64 g]] w fun e w' => e = .returned (.int .i64 (ckOne V F len ⟨12, tto, a, b, n, g⟩)) ∧ Below w.heap.size w w' := by
 have hb0 : Below w.heap.size w ((w.alloc (.cells #[.int .i64 V, .int .i64 F, .slice s len cap] 24)).alloc (.cells #[.int .i64 12, .int .i64 tto, .int .i64 a, .int .i64 b, .int .i64 n, .int .i64 g] 51)) := by go_grown
 have hl : (Instr.lookup 127 (.map (some N)) (.int .i64 12) true).run Tryz.prog _ = .ok (.tuple #[.agg #[.string (wordB 12), .slice (some ⟨N + 12, 0, none⟩) 3 3], .bool true]) _ := look_at (hs.below hb0 (Nat.le_refl _)) 12 11 _ rfl
 have hz : N + 12 < w.heap.size := (part_cell hs 11 0 (by decide) (by decide) (.int .i64 0) rfl).2
 have p0 : w.cell? ⟨N + 12, 0, none⟩ = some (.int .i64 0) := (part_cell hs 11 0 (by decide) (by decide) (.int .i64 0) rfl).1
 have p1 : w.cell? ⟨N + 12, 1, none⟩ = some (.int .i64 1) := (part_cell hs 11 1 (by decide) (by decide) (.int .i64 1) rfl).1
 have p2 : w.cell? ⟨N + 12, 2, none⟩ = some (.int .i64 7) := (part_cell hs 11 2 (by decide) (by decide) (.int .i64 7) rfl).1
 clear hb0 hs
 exact prf_ci

theorem checkInstr_13 (V F : Int) (s : Option Addr) (len cap N : Nat) (tto a b n g : Int) (w : World) (hV : 1 ≤ V) (hV' : V ≤ 8) (hF : 0 ≤ F) (hF' : F ≤ 3) (hL : len ≤ 60) (hs : ShpAt N shps w) :
  Calls Tryz.prog 97 #[.agg #[.int .i64 V, .int .i64 F, .slice s len cap], .map (some N), .agg #[.int .i64 13, .int .i64 tto, .int .i64 a, .int .i64 b, .int .i64 n, .int .i64 g]] w fun e w' => e = .returned (.int .i64 (ckOne V F len ⟨13, tto, a, b, n, g⟩)) ∧ Below w.heap.size w w' := by
 have hb0 : Below w.heap.size w ((w.alloc (.cells #[.int .i64 V, .int .i64 F, .slice s len cap] 24)).alloc (.cells #[.int .i64 13, .int .i64 tto, .int .i64 a, .int .i64 b, .int .i64 n, .int .i64 g] 51)) := by go_grown
 have hl : (Instr.lookup 127 (.map (some N)) (.int .i64 13) true).run Tryz.prog _ = .ok (.tuple #[.agg #[.string (wordB 13), .slice (some ⟨N + 13, 0, none⟩) 3 3], .bool true]) _ := look_at (hs.below hb0 (Nat.le_refl _)) 13 12 _ rfl
 have hz : N + 13 < w.heap.size := (part_cell hs 12 0 (by decide) (by decide) (.int .i64 1) rfl).2
 have p0 : w.cell? ⟨N + 13, 0, none⟩ = some (.int .i64 1) := (part_cell hs 12 0 (by decide) (by decide) (.int .i64 1) rfl).1
 have p1 : w.cell? ⟨N + 13, 1, none⟩ = some (.int .i64 7) := (part_cell hs 12 1 (by decide) (by decide) (.int .i64 7) rfl).1
 have p2 : w.cell? ⟨N + 13, 2, none⟩ = some (.int .i64 2) := (part_cell hs 12 2 (by decide) (by decide) (.int .i64 2) rfl).1
 clear hb0 hs
 exact prf_ci

theorem checkInstr_14 (V F : Int) (s : Option Addr) (len cap N : Nat) (tto a b n g : Int) (w : World) (hV : 1 ≤ V) (hV' : V ≤ 8) (hF : 0 ≤ F) (hF' : F ≤ 3) (hL : len ≤ 60) (hs : ShpAt N shps w) :
  Calls Tryz.prog 97 #[.agg #[.int .i64 V, .int .i64 F, .slice s len cap], .map (some N), .agg #[.int .i64 14, .int .i64 tto, .int .i64 a, .int .i64 b, .int .i64 n, .int .i64 g]] w fun e w' => e = .returned (.int .i64 (ckOne V F len ⟨14, tto, a, b, n, g⟩)) ∧ Below w.heap.size w w' := by
 have hb0 : Below w.heap.size w ((w.alloc (.cells #[.int .i64 V, .int .i64 F, .slice s len cap] 24)).alloc (.cells #[.int .i64 14, .int .i64 tto, .int .i64 a, .int .i64 b, .int .i64 n, .int .i64 g] 51)) := by go_grown
 have hl : (Instr.lookup 127 (.map (some N)) (.int .i64 14) true).run Tryz.prog _ = .ok (.tuple #[.agg #[.string (wordB 14), .slice (some ⟨N + 14, 0, none⟩) 2 2], .bool true]) _ := look_at (hs.below hb0 (Nat.le_refl _)) 14 13 _ rfl
 have hz : N + 14 < w.heap.size := (part_cell hs 13 0 (by decide) (by decide) (.int .i64 0) rfl).2
 have p0 : w.cell? ⟨N + 14, 0, none⟩ = some (.int .i64 0) := (part_cell hs 13 0 (by decide) (by decide) (.int .i64 0) rfl).1
 have p1 : w.cell? ⟨N + 14, 1, none⟩ = some (.int .i64 6) := (part_cell hs 13 1 (by decide) (by decide) (.int .i64 6) rfl).1
 clear hb0 hs
 exact prf_ci
end
section
set_option maxHeartbeats 1000000
open Go.RowKit

theorem checkInstr_any (V F : Int) (s : Option Addr) (len cap N : Nat) (i : Ins) (w : World) (hV : 1 ≤ V) (hV' : V ≤ 8) (hF : 0 ≤ F) (hF' : F ≤ 3) (hL : len ≤ 60) (hs : ShpAt N shps w) :
  Calls Tryz.prog 97 #[.agg #[.int .i64 V, .int .i64 F, .slice s len cap], .map (some N), .agg #[.int .i64 i.k, .int .i64 i.to, .int .i64 i.a, .int .i64 i.b, .int .i64 i.n, .int .i64 i.g]] w fun e w' => e = .returned (.int .i64 (ckOne V F len i)) ∧ Below w.heap.size w w' := by
 obtain ⟨k, tto, a, b, n, g⟩ := i
 by_cases h : btw k 1 19 = true
 ·rcases btw_cases h with rfl | rfl | rfl | rfl | rfl | rfl | rfl | rfl | rfl | rfl | rfl | rfl | rfl | rfl | rfl | rfl | rfl | rfl | rfl
  ·exact checkInstr_1 V F s len cap N tto a b n g w hV hV' hF hF' hL hs
  ·exact checkInstr_2 V F s len cap N tto a b n g w hV hV' hF hF' hL hs
  ·exact checkInstr_3 V F s len cap N tto a b n g w hV hV' hF hF' hL hs
  ·exact checkInstr_4 V F s len cap N tto a b n g w hV hV' hF hF' hL hs
  ·exact checkInstr_5 V F s len cap N tto a b n g w hV hV' hF hF' hL hs
  ·exact checkInstr_6 V F s len cap N tto a b n g w hV hV' hF hF' hL hs
  ·exact checkInstr_7 V F s len cap N tto a b n g w hV hV' hF hF' hL hs
  ·exact checkInstr_8 V F s len cap N tto a b n g w hV hV' hF hF' hL hs
  ·exact checkInstr_9 V F s len cap N tto a b n g w hV hV' hF hF' hL hs
  ·exact checkInstr_10 V F s len cap N tto a b n g w hV hV' hF hF' hL hs
  ·exact checkInstr_11 V F s len cap N tto a b n g w hV hV' hF hF' hL hs
  ·exact checkInstr_12 V F s len cap N tto a b n g w hV hV' hF hF' hL hs
  ·exact checkInstr_13 V F s len cap N tto a b n g w hV hV' hF hF' hL hs
  ·exact checkInstr_14 V F s len cap N tto a b n g w hV hV' hF hF' hL hs
  ·exact checkInstr_15 V F s len cap N tto a b n g w hV hV' hF hF' hL hs
  ·exact checkInstr_16 V F s len cap N tto a b n g w hV hV' hF hF' hL hs
  ·exact checkInstr_17 V F s len cap N tto a b n g w hV hV' hF hF' hL hs
  ·exact checkInstr_18 V F s len cap N tto a b n g w hV hV' hF hF' hL hs
  ·exact checkInstr_19 V F s len cap N tto a b n g w hV hV' hF hF' hL hs
 ·exact checkInstr_no V F s len cap N k tto a b n g w hV hV' hF hF' hL hs (by simpa using h)

theorem check_loop (V F : Int) (b off cap : Nat) (c : List Ins) (w : World) (hV : 1 ≤ V) (hV' : V ≤ 8) (hF : 0 ≤ F) (hF' : F ≤ 3) (hL : c.length ≤ 60) (hb : b < w.heap.size) (hc : ∀ k (h : k < c.length), InsAt w b (off + k * 6) c[k]) :
  Calls Tryz.prog 64 #[.agg #[.int .i64 V, .int .i64 F, .slice (some ⟨b, off, none⟩) c.length cap]] w fun e w' => e = .returned (.int .i64 (ckAll V F c.length c)) ∧ Below w.heap.size w w' := by
 have hl60 : (c.length : Int) ≤ 60 := by omega
 have hbox : Below w.heap.size w (w.alloc (.cells #[.int .i64 V, .int .i64 F, .slice (some ⟨b, off, none⟩) c.length cap] 24)) := by go_grown
 go_enter Tryz.func64, Tryz.ntmps64
 go_wp2_with (go_at_call 96; refine (shapes_any _).mono ?_; rintro e w1 ⟨rfl, hs1, hb1⟩; obtain ⟨hc1, hf1⟩ := bcell hb1; have q2 : w1.cell? ⟨w.heap.size, 2, none⟩ = some (.slice (some ⟨b, off, none⟩) c.length cap) := (by rw [hb1.cell (by simp)]; simp [go_sem]))
 simp only [World.size_alloc] at hs1
 have q0 : w1.cell? ⟨w.heap.size, 0, none⟩ = some (.int .i64 V) := by rw [hb1.cell (by simp)]; simp [go_sem]
 have q1 : w1.cell? ⟨w.heap.size, 1, none⟩ = some (.int .i64 F) := by rw [hb1.cell (by simp)]; simp [go_sem]
 clear hc1 hf1
 have z1 : w.heap.size + 1 ≤ w1.heap.size := by have := hb1.size; simp at this; omega
 have hbw : Below w.heap.size w w1 := hbox.trans (hb1.mono (by simp))
 go_loopw [35] (fun i wr => ∃ k : Nat, k ≤ c.length ∧ i = .int .i64 k ∧ Below w1.heap.size w1 wr ∧ Hid (ckAll V F c.length (c.drop k) = ckAll V F c.length c)) (fun i _ => c.length - (intOf i).toNat)
 case atStart => exact ⟨0, Nat.zero_le _, rfl, Below.refl _ _, rfl⟩
 case round =>
  obtain ⟨k, hk, rfl, hbr, HR⟩ := hrel
  have r0 : wr.cell? ⟨w.heap.size, 0, none⟩ = some (.int .i64 V) := by rw [hbr.cell (by simp; omega)]; exact q0
  have r1 : wr.cell? ⟨w.heap.size, 1, none⟩ = some (.int .i64 F) := by rw [hbr.cell (by simp; omega)]; exact q1
  have r2 : wr.cell? ⟨w.heap.size, 2, none⟩ = some (.slice (some ⟨b, off, none⟩) c.length cap) := by rw [hbr.cell (by simp; omega)]; exact q2
  have s0 : w1.heap.size ≤ wr.heap.size := hbr.size
  have s1 : w.heap.size < wr.heap.size := by omega
  have s2 : b < wr.heap.size := by omega
  by_cases hlt : k < c.length
  ·have hi : InsAt wr b (off + k * 6) c[k] := ((hc k hlt).below hbw hb).below hbr (by omega)
   obtain ⟨i0, i1, i2, i3, i4, i5⟩ := hi
   have n0 : (0 : Int) ≤ (k : Int) := by omega
   have n1 : (k : Int) < (c.length : Int) := by omega
   clear q0 q1 q2
   have HS := ckAll_step (V := V) (F := F) (L := c.length) hlt
   by_cases hz : ckOne V F c.length c[k] = 0
   ·have HC : Hid (ckAll V F c.length (c.drop (k + 1)) = ckAll V F c.length c) := by have := HR.out; rw [HS, if_pos hz] at this; exact this
    clear HS HR
    go_wp2_with (go_at_call 97; refine (checkInstr_any V F _ _ _ _ c[k] _ hV hV' hF hF' hL ?hs).mono ?_; (case hs => exact hs1.below (hbr.alloc s0 _) (Nat.le_refl _)); rintro e w2 ⟨rfl, hb2⟩)
    go_roundw
    case rel => exact ⟨k + 1, by omega, by go_num, (hbr.alloc s0 _).trans (hb2.mono (by simp; omega)), HC⟩
    case measure => simp [intOf]; omega
   ·rw [if_neg hz] at HS
    have HC : Hid (ckOne V F c.length c[k] = ckAll V F c.length c) := by have := HR.out; rw [HS] at this; exact this
    have hz' : (ckOne V F c.length c[k] != 0) = true := by simpa using hz
    clear HS HR
    go_wp2_with (go_at_call 97; refine (checkInstr_any V F _ _ _ _ c[k] _ hV hV' hF hF' hL ?hs).mono ?_; (case hs => exact hs1.below (hbr.alloc s0 _) (Nat.le_refl _)); rintro e w2 ⟨rfl, hb2⟩)
    go_ret
    exact ⟨ret_int HC.out, hbw.trans (((hbr.alloc s0 _).trans (hb2.mono (by simp; omega))).mono (by omega))⟩
  ·go_wp2
   go_ret
   exact ⟨ret_int (by have := HR.out; rw [List.drop_eq_nil_of_le (by omega)] at this; exact this), hbw.trans (hbr.mono (by omega))⟩

theorem check_nil (V F : Int) (s : Option Addr) (cap : Nat) (w : World) (hV : 1 ≤ V) (hV' : V ≤ 8) (hF : 0 ≤ F) (hF' : F ≤ 3) :
  Calls Tryz.prog 64 #[.agg #[.int .i64 V, .int .i64 F, .slice s 0 cap]] w fun e w' => e = .returned (.int .i64 0) ∧ Below w.heap.size w w' := by
 have hbox : Below w.heap.size w (w.alloc (.cells #[.int .i64 V, .int .i64 F, .slice s 0 cap] 24)) := by go_grown
 go_enter Tryz.func64, Tryz.ntmps64
 go_wp2_with (go_at_call 96; refine (shapes_any _).mono ?_; rintro e w1 ⟨rfl, hs1, hb1⟩; have q2 : w1.cell? ⟨w.heap.size, 2, none⟩ = some (.slice s 0 cap) := (by rw [hb1.cell (by simp)]; simp [go_sem]))
 go_rounds 1
 go_ret
 exact ⟨rfl, hbox.trans (hb1.mono (by simp))⟩

theorem check_many (V F : Int) (s : Option Addr) (len cap : Nat) (w : World) (hV : 1 ≤ V) (hV' : V ≤ 8) (hF : 0 ≤ F) (hF' : F ≤ 3) (hl : 60 < len) :
  Calls Tryz.prog 64 #[.agg #[.int .i64 V, .int .i64 F, .slice s len cap]] w fun e w' => e = .returned (.int .i64 2) ∧ Below w.heap.size w w' := by
 have t3 : (60 : Int) < (len : Int) := by omega
 go_enter Tryz.func64, Tryz.ntmps64
 go_wp2
 go_ret
 exact ⟨rfl, by go_grown⟩

theorem check_range (V F : Int) (s : Option Addr) (len cap : Nat) (w : World) (h : ¬ (1 ≤ V ∧ V ≤ 8 ∧ 0 ≤ F ∧ F ≤ 3)) :
  Calls Tryz.prog 64 #[.agg #[.int .i64 V, .int .i64 F, .slice s len cap]] w fun e w' => e = .returned (.int .i64 3) ∧ Below w.heap.size w w' := by
 by_cases h1 : V < 1
 ·clear h
  go_enter Tryz.func64, Tryz.ntmps64
  go_wp2
  go_ret
  exact ⟨rfl, by go_grown⟩
 by_cases h2 : 8 < V
 ·clear h
  go_enter Tryz.func64, Tryz.ntmps64
  go_wp2
  go_ret
  exact ⟨rfl, by go_grown⟩
 by_cases h3 : F < 0
 ·clear h
  go_enter Tryz.func64, Tryz.ntmps64
  go_wp2
  go_ret
  exact ⟨rfl, by go_grown⟩
 ·have h4 : 3 < F := by omega
  clear h
  go_enter Tryz.func64, Tryz.ntmps64
  go_wp2
  go_ret
  exact ⟨rfl, by go_grown⟩

/-- The program's check of a program, whatever it is handed. -/
theorem codeCheck_any (V F : Int) (s : Option Addr) (cap : Nat) (c : List Ins) (w : World) (h : CodeAt w s c) :
  Calls Tryz.prog 64 #[.agg #[.int .i64 V, .int .i64 F, .slice s c.length cap]] w fun e w' => e = .returned (.int .i64 (ckProg V F c)) ∧ Below w.heap.size w w' := by
 unfold ckProg
 by_cases hr : 1 ≤ V ∧ V ≤ 8 ∧ 0 ≤ F ∧ F ≤ 3
 ·obtain ⟨hV, hV', hF, hF'⟩ := hr
  have t1 : btw V 1 8 = true := btw_true hV hV'
  have t2 : btw F 0 3 = true := btw_true hF hF'
  by_cases hl : 60 < c.length
  ·simpa [t1, t2, hl] using check_many V F s c.length cap w hV hV' hF hF' hl
  ·rcases h with rfl | ⟨b, off, rfl, hb, hc⟩
   ·simpa [t1, t2, ckAll] using check_nil V F s cap w hV hV' hF hF'
   ·simpa [t1, t2, hl] using check_loop V F b off cap c w hV hV' hF hF' (by omega) hb hc
 ·have : btw V 1 8 = false ∨ btw F 0 3 = false := by
   by_cases h1 : 1 ≤ V ∧ V ≤ 8
   ·right; simp [btw]; omega
   ·left; simp [btw]; omega
  rcases this with t | t
  ·simpa [t] using check_range V F s c.length cap w hr
  ·simpa [t] using check_range V F s c.length cap w hr
end
section
set_option maxHeartbeats 2000000
set_option maxRecDepth 10000
open Go.RowKit

theorem ckProg_60 {V F : Int} {c : List Ins} (h : ckProg V F c = 0) : c.length ≤ 60 := by
 unfold ckProg at h
 split at h
 ·cases h
 ·split at h
  ·cases h
  ·omega

theorem ckGss_drop (c : List Ins) (L : List Gs) (k : Nat) (h : k < L.length) : ckGss c (L.drop k) = if ckGs c L[k] = 0 then ckGss c (L.drop (k + 1)) else ckGs c L[k] := by
 rw [List.drop_eq_getElem_cons h]; rfl

theorem checkAllG_any (V F : Int) (s : Option Addr) (c : List Ins) (cap : Nat) (ls : Option Addr) (L : List Gs) (lc : Nat) (w : World) (hc : CodeAt w s c) (hL : GsAt w ls L) (hl : L.length ≤ 9223372036854775807) :
  Calls Tryz.prog 114 #[pv V F s c cap, .slice ls L.length lc] w fun e w' => e = .returned (.int .i64 (ckAllG V F c L)) ∧ Below w.heap.size w w' := by
 have P0 := PrAt.new w V F s c cap
 have C0 := hc.alloc (.cells #[.int .i64 V, .int .i64 F, .slice s c.length cap] 24)
 have L0 := hL.alloc (.cells #[.int .i64 V, .int .i64 F, .slice s c.length cap] 24)
 have B0 : Below w.heap.size w (w.alloc (.cells #[.int .i64 V, .int .i64 F, .slice s c.length cap] 24)) := by go_grown
 have HR : Hid (ckAllG V F c L = if ckProg V F c = 0 then ckGss c L else ckProg V F c) := rfl
 clear hc hL
 go_enter Tryz.func114, Tryz.ntmps114
 go_wp2_with (go_at_call 64; fail)
 refine (codeCheck_any V F s cap c _ C0).mono ?_
 rintro e w1 ⟨rfl, hb1⟩
 have P1 := P0.call hb1
 have C1 := C0.call hb1
 have L1 := L0.call hb1
 have B1 : Below w.heap.size w w1 := B0.trans (hb1.mono (by simp))
 clear hb1 P0 C0 L0 B0
 by_cases h0 : ckProg V F c = 0
 ·have h60 := ckProg_60 h0
  have HF : Hid (ckAllG V F c L = ckGss c L) := by show _ = _; rw [HR.out, if_pos h0]
  rw [h0]
  clear HR h0
  go_wp2
  go_loopw [16] (fun i wr => ∃ k : Nat, k ≤ L.length ∧ i = .int .i64 k ∧ PrAt wr w.heap.size V F s c cap ∧ CodeAt wr s c ∧ GsAt wr ls L ∧ Below w.heap.size w wr ∧ Hid (ckGss c (L.drop k) = ckGss c L)) (fun i _ => L.length - (intOf i).toNat)
  case atStart => exact ⟨0, Nat.zero_le _, rfl, P1, C1, L1, B1, rfl⟩
  case round =>
   obtain ⟨k, hk, rfl, PR, CR, LR, BR, HK⟩ := hrel
   clear P1 C1 L1 B1
   by_cases hlt : k < L.length
   ·obtain ⟨b, off, rfl, ss, gc, GR, IR, hg1, hg2⟩ := LR k hlt
    obtain ⟨⟨p0, p1, p2⟩, p3⟩ := id PR
    obtain ⟨⟨g0, g1, g2, g3, g4, g5, g6⟩, gz⟩ := id GR
    have n0 : (0 : Int) ≤ (k : Int) := by omega
    have n1 : (k : Int) < (L.length : Int) := by omega
    have HS := hideH (ckGss_drop c L k hlt)
    unfold maxLen at hg2
    have PA := PR.alloc (.cells #[.bool L[k].n, .bool L[k].sp.n, .int .i64 L[k].sp.lo, .int .i64 L[k].sp.hi, .bool L[k].t, .bool L[k].f, .slice ss L[k].s.length gc] 61)
    have CA := CR.alloc (.cells #[.bool L[k].n, .bool L[k].sp.n, .int .i64 L[k].sp.lo, .int .i64 L[k].sp.hi, .bool L[k].t, .bool L[k].f, .slice ss L[k].s.length gc] 61)
    have LA := LR.alloc (.cells #[.bool L[k].n, .bool L[k].sp.n, .int .i64 L[k].sp.lo, .int .i64 L[k].sp.hi, .bool L[k].t, .bool L[k].f, .slice ss L[k].s.length gc] 61)
    have IA := IR.alloc (.cells #[.bool L[k].n, .bool L[k].sp.n, .int .i64 L[k].sp.lo, .int .i64 L[k].sp.hi, .bool L[k].t, .bool L[k].f, .slice ss L[k].s.length gc] 61)
    have BA := BR.alloc BR.size (.cells #[.bool L[k].n, .bool L[k].sp.n, .int .i64 L[k].sp.lo, .int .i64 L[k].sp.hi, .bool L[k].t, .bool L[k].f, .slice ss L[k].s.length gc] 61)
    clear PR CR LR IR BR GR
    go_wp2_with (go_at_call 141; fail)
    refine (checkParts_any V F s c cap L[k] ss gc _ CA h60 IA (by omega)).mono ?_
    rintro e w2 ⟨rfl, hb2⟩
    have P2 := PA.call hb2
    have C2 := CA.call hb2
    have L2 := LA.call hb2
    have B2 := BA.trans (hb2.mono BA.size)
    clear hb2 PA CA LA IA BA
    by_cases hz : ckGs c L[k] = 0
    ·have HT : Hid (ckGss c (L.drop (k + 1)) = ckGss c L) := by show _ = _; rw [← HK.out, HS.out, if_pos hz]
     rw [hz]
     clear HK HS hz
     go_wp2
     go_roundw
     case rel => exact ⟨k + 1, by omega, by go_num, P2, C2, L2, B2, HT⟩
     case measure => simp [intOf]; omega
    ·have HT : Hid (ckGs c L[k] = ckGss c L) := by show _ = _; rw [← HK.out, HS.out, if_neg hz]
     have hne : (ckGs c L[k] != 0) = true := by simpa using hz
     clear HK HS
     go_wp2
     go_ret
     exact ⟨ret_int (by rw [HF.out, HT.out]), B2⟩
   ·go_wp2
    go_ret
    exact ⟨ret_int (by rw [HF.out, ← HK.out, List.drop_eq_nil_of_le (by omega)]; rfl), BR⟩
 ·have HF : Hid (ckAllG V F c L = ckProg V F c) := by show _ = _; rw [HR.out, if_neg h0]
  have hne : (ckProg V F c != 0) = true := by simpa using h0
  clear HR
  go_wp2
  go_ret
  exact ⟨ret_int HF.out.symm, B1⟩
end
end Go.Proofs.YtmapdpcfanecdabGreat
