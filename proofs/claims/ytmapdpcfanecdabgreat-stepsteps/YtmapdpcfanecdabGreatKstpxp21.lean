/- Walks over package code: the check of an instruction, kind by kind. -/
import Derived.Test.YtmapdpcfanecdabGreatKstpxp17
set_option linter.unusedSimpArgs false
set_option linter.unusedVariables false
namespace Go.Proofs.YtmapdpcfanecdabGreat
section
set_option maxHeartbeats 2000000
set_option maxRecDepth 20000
open Go.RowKit

theorem checkInstr_12 (V F : Int) (s : Option Addr) (len cap N : Nat) (tto a b n g : Int) (w : World) (hV : 1 ≤ V) (hV' : V ≤ 8) (hF : 0 ≤ F) (hF' : F ≤ 3) (hL : len ≤ 60) (hs : ShpAt N shps w) :
  Calls Tryz.prog 97 #[.agg #[.int .i64 V, .int .i64 F, .slice s len cap], .map (some N), .agg #[.int .i64 12, .int .i64 tto, .int .i64 a, .int .i64 b, .int .i64 n, .int .i64 g]] w fun e w' => e = .returned (.int .i64 (ckOne V F len ⟨12, tto, a, b, n, g⟩)) ∧ Below w.heap.size w w' := by
 have hb0 : Below w.heap.size w ((w.alloc (.cells #[.int .i64 V, .int .i64 F, .slice s len cap] 24)).alloc (.cells #[.int .i64 12, .int .i64 tto, .int .i64 a, .int .i64 b, .int .i64 n, .int .i64 g] 51)) := by go_grown
 have hl : (Instr.lookup 127 (.map (some N)) (.int .i64 12) true).run Tryz.prog _ = .ok (.tuple #[.agg #[.string (wordB 12), .slice (some ⟨N + 12, 0, none⟩) 3 3], .bool true]) _ := look_at (hs.below hb0 (Nat.le_refl _)) 12 11 _ rfl
 have hz : N + 12 < w.heap.size := (part_cell hs 11 0 (by decide) (by decide) (.int .i64 0) rfl).2
 have p0 : w.cell? ⟨N + 12, 0, none⟩ = some (.int .i64 0) := (part_cell hs 11 0 (by decide) (by decide) (.int .i64 0) rfl).1
 have p1 : w.cell? ⟨N + 12, 1, none⟩ = some (.int .i64 1) := (part_cell hs 11 1 (by decide) (by decide) (.int .i64 1) rfl).1
 have p2 : w.cell? ⟨N + 12, 2, none⟩ = some (.int .i64 7) := (part_cell hs 11 2 (by decide) (by decide) (.int .i64 7) rfl).1
 clear hb0 hs
 exact prf_ci

theorem checkInstr_13 (V F : Int) (s : Option Addr) (len cap N : Nat) (tto a b n g : Int) (w : World) (hV : 1 ≤ V) (hV' : V ≤ 8) (hF : 0 ≤ F) (hF' : F ≤ 3) (hL : len ≤ 60) (hs : ShpAt N shps w) :
  Calls Tryz.prog 97 #[.agg #[.int .i64 V, .int .i64 F, .slice s len cap], .map (some N), .agg #[.int .i64 13, .int .i64 tto, .int .i64 a, .int .i64 b, .int .i64 n, .int .i64 g]] w fun e w' => e = .returned (.int .i64 (ckOne V F len ⟨13, tto, a, b, n, g⟩)) ∧ Below w.heap.size w w' := by
 have hb0 : Below w.heap.size w ((w.alloc (.cells #[.int .i64 V, .int .i64 F, .slice s len cap] 24)).alloc (.cells #[.int .i64 13, .int .i64 tto, .int .i64 a, .int .i64 b, .int .i64 n, .int .i64 g] 51)) := by go_grown
 have hl : (Instr.lookup 127 (.map (some N)) (.int .i64 13) true).run Tryz.prog _ = .ok (.tuple #[.agg #[.string (wordB 13), .slice (some ⟨N + 13, 0, none⟩) 3 3], .bool true]) _ := look_at (hs.below hb0 (Nat.le_refl _)) 13 12 _ rfl
 have hz : N + 13 < w.heap.size := (part_cell hs 12 0 (by decide) (by decide) (.int .i64 1) rfl).2
 have p0 : w.cell? ⟨N + 13, 0, none⟩ = some (.int .i64 1) := (part_cell hs 12 0 (by decide) (by decide) (.int .i64 1) rfl).1
 have p1 : w.cell? ⟨N + 13, 1, none⟩ = some (.int .i64 7) := (part_cell hs 12 1 (by decide) (by decide) (.int .i64 7) rfl).1
 have p2 : w.cell? ⟨N + 13, 2, none⟩ = some (.int .i64 2) := (part_cell hs 12 2 (by decide) (by decide) (.int .i64 2) rfl).1
 clear hb0 hs
 exact prf_ci

theorem checkInstr_14 (V F : Int) (s : Option Addr) (len cap N : Nat) (tto a b n g : Int) (w : World) (hV : 1 ≤ V) (hV' : V ≤ 8) (hF : 0 ≤ F) (hF' : F ≤ 3) (hL : len ≤ 60) (hs : ShpAt N shps w) :
  Calls Tryz.prog 97 #[.agg #[.int .i64 V, .int .i64 F, .slice s len cap], .map (some N), .agg #[.int .i64 14, .int .i64 tto, .int .i64 a, .int .i64 b, .int .i64 n, .int .i64 g]] w fun e w' => e = .returned (.int .i64 (ckOne V F len ⟨14, tto, a, b, n, g⟩)) ∧ Below w.heap.size w w' := by
 have hb0 : Below w.heap.size w ((w.alloc (.cells #[.int .i64 V, .int .i64 F, .slice s len cap] 24)).alloc (.cells #[.int .i64 14, .int .i64 tto, .int .i64 a, .int .i64 b, .int .i64 n, .int .i64 g] 51)) := by go_grown
 have hl : (Instr.lookup 127 (.map (some N)) (.int .i64 14) true).run Tryz.prog _ = .ok (.tuple #[.agg #[.string (wordB 14), .slice (some ⟨N + 14, 0, none⟩) 2 2], .bool true]) _ := look_at (hs.below hb0 (Nat.le_refl _)) 14 13 _ rfl
 have hz : N + 14 < w.heap.size := (part_cell hs 13 0 (by decide) (by decide) (.int .i64 0) rfl).2
 have p0 : w.cell? ⟨N + 14, 0, none⟩ = some (.int .i64 0) := (part_cell hs 13 0 (by decide) (by decide) (.int .i64 0) rfl).1
 have p1 : w.cell? ⟨N + 14, 1, none⟩ = some (.int .i64 6) := (part_cell hs 13 1 (by decide) (by decide) (.int .i64 6) rfl).1
 clear hb0 hs
 exact prf_ci
end
end Go.Proofs.YtmapdpcfanecdabGreat
