/- Walks over package code: lines of instructions that are right. -/
import Derived.Test.YtmapdpcfanecdaaDoorKlawpbp34
namespace Go.Proofs.YtmapdpcfanecdaaDoor
set_option linter.unusedVariables false
set_option linter.unusedSimpArgs false
open Go.RowKit

def line_print : ByteArray := ⟨#[112, 114, 105, 110, 116, 32, 48]⟩
theorem print_count : Lib.countB line_print ⟨#[32]⟩ + 1 = 2 := by decide +kernel
theorem print_split : Lib.splitB ⟨#[32]⟩ 0 (Lib.countB line_print ⟨#[32]⟩) line_print = [⟨#[112, 114, 105, 110, 116]⟩, ⟨#[48]⟩] := by decide +kernel

set_option maxHeartbeats 1000000 in
set_option maxRecDepth 20000 in
theorem parseInstr_print (N : Nat) (w : World) (hs : ShpAt N shps w) (ht : Tab w) (hm : Cap w) :
    Calls Tryd.prog 70 #[.map (some N), .string line_print] w fun e w' => e = .returned (.tuple #[.agg #[.int .i64 18, .int .i64 0, .int .i64 0, .int .i64 0, .int .i64 0, .int .i64 0], .bool true]) ∧ Below w.heap.size w w' := by
  have hb1 : Below w.heap.size w (w.alloc (.cells #[.int .i64 0, .int .i64 0, .int .i64 0, .int .i64 0, .int .i64 0, .int .i64 0] 71)) := by go_grown
  have hb3 : Below w.heap.size w (((w.alloc (.cells #[.int .i64 0, .int .i64 0, .int .i64 0, .int .i64 0, .int .i64 0, .int .i64 0] 71)).alloc (.cells #[.string ⟨#[112, 114, 105, 110, 116]⟩, .string ⟨#[48]⟩] 9)).alloc (.cells #[.slice (some ⟨w.heap.size + 1, 0, none⟩) 2 2] 44)) := by go_grown
  have hsp := split_words line_print [⟨#[112, 114, 105, 110, 116]⟩, ⟨#[48]⟩] _ (hm.below hb1) (by decide) print_count print_split
  have hfi := find_at 18 N (w.heap.size + 2) (w.heap.size + 1) 2 2 (((w.alloc (.cells #[.int .i64 0, .int .i64 0, .int .i64 0, .int .i64 0, .int .i64 0, .int .i64 0] 71)).alloc (.cells #[.string ⟨#[112, 114, 105, 110, 116]⟩, .string ⟨#[48]⟩] 9)).alloc (.cells #[.slice (some ⟨w.heap.size + 1, 0, none⟩) 2 2] 44)) (by decide) (by decide) (hs.below hb3 (Nat.le_refl _)) (by decide) (by simp) (by simp) (by simp [go_sem]) (by simp [go_sem]; rfl) rfl
  have hz : N + 18 < w.heap.size := (part_cell hs 17 0 (by decide) (by decide) (.int .i64 1) rfl).2
  have p0 : w.cell? ⟨N + 18, 0, none⟩ = some (.int .i64 1) := (part_cell hs 17 0 (by decide) (by decide) (.int .i64 1) rfl).1
  have ha0 : Lib.atoiAll (⟨#[48]⟩ : ByteArray).data.toList = .ok 0 := by decide +kernel
  have hi0 : itoaB 0 = ⟨#[48]⟩ := by decide +kernel
  go_enter Tryd.func70, Tryd.ntmps70
  go_wp2_with (first | (go_at_call 91; refine hsp.mono ?_; rintro e w0 ⟨rfl, rfl⟩) | (go_at_call 93; fail))
  refine hfi.mono ?_
  rintro e w1 ⟨rfl, hw1⟩
  have s1 : w.heap.size + 3 ≤ w1.heap.size := by have := hw1.size; simp at this; omega
  have t0 : w.heap.size < w1.heap.size := by omega
  have t1 : w.heap.size + 1 < w1.heap.size := by omega
  have t2 : w.heap.size + 1 + 1 < w1.heap.size := by omega
  have t3 : N + 18 < w1.heap.size := by omega
  have HW1 : Below w.heap.size w w1 := hb3.trans (hw1.mono (by go_size))
  have a1 : w1.cell? ⟨w.heap.size + 1, 1, none⟩ = some (.string ⟨#[48]⟩) := by rw [hw1.cell (by simp)]; simp [go_sem]
  have av : w1.cell? ⟨w.heap.size + 1 + 1, 0, none⟩ = some (.slice (some ⟨w.heap.size + 1, 0, none⟩) 2 2) := by rw [hw1.cell (by simp)]; simp [go_sem]
  have r : ∀ j, j < 6 → w1.cell? ⟨w.heap.size, j, none⟩ = some (.int .i64 0) := by
    intro j hj
    rw [hw1.cell (by simp; omega)]
    match j, hj with
    | 0, _ => simp [go_sem]
    | 1, _ => simp [go_sem]
    | 2, _ => simp [go_sem]
    | 3, _ => simp [go_sem]
    | 4, _ => simp [go_sem]
    | 5, _ => simp [go_sem]
  have fr : ∀ j, w1.frozen? ⟨w.heap.size, j, none⟩ = false := fun j => by rw [hw1.frozen (by simp; omega)]; simp [go_sem]
  have P0 : w1.cell? ⟨N + 18, 0, none⟩ = some (.int .i64 1) := by rw [HW1.cell hz]; exact p0
  have hl : (Instr.lookup 60 (.map (some N)) (.int .i64 18) false).run Tryd.prog _ = .ok (.agg #[.string (wordB 18), .slice (some ⟨N + 18, 0, none⟩) 1 1]) _ := look_val ((hs.below HW1 (Nat.le_refl _)).below (Below.alloc (Below.refl _ w1) (Nat.le_refl _) (.cells #[.int .i64 18, .int .i64 0, .int .i64 0, .int .i64 0, .int .i64 0, .int .i64 0] 71)) (Nat.le_refl _)) 18 17 _ rfl
  have hfld : ∀ wx : World, (Instr.field 105 (.agg #[.string (wordB 18), .slice (some ⟨N + 18, 0, none⟩) 1 1]) 1).run Tryd.prog wx = .ok (.slice (some ⟨N + 18, 0, none⟩) 1 1) wx := fun _ => by kernel_rfl
  clear hsp hfi p0
  go_wp2
  refine wp_loop_rounds 2 ?_
  rw [rounds_succ]
  go_wp2_with (go_at_call 92; fail)
  have D0 : Below w1.heap.size w1 (w1.alloc (.cells #[.int .i64 18, .int .i64 0, .int .i64 0, .int .i64 0, .int .i64 0, .int .i64 0] 71)) := (Below.alloc (Below.refl _ w1) (Nat.le_refl _) _)
  refine (parseNumber_ok ⟨#[48]⟩ 0 _ ha0 ⟨by decide, by decide⟩ hi0 (by decide) (ht.below (HW1.trans (D0.mono (by omega))))).mono ?_
  rintro e u0 ⟨rfl, hu0⟩
  have HU0 : Below w1.heap.size w1 u0 := D0.trans (hu0.mono D0.size)
  have S0 : w1.heap.size < u0.heap.size := by have := hu0.size; simp at this; omega
  have P0_0 : u0.cell? ⟨N + 18, 0, none⟩ = some (.int .i64 1) := by rw [HU0.cell t3]; exact P0
  have a1_0 : u0.cell? ⟨w.heap.size + 1, 1, none⟩ = some (.string ⟨#[48]⟩) := by rw [HU0.cell t1]; exact a1
  have av_0 : u0.cell? ⟨w.heap.size + 1 + 1, 0, none⟩ = some (.slice (some ⟨w.heap.size + 1, 0, none⟩) 2 2) := by rw [HU0.cell t2]; exact av
  have t0_0 : w.heap.size < u0.heap.size := by omega
  have t1_0 : w.heap.size + 1 < u0.heap.size := by omega
  have t2_0 : w.heap.size + 1 + 1 < u0.heap.size := by omega
  have t3_0 : N + 18 < u0.heap.size := by omega
  have fx_0 : ∀ k, u0.frozen? ⟨w1.heap.size, k, none⟩ = false := fun k => by rw [hu0.frozen (by simp)]; simp [go_sem]
  have x0_0 : u0.cell? ⟨w1.heap.size, 0, none⟩ = some (.int .i64 18) := by rw [hu0.cell (by simp)]; simp [go_sem]
  have x1_0 : u0.cell? ⟨w1.heap.size, 1, none⟩ = some (.int .i64 0) := by rw [hu0.cell (by simp)]; simp [go_sem]
  have x2_0 : u0.cell? ⟨w1.heap.size, 2, none⟩ = some (.int .i64 0) := by rw [hu0.cell (by simp)]; simp [go_sem]
  have x3_0 : u0.cell? ⟨w1.heap.size, 3, none⟩ = some (.int .i64 0) := by rw [hu0.cell (by simp)]; simp [go_sem]
  have x4_0 : u0.cell? ⟨w1.heap.size, 4, none⟩ = some (.int .i64 0) := by rw [hu0.cell (by simp)]; simp [go_sem]
  have x5_0 : u0.cell? ⟨w1.heap.size, 5, none⟩ = some (.int .i64 0) := by rw [hu0.cell (by simp)]; simp [go_sem]
  have fr_0 : ∀ k, u0.frozen? ⟨w.heap.size, k, none⟩ = false := fun k => by rw [HU0.frozen t0]; exact fr k
  have r_0 : ∀ k, k < 6 → u0.cell? ⟨w.heap.size, k, none⟩ = some (.int .i64 0) := fun k hk => by rw [HU0.cell t0]; exact r k hk
  go_wp2_with (go_at_call 63; go_in)
  rw [rounds_succ]
  go_wp2
  have HB : Below w.heap.size w u0 := HW1.trans (HU0.mono (by omega))
  refine bodyPost_ret (v := .tuple #[.agg #[.int .i64 18, .int .i64 0, .int .i64 0, .int .i64 0, .int .i64 0, .int .i64 0], .bool true]) (by simp [results, Tryd.results70, go_sem, r_0]) rfl ⟨rfl, ?_⟩
  have HX : w.heap.size ≤ w1.heap.size := by omega
  exact ((((((HB.setCell HX _).setCell (Nat.le_refl _) _).setCell (Nat.le_refl _) _).setCell (Nat.le_refl _) _).setCell (Nat.le_refl _) _).setCell (Nat.le_refl _) _).setCell (Nat.le_refl _) _

def line_number : ByteArray := ⟨#[110, 117, 109, 98, 101, 114, 32, 48, 32, 53]⟩
theorem number_count : Lib.countB line_number ⟨#[32]⟩ + 1 = 3 := by decide +kernel
theorem number_split : Lib.splitB ⟨#[32]⟩ 0 (Lib.countB line_number ⟨#[32]⟩) line_number = [⟨#[110, 117, 109, 98, 101, 114]⟩, ⟨#[48]⟩, ⟨#[53]⟩] := by decide +kernel

set_option maxHeartbeats 1000000 in
set_option maxRecDepth 20000 in
theorem parseInstr_number (N : Nat) (w : World) (hs : ShpAt N shps w) (ht : Tab w) (hm : Cap w) :
    Calls Tryd.prog 70 #[.map (some N), .string line_number] w fun e w' => e = .returned (.tuple #[.agg #[.int .i64 1, .int .i64 0, .int .i64 0, .int .i64 0, .int .i64 5, .int .i64 0], .bool true]) ∧ Below w.heap.size w w' := by
  have hb1 : Below w.heap.size w (w.alloc (.cells #[.int .i64 0, .int .i64 0, .int .i64 0, .int .i64 0, .int .i64 0, .int .i64 0] 71)) := by go_grown
  have hb3 : Below w.heap.size w (((w.alloc (.cells #[.int .i64 0, .int .i64 0, .int .i64 0, .int .i64 0, .int .i64 0, .int .i64 0] 71)).alloc (.cells #[.string ⟨#[110, 117, 109, 98, 101, 114]⟩, .string ⟨#[48]⟩, .string ⟨#[53]⟩] 9)).alloc (.cells #[.slice (some ⟨w.heap.size + 1, 0, none⟩) 3 3] 44)) := by go_grown
  have hsp := split_words line_number [⟨#[110, 117, 109, 98, 101, 114]⟩, ⟨#[48]⟩, ⟨#[53]⟩] _ (hm.below hb1) (by decide) number_count number_split
  have hfi := find_at 1 N (w.heap.size + 2) (w.heap.size + 1) 3 3 (((w.alloc (.cells #[.int .i64 0, .int .i64 0, .int .i64 0, .int .i64 0, .int .i64 0, .int .i64 0] 71)).alloc (.cells #[.string ⟨#[110, 117, 109, 98, 101, 114]⟩, .string ⟨#[48]⟩, .string ⟨#[53]⟩] 9)).alloc (.cells #[.slice (some ⟨w.heap.size + 1, 0, none⟩) 3 3] 44)) (by decide) (by decide) (hs.below hb3 (Nat.le_refl _)) (by decide) (by simp) (by simp) (by simp [go_sem]) (by simp [go_sem]; rfl) rfl
  have hz : N + 1 < w.heap.size := (part_cell hs 0 0 (by decide) (by decide) (.int .i64 0) rfl).2
  have p0 : w.cell? ⟨N + 1, 0, none⟩ = some (.int .i64 0) := (part_cell hs 0 0 (by decide) (by decide) (.int .i64 0) rfl).1
  have p1 : w.cell? ⟨N + 1, 1, none⟩ = some (.int .i64 4) := (part_cell hs 0 1 (by decide) (by decide) (.int .i64 4) rfl).1
  have ha0 : Lib.atoiAll (⟨#[48]⟩ : ByteArray).data.toList = .ok 0 := by decide +kernel
  have hi0 : itoaB 0 = ⟨#[48]⟩ := by decide +kernel
  have ha5 : Lib.atoiAll (⟨#[53]⟩ : ByteArray).data.toList = .ok 5 := by decide +kernel
  have hi5 : itoaB 5 = ⟨#[53]⟩ := by decide +kernel
  go_enter Tryd.func70, Tryd.ntmps70
  go_wp2_with (first | (go_at_call 91; refine hsp.mono ?_; rintro e w0 ⟨rfl, rfl⟩) | (go_at_call 93; fail))
  refine hfi.mono ?_
  rintro e w1 ⟨rfl, hw1⟩
  have s1 : w.heap.size + 3 ≤ w1.heap.size := by have := hw1.size; simp at this; omega
  have t0 : w.heap.size < w1.heap.size := by omega
  have t1 : w.heap.size + 1 < w1.heap.size := by omega
  have t2 : w.heap.size + 1 + 1 < w1.heap.size := by omega
  have t3 : N + 1 < w1.heap.size := by omega
  have HW1 : Below w.heap.size w w1 := hb3.trans (hw1.mono (by go_size))
  have a1 : w1.cell? ⟨w.heap.size + 1, 1, none⟩ = some (.string ⟨#[48]⟩) := by rw [hw1.cell (by simp)]; simp [go_sem]
  have a2 : w1.cell? ⟨w.heap.size + 1, 2, none⟩ = some (.string ⟨#[53]⟩) := by rw [hw1.cell (by simp)]; simp [go_sem]
  have av : w1.cell? ⟨w.heap.size + 1 + 1, 0, none⟩ = some (.slice (some ⟨w.heap.size + 1, 0, none⟩) 3 3) := by rw [hw1.cell (by simp)]; simp [go_sem]
  have r : ∀ j, j < 6 → w1.cell? ⟨w.heap.size, j, none⟩ = some (.int .i64 0) := by
    intro j hj
    rw [hw1.cell (by simp; omega)]
    match j, hj with
    | 0, _ => simp [go_sem]
    | 1, _ => simp [go_sem]
    | 2, _ => simp [go_sem]
    | 3, _ => simp [go_sem]
    | 4, _ => simp [go_sem]
    | 5, _ => simp [go_sem]
  have fr : ∀ j, w1.frozen? ⟨w.heap.size, j, none⟩ = false := fun j => by rw [hw1.frozen (by simp; omega)]; simp [go_sem]
  have P0 : w1.cell? ⟨N + 1, 0, none⟩ = some (.int .i64 0) := by rw [HW1.cell hz]; exact p0
  have P1 : w1.cell? ⟨N + 1, 1, none⟩ = some (.int .i64 4) := by rw [HW1.cell hz]; exact p1
  have hl : (Instr.lookup 60 (.map (some N)) (.int .i64 1) false).run Tryd.prog _ = .ok (.agg #[.string (wordB 1), .slice (some ⟨N + 1, 0, none⟩) 2 2]) _ := look_val ((hs.below HW1 (Nat.le_refl _)).below (Below.alloc (Below.refl _ w1) (Nat.le_refl _) (.cells #[.int .i64 1, .int .i64 0, .int .i64 0, .int .i64 0, .int .i64 0, .int .i64 0] 71)) (Nat.le_refl _)) 1 0 _ rfl
  have hfld : ∀ wx : World, (Instr.field 105 (.agg #[.string (wordB 1), .slice (some ⟨N + 1, 0, none⟩) 2 2]) 1).run Tryd.prog wx = .ok (.slice (some ⟨N + 1, 0, none⟩) 2 2) wx := fun _ => by kernel_rfl
  clear hsp hfi p0 p1
  go_wp2
  refine wp_loop_rounds 3 ?_
  rw [rounds_succ]
  go_wp2_with (go_at_call 92; fail)
  have D0 : Below w1.heap.size w1 (w1.alloc (.cells #[.int .i64 1, .int .i64 0, .int .i64 0, .int .i64 0, .int .i64 0, .int .i64 0] 71)) := (Below.alloc (Below.refl _ w1) (Nat.le_refl _) _)
  refine (parseNumber_ok ⟨#[48]⟩ 0 _ ha0 ⟨by decide, by decide⟩ hi0 (by decide) (ht.below (HW1.trans (D0.mono (by omega))))).mono ?_
  rintro e u0 ⟨rfl, hu0⟩
  have HU0 : Below w1.heap.size w1 u0 := D0.trans (hu0.mono D0.size)
  have S0 : w1.heap.size < u0.heap.size := by have := hu0.size; simp at this; omega
  have P0_0 : u0.cell? ⟨N + 1, 0, none⟩ = some (.int .i64 0) := by rw [HU0.cell t3]; exact P0
  have P1_0 : u0.cell? ⟨N + 1, 1, none⟩ = some (.int .i64 4) := by rw [HU0.cell t3]; exact P1
  have a1_0 : u0.cell? ⟨w.heap.size + 1, 1, none⟩ = some (.string ⟨#[48]⟩) := by rw [HU0.cell t1]; exact a1
  have a2_0 : u0.cell? ⟨w.heap.size + 1, 2, none⟩ = some (.string ⟨#[53]⟩) := by rw [HU0.cell t1]; exact a2
  have av_0 : u0.cell? ⟨w.heap.size + 1 + 1, 0, none⟩ = some (.slice (some ⟨w.heap.size + 1, 0, none⟩) 3 3) := by rw [HU0.cell t2]; exact av
  have t0_0 : w.heap.size < u0.heap.size := by omega
  have t1_0 : w.heap.size + 1 < u0.heap.size := by omega
  have t2_0 : w.heap.size + 1 + 1 < u0.heap.size := by omega
  have t3_0 : N + 1 < u0.heap.size := by omega
  have fx_0 : ∀ k, u0.frozen? ⟨w1.heap.size, k, none⟩ = false := fun k => by rw [hu0.frozen (by simp)]; simp [go_sem]
  have x0_0 : u0.cell? ⟨w1.heap.size, 0, none⟩ = some (.int .i64 1) := by rw [hu0.cell (by simp)]; simp [go_sem]
  have x1_0 : u0.cell? ⟨w1.heap.size, 1, none⟩ = some (.int .i64 0) := by rw [hu0.cell (by simp)]; simp [go_sem]
  have x2_0 : u0.cell? ⟨w1.heap.size, 2, none⟩ = some (.int .i64 0) := by rw [hu0.cell (by simp)]; simp [go_sem]
  have x3_0 : u0.cell? ⟨w1.heap.size, 3, none⟩ = some (.int .i64 0) := by rw [hu0.cell (by simp)]; simp [go_sem]
  have x4_0 : u0.cell? ⟨w1.heap.size, 4, none⟩ = some (.int .i64 0) := by rw [hu0.cell (by simp)]; simp [go_sem]
  have x5_0 : u0.cell? ⟨w1.heap.size, 5, none⟩ = some (.int .i64 0) := by rw [hu0.cell (by simp)]; simp [go_sem]
  have fr_0 : ∀ k, u0.frozen? ⟨w.heap.size, k, none⟩ = false := fun k => by rw [HU0.frozen t0]; exact fr k
  have r_0 : ∀ k, k < 6 → u0.cell? ⟨w.heap.size, k, none⟩ = some (.int .i64 0) := fun k hk => by rw [HU0.cell t0]; exact r k hk
  go_wp2_with (go_at_call 63; go_in)
  rw [rounds_succ]
  go_wp2_with (go_at_call 92; fail)
  have D1 : Below w1.heap.size w1 (u0.setCell ⟨w1.heap.size, 1, none⟩ (.int .i64 0)) := HU0.setCell (Nat.le_refl _) _
  refine (parseNumber_ok ⟨#[53]⟩ 5 _ ha5 ⟨by decide, by decide⟩ hi5 (by decide) (ht.below (HW1.trans (D1.mono (by omega))))).mono ?_
  rintro e u1 ⟨rfl, hu1⟩
  have HU1 : Below w1.heap.size w1 u1 := D1.trans (hu1.mono D1.size)
  have S1 : w1.heap.size < u1.heap.size := by have := hu1.size; simp at this; omega
  have P1_1 : u1.cell? ⟨N + 1, 1, none⟩ = some (.int .i64 4) := by rw [HU1.cell t3]; exact P1
  have a2_1 : u1.cell? ⟨w.heap.size + 1, 2, none⟩ = some (.string ⟨#[53]⟩) := by rw [HU1.cell t1]; exact a2
  have av_1 : u1.cell? ⟨w.heap.size + 1 + 1, 0, none⟩ = some (.slice (some ⟨w.heap.size + 1, 0, none⟩) 3 3) := by rw [HU1.cell t2]; exact av
  have t0_1 : w.heap.size < u1.heap.size := by omega
  have t1_1 : w.heap.size + 1 < u1.heap.size := by omega
  have t2_1 : w.heap.size + 1 + 1 < u1.heap.size := by omega
  have t3_1 : N + 1 < u1.heap.size := by omega
  have fx_1 : ∀ k, u1.frozen? ⟨w1.heap.size, k, none⟩ = false := fun k => by rw [hu1.frozen (by simp; omega)]; simp [go_sem, fx_0]
  have x0_1 : u1.cell? ⟨w1.heap.size, 0, none⟩ = some (.int .i64 1) := by rw [hu1.cell (by simp; omega)]; simp [go_sem, x0_0, x1_0, x2_0, x3_0, x4_0, x5_0]
  have x1_1 : u1.cell? ⟨w1.heap.size, 1, none⟩ = some (.int .i64 0) := by rw [hu1.cell (by simp; omega)]; simp [go_sem, x0_0, x1_0, x2_0, x3_0, x4_0, x5_0]
  have x2_1 : u1.cell? ⟨w1.heap.size, 2, none⟩ = some (.int .i64 0) := by rw [hu1.cell (by simp; omega)]; simp [go_sem, x0_0, x1_0, x2_0, x3_0, x4_0, x5_0]
  have x3_1 : u1.cell? ⟨w1.heap.size, 3, none⟩ = some (.int .i64 0) := by rw [hu1.cell (by simp; omega)]; simp [go_sem, x0_0, x1_0, x2_0, x3_0, x4_0, x5_0]
  have x4_1 : u1.cell? ⟨w1.heap.size, 4, none⟩ = some (.int .i64 0) := by rw [hu1.cell (by simp; omega)]; simp [go_sem, x0_0, x1_0, x2_0, x3_0, x4_0, x5_0]
  have x5_1 : u1.cell? ⟨w1.heap.size, 5, none⟩ = some (.int .i64 0) := by rw [hu1.cell (by simp; omega)]; simp [go_sem, x0_0, x1_0, x2_0, x3_0, x4_0, x5_0]
  have fr_1 : ∀ k, u1.frozen? ⟨w.heap.size, k, none⟩ = false := fun k => by rw [HU1.frozen t0]; exact fr k
  have r_1 : ∀ k, k < 6 → u1.cell? ⟨w.heap.size, k, none⟩ = some (.int .i64 0) := fun k hk => by rw [HU1.cell t0]; exact r k hk
  go_wp2_with (go_at_call 63; go_in)
  rw [rounds_succ]
  go_wp2
  have HB : Below w.heap.size w u1 := HW1.trans (HU1.mono (by omega))
  refine bodyPost_ret (v := .tuple #[.agg #[.int .i64 1, .int .i64 0, .int .i64 0, .int .i64 0, .int .i64 5, .int .i64 0], .bool true]) (by simp [results, Tryd.results70, go_sem, r_1]) rfl ⟨rfl, ?_⟩
  have HX : w.heap.size ≤ w1.heap.size := by omega
  exact ((((((HB.setCell HX _).setCell (Nat.le_refl _) _).setCell (Nat.le_refl _) _).setCell (Nat.le_refl _) _).setCell (Nat.le_refl _) _).setCell (Nat.le_refl _) _).setCell (Nat.le_refl _) _
end Go.Proofs.YtmapdpcfanecdaaDoor
