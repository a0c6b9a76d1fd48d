/- Walks over package code: a text all of whose lines are right. -/
import Derived.Test.YtmapdpcfanecdaaDoorKlawrsp18
namespace Go.Proofs.YtmapdpcfanecdaaDoor
set_option linter.unusedVariables false
set_option linter.unusedSimpArgs false
open Go.RowKit

def line_print : ByteArray := ⟨#[112, 114, 105, 110, 116, 32, 48]⟩
theorem print_count : Lib.countB line_print ⟨#[32]⟩ + 1 = 2 := by decide +kernel
theorem print_split : Lib.splitB ⟨#[32]⟩ 0 (Lib.countB line_print ⟨#[32]⟩) line_print = [⟨#[112, 114, 105, 110, 116]⟩, ⟨#[48]⟩] := by decide +kernel

set_option maxHeartbeats 1000000 in
set_option maxRecDepth 20000 in
theorem parseInstr_print (N : Nat) (w : World) (hs : ShpAt N shps w) (ht : Tab w) (hm : Cap w) :
    Calls Tryd.prog 70 #[.map (some N), .string line_print] w fun e w' => e = .returned (.tuple #[.agg #[.int .i64 18, .int .i64 0, .int .i64 0, .int .i64 0, .int .i64 0, .int .i64 0], .bool true]) ∧ Below w.heap.size w w' := by
  have hb1 : Below w.heap.size w (w.alloc (.cells #[.int .i64 0, .int .i64 0, .int .i64 0, .int .i64 0, .int .i64 0, .int .i64 0] 71)) := by go_grown
  have hb3 : Below w.heap.size w (((w.alloc (.cells #[.int .i64 0, .int .i64 0, .int .i64 0, .int .i64 0, .int .i64 0, .int .i64 0] 71)).alloc (.cells #[.string ⟨#[112, 114, 105, 110, 116]⟩, .string ⟨#[48]⟩] 9)).alloc (.cells #[.slice (some ⟨w.heap.size + 1, 0, none⟩) 2 2] 44)) := by go_grown
  have hsp := split_words line_print [⟨#[112, 114, 105, 110, 116]⟩, ⟨#[48]⟩] _ (hm.below hb1) (by decide) print_count print_split
  have hfi := find_at 18 N (w.heap.size + 2) (w.heap.size + 1) 2 2 (((w.alloc (.cells #[.int .i64 0, .int .i64 0, .int .i64 0, .int .i64 0, .int .i64 0, .int .i64 0] 71)).alloc (.cells #[.string ⟨#[112, 114, 105, 110, 116]⟩, .string ⟨#[48]⟩] 9)).alloc (.cells #[.slice (some ⟨w.heap.size + 1, 0, none⟩) 2 2] 44)) (by decide) (by decide) (hs.below hb3 (Nat.le_refl _)) (by decide) (by simp) (by simp) (by simp [go_sem]) (by simp [go_sem]; rfl) rfl
  have hz : N + 18 < w.heap.size := (part_cell hs 17 0 (by decide) (by decide) (.int .i64 1) rfl).2
  have p0 : w.cell? ⟨N + 18, 0, none⟩ = some (.int .i64 1) := (part_cell hs 17 0 (by decide) (by decide) (.int .i64 1) rfl).1
  have ha0 : Lib.atoiAll (⟨#[48]⟩ : ByteArray).data.toList = .ok 0 := by decide +kernel
  have hi0 : itoaB 0 = ⟨#[48]⟩ := by decide +kernel
  go_enter Tryd.func70, Tryd.ntmps70
  go_wp2_with (first | (go_at_call 91; refine hsp.mono ?_; rintro e w0 ⟨rfl, rfl⟩) | (go_at_call 93; fail))
  refine hfi.mono ?_
  rintro e w1 ⟨rfl, hw1⟩
  have s1 : w.heap.size + 3 ≤ w1.heap.size := by have := hw1.size; simp at this; omega
  have t0 : w.heap.size < w1.heap.size := by omega
  have t1 : w.heap.size + 1 < w1.heap.size := by omega
  have t2 : w.heap.size + 1 + 1 < w1.heap.size := by omega
  have t3 : N + 18 < w1.heap.size := by omega
  have HW1 : Below w.heap.size w w1 := hb3.trans (hw1.mono (by go_size))
  have a1 : w1.cell? ⟨w.heap.size + 1, 1, none⟩ = some (.string ⟨#[48]⟩) := by rw [hw1.cell (by simp)]; simp [go_sem]
  have av : w1.cell? ⟨w.heap.size + 1 + 1, 0, none⟩ = some (.slice (some ⟨w.heap.size + 1, 0, none⟩) 2 2) := by rw [hw1.cell (by simp)]; simp [go_sem]
  have r : ∀ j, j < 6 → w1.cell? ⟨w.heap.size, j, none⟩ = some (.int .i64 0) := by
    intro j hj
    rw [hw1.cell (by simp; omega)]
    match j, hj with
    | 0, _ => simp [go_sem]
    | 1, _ => simp [go_sem]
    | 2, _ => simp [go_sem]
    | 3, _ => simp [go_sem]
    | 4, _ => simp [go_sem]
    | 5, _ => simp [go_sem]
  have fr : ∀ j, w1.frozen? ⟨w.heap.size, j, none⟩ = false := fun j => by rw [hw1.frozen (by simp; omega)]; simp [go_sem]
  have P0 : w1.cell? ⟨N + 18, 0, none⟩ = some (.int .i64 1) := by rw [HW1.cell hz]; exact p0
  have hl : (Instr.lookup 60 (.map (some N)) (.int .i64 18) false).run Tryd.prog _ = .ok (.agg #[.string (wordB 18), .slice (some ⟨N + 18, 0, none⟩) 1 1]) _ := look_val ((hs.below HW1 (Nat.le_refl _)).below (Below.alloc (Below.refl _ w1) (Nat.le_refl _) (.cells #[.int .i64 18, .int .i64 0, .int .i64 0, .int .i64 0, .int .i64 0, .int .i64 0] 71)) (Nat.le_refl _)) 18 17 _ rfl
  have hfld : ∀ wx : World, (Instr.field 105 (.agg #[.string (wordB 18), .slice (some ⟨N + 18, 0, none⟩) 1 1]) 1).run Tryd.prog wx = .ok (.slice (some ⟨N + 18, 0, none⟩) 1 1) wx := fun _ => by kernel_rfl
  clear hsp hfi p0
  go_wp2
  refine wp_loop_rounds 2 ?_
  rw [rounds_succ]
  go_wp2_with (go_at_call 92; fail)
  have D0 : Below w1.heap.size w1 (w1.alloc (.cells #[.int .i64 18, .int .i64 0, .int .i64 0, .int .i64 0, .int .i64 0, .int .i64 0] 71)) := (Below.alloc (Below.refl _ w1) (Nat.le_refl _) _)
  refine (parseNumber_ok ⟨#[48]⟩ 0 _ ha0 ⟨by decide, by decide⟩ hi0 (by decide) (ht.below (HW1.trans (D0.mono (by omega))))).mono ?_
  rintro e u0 ⟨rfl, hu0⟩
  have HU0 : Below w1.heap.size w1 u0 := D0.trans (hu0.mono D0.size)
  have S0 : w1.heap.size < u0.heap.size := by have := hu0.size; simp at this; omega
  have P0_0 : u0.cell? ⟨N + 18, 0, none⟩ = some (.int .i64 1) := by rw [HU0.cell t3]; exact P0
  have a1_0 : u0.cell? ⟨w.heap.size + 1, 1, none⟩ = some (.string ⟨#[48]⟩) := by rw [HU0.cell t1]; exact a1
  have av_0 : u0.cell? ⟨w.heap.size + 1 + 1, 0, none⟩ = some (.slice (some ⟨w.heap.size + 1, 0, none⟩) 2 2) := by rw [HU0.cell t2]; exact av
  have t0_0 : w.heap.size < u0.heap.size := by omega
  have t1_0 : w.heap.size + 1 < u0.heap.size := by omega
  have t2_0 : w.heap.size + 1 + 1 < u0.heap.size := by omega
  have t3_0 : N + 18 < u0.heap.size := by omega
  have fx_0 : ∀ k, u0.frozen? ⟨w1.heap.size, k, none⟩ = false := fun k => by rw [hu0.frozen (by simp)]; simp [go_sem]
  have x0_0 : u0.cell? ⟨w1.heap.size, 0, none⟩ = some (.int .i64 18) := by rw [hu0.cell (by simp)]; simp [go_sem]
  have x1_0 : u0.cell? ⟨w1.heap.size, 1, none⟩ = some (.int .i64 0) := by rw [hu0.cell (by simp)]; simp [go_sem]
  have x2_0 : u0.cell? ⟨w1.heap.size, 2, none⟩ = some (.int .i64 0) := by rw [hu0.cell (by simp)]; simp [go_sem]
  have x3_0 : u0.cell? ⟨w1.heap.size, 3, none⟩ = some (.int .i64 0) := by rw [hu0.cell (by simp)]; simp [go_sem]
  have x4_0 : u0.cell? ⟨w1.heap.size, 4, none⟩ = some (.int .i64 0) := by rw [hu0.cell (by simp)]; simp [go_sem]
  have x5_0 : u0.cell? ⟨w1.heap.size, 5, none⟩ = some (.int .i64 0) := by rw [hu0.cell (by simp)]; simp [go_sem]
  have fr_0 : ∀ k, u0.frozen? ⟨w.heap.size, k, none⟩ = false := fun k => by rw [HU0.frozen t0]; exact fr k
  have r_0 : ∀ k, k < 6 → u0.cell? ⟨w.heap.size, k, none⟩ = some (.int .i64 0) := fun k hk => by rw [HU0.cell t0]; exact r k hk
  go_wp2_with (go_at_call 63; go_in)
  rw [rounds_succ]
  go_wp2
  have HB : Below w.heap.size w u0 := HW1.trans (HU0.mono (by omega))
  refine bodyPost_ret (v := .tuple #[.agg #[.int .i64 18, .int .i64 0, .int .i64 0, .int .i64 0, .int .i64 0, .int .i64 0], .bool true]) (by simp [results, Tryd.results70, go_sem, r_0]) rfl ⟨rfl, ?_⟩
  have HX : w.heap.size ≤ w1.heap.size := by omega
  exact ((((((HB.setCell HX _).setCell (Nat.le_refl _) _).setCell (Nat.le_refl _) _).setCell (Nat.le_refl _) _).setCell (Nat.le_refl _) _).setCell (Nat.le_refl _) _).setCell (Nat.le_refl _) _

def line_number : ByteArray := ⟨#[110, 117, 109, 98, 101, 114, 32, 48, 32, 53]⟩
theorem number_count : Lib.countB line_number ⟨#[32]⟩ + 1 = 3 := by decide +kernel
theorem number_split : Lib.splitB ⟨#[32]⟩ 0 (Lib.countB line_number ⟨#[32]⟩) line_number = [⟨#[110, 117, 109, 98, 101, 114]⟩, ⟨#[48]⟩, ⟨#[53]⟩] := by decide +kernel

set_option maxHeartbeats 1000000 in
set_option maxRecDepth 20000 in
theorem parseInstr_number (N : Nat) (w : World) (hs : ShpAt N shps w) (ht : Tab w) (hm : Cap w) :
    Calls Tryd.prog 70 #[.map (some N), .string line_number] w fun e w' => e = .returned (.tuple #[.agg #[.int .i64 1, .int .i64 0, .int .i64 0, .int .i64 0, .int .i64 5, .int .i64 0], .bool true]) ∧ Below w.heap.size w w' := by
  have hb1 : Below w.heap.size w (w.alloc (.cells #[.int .i64 0, .int .i64 0, .int .i64 0, .int .i64 0, .int .i64 0, .int .i64 0] 71)) := by go_grown
  have hb3 : Below w.heap.size w (((w.alloc (.cells #[.int .i64 0, .int .i64 0, .int .i64 0, .int .i64 0, .int .i64 0, .int .i64 0] 71)).alloc (.cells #[.string ⟨#[110, 117, 109, 98, 101, 114]⟩, .string ⟨#[48]⟩, .string ⟨#[53]⟩] 9)).alloc (.cells #[.slice (some ⟨w.heap.size + 1, 0, none⟩) 3 3] 44)) := by go_grown
  have hsp := split_words line_number [⟨#[110, 117, 109, 98, 101, 114]⟩, ⟨#[48]⟩, ⟨#[53]⟩] _ (hm.below hb1) (by decide) number_count number_split
  have hfi := find_at 1 N (w.heap.size + 2) (w.heap.size + 1) 3 3 (((w.alloc (.cells #[.int .i64 0, .int .i64 0, .int .i64 0, .int .i64 0, .int .i64 0, .int .i64 0] 71)).alloc (.cells #[.string ⟨#[110, 117, 109, 98, 101, 114]⟩, .string ⟨#[48]⟩, .string ⟨#[53]⟩] 9)).alloc (.cells #[.slice (some ⟨w.heap.size + 1, 0, none⟩) 3 3] 44)) (by decide) (by decide) (hs.below hb3 (Nat.le_refl _)) (by decide) (by simp) (by simp) (by simp [go_sem]) (by simp [go_sem]; rfl) rfl
  have hz : N + 1 < w.heap.size := (part_cell hs 0 0 (by decide) (by decide) (.int .i64 0) rfl).2
  have p0 : w.cell? ⟨N + 1, 0, none⟩ = some (.int .i64 0) := (part_cell hs 0 0 (by decide) (by decide) (.int .i64 0) rfl).1
  have p1 : w.cell? ⟨N + 1, 1, none⟩ = some (.int .i64 4) := (part_cell hs 0 1 (by decide) (by decide) (.int .i64 4) rfl).1
  have ha0 : Lib.atoiAll (⟨#[48]⟩ : ByteArray).data.toList = .ok 0 := by decide +kernel
  have hi0 : itoaB 0 = ⟨#[48]⟩ := by decide +kernel
  have ha5 : Lib.atoiAll (⟨#[53]⟩ : ByteArray).data.toList = .ok 5 := by decide +kernel
  have hi5 : itoaB 5 = ⟨#[53]⟩ := by decide +kernel
  go_enter Tryd.func70, Tryd.ntmps70
  go_wp2_with (first | (go_at_call 91; refine hsp.mono ?_; rintro e w0 ⟨rfl, rfl⟩) | (go_at_call 93; fail))
  refine hfi.mono ?_
  rintro e w1 ⟨rfl, hw1⟩
  have s1 : w.heap.size + 3 ≤ w1.heap.size := by have := hw1.size; simp at this; omega
  have t0 : w.heap.size < w1.heap.size := by omega
  have t1 : w.heap.size + 1 < w1.heap.size := by omega
  have t2 : w.heap.size + 1 + 1 < w1.heap.size := by omega
  have t3 : N + 1 < w1.heap.size := by omega
  have HW1 : Below w.heap.size w w1 := hb3.trans (hw1.mono (by go_size))
  have a1 : w1.cell? ⟨w.heap.size + 1, 1, none⟩ = some (.string ⟨#[48]⟩) := by rw [hw1.cell (by simp)]; simp [go_sem]
  have a2 : w1.cell? ⟨w.heap.size + 1, 2, none⟩ = some (.string ⟨#[53]⟩) := by rw [hw1.cell (by simp)]; simp [go_sem]
  have av : w1.cell? ⟨w.heap.size + 1 + 1, 0, none⟩ = some (.slice (some ⟨w.heap.size + 1, 0, none⟩) 3 3) := by rw [hw1.cell (by simp)]; simp [go_sem]
  have r : ∀ j, j < 6 → w1.cell? ⟨w.heap.size, j, none⟩ = some (.int .i64 0) := by
    intro j hj
    rw [hw1.cell (by simp; omega)]
    match j, hj with
    | 0, _ => simp [go_sem]
    | 1, _ => simp [go_sem]
    | 2, _ => simp [go_sem]
    | 3, _ => simp [go_sem]
    | 4, _ => simp [go_sem]
    | 5, _ => simp [go_sem]
  have fr : ∀ j, w1.frozen? ⟨w.heap.size, j, none⟩ = false := fun j => by rw [hw1.frozen (by simp; omega)]; simp [go_sem]
  have P0 : w1.cell? ⟨N + 1, 0, none⟩ = some (.int .i64 0) := by rw [HW1.cell hz]; exact p0
  have P1 : w1.cell? ⟨N + 1, 1, none⟩ = some (.int .i64 4) := by rw [HW1.cell hz]; exact p1
  have hl : (Instr.lookup 60 (.map (some N)) (.int .i64 1) false).run Tryd.prog _ = .ok (.agg #[.string (wordB 1), .slice (some ⟨N + 1, 0, none⟩) 2 2]) _ := look_val ((hs.below HW1 (Nat.le_refl _)).below (Below.alloc (Below.refl _ w1) (Nat.le_refl _) (.cells #[.int .i64 1, .int .i64 0, .int .i64 0, .int .i64 0, .int .i64 0, .int .i64 0] 71)) (Nat.le_refl _)) 1 0 _ rfl
  have hfld : ∀ wx : World, (Instr.field 105 (.agg #[.string (wordB 1), .slice (some ⟨N + 1, 0, none⟩) 2 2]) 1).run Tryd.prog wx = .ok (.slice (some ⟨N + 1, 0, none⟩) 2 2) wx := fun _ => by kernel_rfl
  clear hsp hfi p0 p1
  go_wp2
  refine wp_loop_rounds 3 ?_
  rw [rounds_succ]
  go_wp2_with (go_at_call 92; fail)
  have D0 : Below w1.heap.size w1 (w1.alloc (.cells #[.int .i64 1, .int .i64 0, .int .i64 0, .int .i64 0, .int .i64 0, .int .i64 0] 71)) := (Below.alloc (Below.refl _ w1) (Nat.le_refl _) _)
  refine (parseNumber_ok ⟨#[48]⟩ 0 _ ha0 ⟨by decide, by decide⟩ hi0 (by decide) (ht.below (HW1.trans (D0.mono (by omega))))).mono ?_
  rintro e u0 ⟨rfl, hu0⟩
  have HU0 : Below w1.heap.size w1 u0 := D0.trans (hu0.mono D0.size)
  have S0 : w1.heap.size < u0.heap.size := by have := hu0.size; simp at this; omega
  have P0_0 : u0.cell? ⟨N + 1, 0, none⟩ = some (.int .i64 0) := by rw [HU0.cell t3]; exact P0
  have P1_0 : u0.cell? ⟨N + 1, 1, none⟩ = some (.int .i64 4) := by rw [HU0.cell t3]; exact P1
  have a1_0 : u0.cell? ⟨w.heap.size + 1, 1, none⟩ = some (.string ⟨#[48]⟩) := by rw [HU0.cell t1]; exact a1
  have a2_0 : u0.cell? ⟨w.heap.size + 1, 2, none⟩ = some (.string ⟨#[53]⟩) := by rw [HU0.cell t1]; exact a2
  have av_0 : u0.cell? ⟨w.heap.size + 1 + 1, 0, none⟩ = some (.slice (some ⟨w.heap.size + 1, 0, none⟩) 3 3) := by rw [HU0.cell t2]; exact av
  have t0_0 : w.heap.size < u0.heap.size := by omega
  have t1_0 : w.heap.size + 1 < u0.heap.size := by omega
  have t2_0 : w.heap.size + 1 + 1 < u0.heap.size := by omega
  have t3_0 : N + 1 < u0.heap.size := by omega
  have fx_0 : ∀ k, u0.frozen? ⟨w1.heap.size, k, none⟩ = false := fun k => by rw [hu0.frozen (by simp)]; simp [go_sem]
  have x0_0 : u0.cell? ⟨w1.heap.size, 0, none⟩ = some (.int .i64 1) := by rw [hu0.cell (by simp)]; simp [go_sem]
  have x1_0 : u0.cell? ⟨w1.heap.size, 1, none⟩ = some (.int .i64 0) := by rw [hu0.cell (by simp)]; simp [go_sem]
  have x2_0 : u0.cell? ⟨w1.heap.size, 2, none⟩ = some (.int .i64 0) := by rw [hu0.cell (by simp)]; simp [go_sem]
  have x3_0 : u0.cell? ⟨w1.heap.size, 3, none⟩ = some (.int .i64 0) := by rw [hu0.cell (by simp)]; simp [go_sem]
  have x4_0 : u0.cell? ⟨w1.heap.size, 4, none⟩ = some (.int .i64 0) := by rw [hu0.cell (by simp)]; simp [go_sem]
  have x5_0 : u0.cell? ⟨w1.heap.size, 5, none⟩ = some (.int .i64 0) := by rw [hu0.cell (by simp)]; simp [go_sem]
  have fr_0 : ∀ k, u0.frozen? ⟨w.heap.size, k, none⟩ = false := fun k => by rw [HU0.frozen t0]; exact fr k
  have r_0 : ∀ k, k < 6 → u0.cell? ⟨w.heap.size, k, none⟩ = some (.int .i64 0) := fun k hk => by rw [HU0.cell t0]; exact r k hk
  go_wp2_with (go_at_call 63; go_in)
  rw [rounds_succ]
  go_wp2_with (go_at_call 92; fail)
  have D1 : Below w1.heap.size w1 (u0.setCell ⟨w1.heap.size, 1, none⟩ (.int .i64 0)) := HU0.setCell (Nat.le_refl _) _
  refine (parseNumber_ok ⟨#[53]⟩ 5 _ ha5 ⟨by decide, by decide⟩ hi5 (by decide) (ht.below (HW1.trans (D1.mono (by omega))))).mono ?_
  rintro e u1 ⟨rfl, hu1⟩
  have HU1 : Below w1.heap.size w1 u1 := D1.trans (hu1.mono D1.size)
  have S1 : w1.heap.size < u1.heap.size := by have := hu1.size; simp at this; omega
  have P1_1 : u1.cell? ⟨N + 1, 1, none⟩ = some (.int .i64 4) := by rw [HU1.cell t3]; exact P1
  have a2_1 : u1.cell? ⟨w.heap.size + 1, 2, none⟩ = some (.string ⟨#[53]⟩) := by rw [HU1.cell t1]; exact a2
  have av_1 : u1.cell? ⟨w.heap.size + 1 + 1, 0, none⟩ = some (.slice (some ⟨w.heap.size + 1, 0, none⟩) 3 3) := by rw [HU1.cell t2]; exact av
  have t0_1 : w.heap.size < u1.heap.size := by omega
  have t1_1 : w.heap.size + 1 < u1.heap.size := by omega
  have t2_1 : w.heap.size + 1 + 1 < u1.heap.size := by omega
  have t3_1 : N + 1 < u1.heap.size := by omega
  have fx_1 : ∀ k, u1.frozen? ⟨w1.heap.size, k, none⟩ = false := fun k => by rw [hu1.frozen (by simp; omega)]; simp [go_sem, fx_0]
  have x0_1 : u1.cell? ⟨w1.heap.size, 0, none⟩ = some (.int .i64 1) := by rw [hu1.cell (by simp; omega)]; simp [go_sem, x0_0, x1_0, x2_0, x3_0, x4_0, x5_0]
  have x1_1 : u1.cell? ⟨w1.heap.size, 1, none⟩ = some (.int .i64 0) := by rw [hu1.cell (by simp; omega)]; simp [go_sem, x0_0, x1_0, x2_0, x3_0, x4_0, x5_0]
  have x2_1 : u1.cell? ⟨w1.heap.size, 2, none⟩ = some (.int .i64 0) := by rw [hu1.cell (by simp; omega)]; simp [go_sem, x0_0, x1_0, x2_0, x3_0, x4_0, x5_0]
  have x3_1 : u1.cell? ⟨w1.heap.size, 3, none⟩ = some (.int .i64 0) := by rw [hu1.cell (by simp; omega)]; simp [go_sem, x0_0, x1_0, x2_0, x3_0, x4_0, x5_0]
  have x4_1 : u1.cell? ⟨w1.heap.size, 4, none⟩ = some (.int .i64 0) := by rw [hu1.cell (by simp; omega)]; simp [go_sem, x0_0, x1_0, x2_0, x3_0, x4_0, x5_0]
  have x5_1 : u1.cell? ⟨w1.heap.size, 5, none⟩ = some (.int .i64 0) := by rw [hu1.cell (by simp; omega)]; simp [go_sem, x0_0, x1_0, x2_0, x3_0, x4_0, x5_0]
  have fr_1 : ∀ k, u1.frozen? ⟨w.heap.size, k, none⟩ = false := fun k => by rw [HU1.frozen t0]; exact fr k
  have r_1 : ∀ k, k < 6 → u1.cell? ⟨w.heap.size, k, none⟩ = some (.int .i64 0) := fun k hk => by rw [HU1.cell t0]; exact r k hk
  go_wp2_with (go_at_call 63; go_in)
  rw [rounds_succ]
  go_wp2
  have HB : Below w.heap.size w u1 := HW1.trans (HU1.mono (by omega))
  refine bodyPost_ret (v := .tuple #[.agg #[.int .i64 1, .int .i64 0, .int .i64 0, .int .i64 0, .int .i64 5, .int .i64 0], .bool true]) (by simp [results, Tryd.results70, go_sem, r_1]) rfl ⟨rfl, ?_⟩
  have HX : w.heap.size ≤ w1.heap.size := by omega
  exact ((((((HB.setCell HX _).setCell (Nat.le_refl _) _).setCell (Nat.le_refl _) _).setCell (Nat.le_refl _) _).setCell (Nat.le_refl _) _).setCell (Nat.le_refl _) _).setCell (Nat.le_refl _) _
end Go.Proofs.YtmapdpcfanecdaaDoor

namespace Go.Proofs.YtmapdpcfanecdaaDoor
set_option linter.unusedVariables false
set_option linter.unusedSimpArgs false
open Go.RowKit

/-- A text is cut at its first line's end. -/
theorem cut_line (s a b : ByteArray) (w : World) (hm : Cap w) (hs : s.size < 4294967281) (hc : Lib.cut s.data.toList [10] = (a.data.toList, b.data.toList, true)) :
    Calls Tryd.prog 68 #[.string s, .string ⟨#[10]⟩] w fun e w' => e = .returned (.tuple #[.string a, .string b, .bool true]) ∧ Below w.heap.size w w' := by
  obtain ⟨m, hm⟩ := hm
  refine (Tryd.strings_Cut s ⟨#[10]⟩ m w hs hm).mono ?_
  rintro e w' ⟨rfl, n, rfl⟩
  have hc' : Lib.cut s.data.toList (⟨#[10]⟩ : ByteArray).data.toList = (a.data.toList, b.data.toList, true) := hc
  rw [hc']
  exact ⟨rfl, below_drewN (Below.refl _ _) n⟩

def insCells (i : Ins) : List Value := [.int .i64 i.k, .int .i64 i.to, .int .i64 i.a, .int .i64 i.b, .int .i64 i.n, .int .i64 i.g]
def flat (c : List Ins) : List Value := c.flatMap insCells

theorem flat_length (c : List Ins) : (flat c).length = c.length * 6 := by
  induction c with
  | nil => rfl
  | cons x r ih => simp only [flat, List.flatMap_cons, List.length_append, List.length_cons] at ih ⊢; rw [ih]; simp [insCells]; omega

theorem flat_get (c : List Ins) : ∀ k (h : k < c.length) j, j < 6 → (flat c)[k * 6 + j]? = (insCells c[k])[j]? := by
  induction c with
  | nil => intro k h; simp at h
  | cons x r ih =>
    intro k h j hj
    have hl : (insCells x).length = 6 := rfl
    simp only [flat, List.flatMap_cons]
    match k, h with
    | 0, _ => simp only [Nat.zero_mul, Nat.zero_add]; rw [List.getElem?_append_left (by rw [hl]; exact hj)]; rfl
    | k + 1, h =>
      rw [List.getElem?_append_right (by rw [hl]; omega), hl, show (k + 1) * 6 + j - 6 = k * 6 + j by omega]
      exact ih k (by simpa using h) j hj

theorem cells_new (w : World) (xs : List Value) (t : TypeId) : ∀ j u, xs[j]? = some u → (w.alloc (.cells xs.toArray t)).cell? ((⟨w.heap.size, 0, none⟩ : Addr).add j) = some u := by
  intro j u hj
  have e : ((⟨w.heap.size, 0, none⟩ : Addr).add j) = ⟨w.heap.size, j, none⟩ := by
    cases j with
    | zero => rfl
    | succ j => simp [Addr.add]
  rw [e]
  simp [go_sem, hj]

/-- A row of its own that has these instructions has them where its slice looks. -/
theorem codeAt_own {w : World} {B : Nat} {v : Value} {c : List Ins} (h : w.ownsRow B 71 6 v c.length (flat c)) : ∃ s cap, v = .slice s c.length cap ∧ CodeAt w s c := by
  cases c with
  | nil =>
    rcases h.2 with ⟨rfl, _⟩ | ⟨g, cap, cur, rfl, _⟩
    · exact ⟨_, _, rfl, .inl rfl⟩
    · exact ⟨_, _, rfl, .inl rfl⟩
  | cons x r =>
    obtain ⟨g, cap, rfl, hb, hlt⟩ := h.form (by simp)
    refine ⟨_, _, rfl, .inr ⟨g, 0, rfl, hlt, fun k hk => ?_⟩⟩
    have hf : ∀ j, j < 6 → w.cell? ⟨g, 0 + k * 6 + j, none⟩ = (insCells (x :: r)[k])[j]? := fun j hj => by
      rw [h.cellAt _ (by omega), show 0 + k * 6 + j = k * 6 + j by omega]
      exact flat_get _ k hk j hj
    exact ⟨hf 0 (by omega), hf 1 (by omega), hf 2 (by omega), hf 3 (by omega), hf 4 (by omega), hf 5 (by omega)⟩

theorem ownsRow_lower {w : World} {B B' : Nat} {e : TypeId} {z : Nat} {v : Value} {n : Nat} {xs : List Value} (h : w.ownsRow B e z v n xs) (hb : B' ≤ B) : w.ownsRow B' e z v n xs := by
  obtain ⟨h1, h2⟩ := h
  refine ⟨h1, ?_⟩
  rcases h2 with h2 | ⟨g, cap, cur, hv, hB, r⟩
  · exact .inl h2
  · exact .inr ⟨g, cap, cur, hv, Nat.le_trans hb hB, r⟩

theorem ShpAt.of_blocks {N : Nat} {l : List Shp} {w w' : World} (h : ShpAt N l w) (hb : ∀ k, N ≤ k → k < w.heap.size → w'.heap[k]? = w.heap[k]?) : ShpAt N l w' := by
  have hl : ∀ {k o}, w.heap[k]? = some o → k < w.heap.size := fun hk => (Array.getElem?_eq_some_iff.1 hk).1
  exact ⟨by rw [hb N (Nat.le_refl _) (hl h.map)]; exact h.map, fun j hj hne => by rw [hb _ (by omega) (hl (h.parts j hj hne))]; exact h.parts j hj hne⟩

/-- The program that is being read lies in a block of its own: its two numbers, and its code's slice. -/
def PrgAt (w : World) (B : Nat) (V F : Int) (v : Value) : Prop :=
  w.cell? ⟨B, 0, none⟩ = some (.int .i64 V) ∧ w.cell? ⟨B, 1, none⟩ = some (.int .i64 F) ∧ w.cell? ⟨B, 2, none⟩ = some v ∧ ∀ j, w.frozen? ⟨B, j, none⟩ = false

theorem PrgAt.block {w w' : World} {B : Nat} {V F : Int} {v : Value} (h : PrgAt w B V F v) (hb : w'.heap[B]? = w.heap[B]?) : PrgAt w' B V F v := by
  have hc : ∀ j, w'.cell? ⟨B, j, none⟩ = w.cell? ⟨B, j, none⟩ := fun j => World.cell?_of_block (a := ⟨B, j, none⟩) hb
  have hf : ∀ j, w'.frozen? ⟨B, j, none⟩ = w.frozen? ⟨B, j, none⟩ := fun j => World.frozen?_of_block (a := ⟨B, j, none⟩) hb
  obtain ⟨h0, h1, h2, h3⟩ := h
  exact ⟨by rw [hc]; exact h0, by rw [hc]; exact h1, by rw [hc]; exact h2, fun j => by rw [hf]; exact h3 j⟩

theorem PrgAt.set {w : World} {B : Nat} {V F : Int} {v : Value} (h : PrgAt w B V F v) (u : Value) : PrgAt (w.setCell ⟨B, 2, none⟩ u) B V F u := by
  obtain ⟨h0, h1, h2, h3⟩ := h
  refine ⟨?_, ?_, ?_, fun j => ?_⟩ <;> simp [go_sem, h0, h1, h2, h3]

theorem info_ins : (Tryd.prog.info? 71).map (fun i => (i.zero, i.size, i.bytes)) = some (some (.agg #[.int .i64 0, .int .i64 0, .int .i64 0, .int .i64 0, .int .i64 0, .int .i64 0]), 6, 48) := by kernel_rfl

set_option maxHeartbeats 1000000 in
set_option maxRecDepth 20000 in
theorem parseLines_ok (n : Nat) (hn : n ≤ 1000) (s H : ByteArray) (V F : Int) (T L : Nat → ByteArray) (I : Nat → Ins) (w : World) (ht : Tab w) (hm : Cap w) (hs : s.size < 5000) (hT : ∀ k, (T k).size < 5000)
    (hcH : Lib.cut s.data.toList [10] = (H.data.toList, (T 0).data.toList, true))
    (hH : ∀ w, Tab w → Cap w → Calls Tryd.prog 69 #[.string H] w fun e w' => e = .returned (.tuple #[.agg #[.int .i64 V, .int .i64 F, .slice none 0 0], .bool true]) ∧ Below w.heap.size w w')
    (hc : ∀ k, k < n → Lib.cut (T k).data.toList [10] = ((L k).data.toList, (T (k + 1)).data.toList, true)) (h0 : ∀ k, k < n → (T k) ≠ ⟨#[]⟩) (hE : T n = ⟨#[]⟩)
    (hI : ∀ k, k < n → ∀ N w, ShpAt N shps w → Tab w → Cap w → Calls Tryd.prog 70 #[.map (some N), .string (L k)] w fun e w' => e = .returned (.tuple #[.agg #[.int .i64 (I k).k, .int .i64 (I k).to, .int .i64 (I k).a, .int .i64 (I k).b, .int .i64 (I k).n, .int .i64 (I k).g], .bool true]) ∧ Below w.heap.size w w') :
    Calls Tryd.prog 43 #[.string s] w fun e w' => ∃ v, e = .returned (.tuple #[.agg #[.int .i64 V, .int .i64 F, v], .int .i64 0]) ∧ w'.ownsRow w.heap.size 71 6 v n (flat ((List.range n).map I)) ∧ Below w.heap.size w w' := by
  obtain ⟨ti, hi, hz0, hz1, hz2⟩ := info_parts info_ins
  have hb0 : Below w.heap.size w (w.alloc (.cells #[.int .i64 0, .int .i64 0, .slice none 0 0] 24)) := by go_grown
  go_enter Tryd.func43, Tryd.ntmps43
  go_wp2_with (go_at_call 68; fail)
  refine (cut_line s H (T 0) _ (hm.below hb0) (by omega) hcH).mono ?_
  rintro e w1 ⟨rfl, hb1⟩
  have H1 : Below w.heap.size w w1 := hb0.trans (hb1.mono (by go_size))
  go_wp2_with (go_at_call 69; fail)
  refine (hH _ (ht.below H1) (hm.below H1)).mono ?_
  rintro e w2 ⟨rfl, hb2⟩
  have H2 : Below w.heap.size w w2 := H1.trans (hb2.mono H1.size)
  have r2 : w2.heap[w.heap.size]? = some (.cells #[.int .i64 0, .int .i64 0, .slice none 0 0] 24 (0, 0)) := by
    have s1 := hb1.size
    rw [hb2.block _ (by simp at s1; omega), hb1.block _ (by simp)]
    exact (MapKept.heap_alloc _ _).1
  have z2 : w.heap.size < w2.heap.size := (Array.getElem?_eq_some_iff.1 r2).1
  go_wp2_with (go_at_call 29; fail)
  refine (shapes_any _).mono ?_
  rintro e w3 ⟨rfl, hsh, hb3⟩
  have q3 : PrgAt w3 w2.heap.size V F (.slice none 0 0) := by
    have hb := hb3.block w2.heap.size (by simp)
    refine PrgAt.block ⟨?_, ?_, ?_, fun j => ?_⟩ hb <;> simp [go_sem]
  have s3 : w2.heap.size < w3.heap.size := by have := hb3.size; simp at this; omega
  have H3 : Below w2.heap.size w2 w3 := (Below.alloc (Below.refl _ w2) (Nat.le_refl _) _).trans (hb3.mono (by simp))
  simp at hsh
  clear hb1 hb2
  go_wp2
  go_loopw [0, 9] (fun t l wr => ∃ k v, k ≤ n ∧ t = .string (T k) ∧ l = .int .i64 ((k : Int) + 2) ∧ PrgAt wr w2.heap.size V F v ∧ wr.ownsRow w3.heap.size 71 6 v k (flat ((List.range k).map I)) ∧ Below w2.heap.size w2 wr ∧ w3.heap.size ≤ wr.heap.size ∧ ∀ j, j < w3.heap.size → j ≠ w2.heap.size → wr.heap[j]? = w3.heap[j]?) (fun _ l _ => n + 2 - (intOf l).toNat)
  case atStart => exact ⟨0, _, Nat.zero_le _, rfl, rfl, q3, World.ownsRow_nil _ _ _ _, H3, Nat.le_refl _, fun _ _ _ => rfl⟩
  case round =>
    obtain ⟨k, v, hk, rfl, rfl, hp, hown, hbr, hsz, hsame⟩ := hrel
    obtain ⟨sl, cap, rfl, hcode⟩ : ∃ sl cap, v = .slice sl k cap ∧ CodeAt wr sl ((List.range k).map I) := by
      have := codeAt_own (c := (List.range k).map I) (by simpa using hown)
      simpa using this
    obtain ⟨p0, p1, p2, pf⟩ := hp
    have hBr : w2.heap.size < wr.heap.size := by omega
    have HR : Below w.heap.size w wr := H2.trans (hbr.mono (by omega))
    by_cases hlt : k < n
    · have hne : (T k).toList.isEmpty = false := by
        rw [ByteArray.toList_eq, List.isEmpty_eq_false_iff]
        intro e
        exact h0 k hlt (ByteArray.ext (by simpa using e))
      have n0 : (k : Int) + 2 < 2000 := by omega
      have hcut := cut_line (T k) (L k) (T (k + 1)) wr (hm.below HR) (by have := hT k; omega) (hc k hlt)
      go_wp2_with (go_at_call 68; fail)
      refine hcut.mono ?_
      rintro e w4 ⟨rfl, hb4⟩
      have H4 : Below w.heap.size w w4 := HR.trans (hb4.mono HR.size)
      have hs4 : ShpAt (w2.heap.size + 1) shps w4 := hsh.of_blocks (fun j hj hj' => by rw [hb4.block j (by omega)]; exact hsame j hj' (by omega))
      go_wp2_with (go_at_call 70; fail)
      refine (hI k hlt _ w4 hs4 (ht.below H4) (hm.below H4)).mono ?_
      rintro e w5 ⟨rfl, hb5⟩
      have B5 : ∀ j, j < wr.heap.size → w5.heap[j]? = wr.heap[j]? := fun j hj => by rw [hb5.block j (by have := hb4.size; omega), hb4.block j hj]
      have S5 : wr.heap.size ≤ w5.heap.size := Nat.le_trans hb4.size hb5.size
      obtain ⟨P0, P1, P2, Pf⟩ : PrgAt w5 w2.heap.size V F (.slice sl k cap) := PrgAt.block ⟨p0, p1, p2, pf⟩ (B5 _ hBr)
      have hB5 : w2.heap.size < w5.heap.size := by omega
      have hown5 := ownsRow_of_block hown (fun j hj => B5 j (ownsRow_block_lt hown hj).1)
      clear hcut hs4 hsh
      have hnews : ∀ j u, (insCells (I k))[j]? = some u → ((w5.alloc (.cells #[.int .i64 (I k).k, .int .i64 (I k).to, .int .i64 (I k).a, .int .i64 (I k).b, .int .i64 (I k).n, .int .i64 (I k).g] 71)).alloc (.cells #[.int .i64 (I k).k, .int .i64 (I k).to, .int .i64 (I k).a, .int .i64 (I k).b, .int .i64 (I k).n, .int .i64 (I k).g] 71)).cell? ((⟨w5.heap.size + 1, 0, none⟩ : Addr).add j) = some u := by
        have := cells_new (w5.alloc (.cells #[.int .i64 (I k).k, .int .i64 (I k).to, .int .i64 (I k).a, .int .i64 (I k).b, .int .i64 (I k).n, .int .i64 (I k).g] 71)) (insCells (I k)) 71
        intro j u hj
        have h := this j u hj
        simp only [World.size_alloc] at h
        exact h
      have hG : ∀ w6, ((w5.alloc (.cells #[.int .i64 (I k).k, .int .i64 (I k).to, .int .i64 (I k).a, .int .i64 (I k).b, .int .i64 (I k).n, .int .i64 (I k).g] 71)).alloc (.cells #[.int .i64 (I k).k, .int .i64 (I k).to, .int .i64 (I k).a, .int .i64 (I k).b, .int .i64 (I k).n, .int .i64 (I k).g] 71)).grownBy w6 (Value.slice sl k cap).ownBlock → w6.heap[w2.heap.size]? = w5.heap[w2.heap.size]? := fun w6 hgrow => by
        rw [hgrow.block _ (by simp; omega) (fun e => by have := ownsRow_low hown5 e.symm; omega), Below.heap_alloc _ _ _ (by simp; omega), Below.heap_alloc _ _ _ (by omega)]
      have hH6 : ∀ w6, ((w5.alloc (.cells #[.int .i64 (I k).k, .int .i64 (I k).to, .int .i64 (I k).a, .int .i64 (I k).b, .int .i64 (I k).n, .int .i64 (I k).g] 71)).alloc (.cells #[.int .i64 (I k).k, .int .i64 (I k).to, .int .i64 (I k).a, .int .i64 (I k).b, .int .i64 (I k).n, .int .i64 (I k).g] 71)).grownBy w6 (Value.slice sl k cap).ownBlock → Below w2.heap.size w2 w6 := fun w6 hgrow =>
        ((((hbr.trans (hb4.mono (by omega))).trans (hb5.mono (by have := hb4.size; omega))).alloc (by omega) _).alloc (by simp; omega) _).grown hgrow (by simp; omega) (fun j hj => by have := ownsRow_low hown5 hj; omega)
      have hflat : flat ((List.range (k + 1)).map I) = flat ((List.range k).map I) ++ insCells (I k) := by
        rw [List.range_succ, List.map_append, flat, List.flatMap_append]; simp [flat]
      have hone : ∀ u ∈ insCells (I k), u.oneCell' = true := by simp [insCells, Value.oneCell']
      have hba : w3.heap.size ≤ ((w5.alloc (.cells #[.int .i64 (I k).k, .int .i64 (I k).to, .int .i64 (I k).a, .int .i64 (I k).b, .int .i64 (I k).n, .int .i64 (I k).g] 71)).alloc (.cells #[.int .i64 (I k).k, .int .i64 (I k).to, .int .i64 (I k).a, .int .i64 (I k).b, .int .i64 (I k).n, .int .i64 (I k).g] 71)).heap.size := by simp; omega
      go_wp2_with (at_builtin; refine wpList_append_own _ rfl _ _ 22 rfl w3.heap.size 71 ti (.agg #[.int .i64 0, .int .i64 0, .int .i64 0, .int .i64 0, .int .i64 0, .int .i64 0]) 6 48 Tryd.underlying22 hi hz0 hz1 hz2 rfl (by decide) _ _ _ rfl ((hown5.alloc _).alloc _) ⟨w5.heap.size + 1, 0, none⟩ 1 1 (insCells (I k)) rfl rfl hnews hone (by unfold maxLen; omega) (by omega) hba ?_; intro v' w6 hown' hgrow hnil; obtain ⟨g, cap', rfl, hg, hlt'⟩ := hown'.form (Nat.succ_pos _); obtain ⟨Q0, Q1, Q2, Qf⟩ : PrgAt w6 w2.heap.size V F (.slice sl k cap) := PrgAt.block ⟨P0, P1, P2, Pf⟩ (hG w6 hgrow))
      go_roundw
      case rel =>
        refine ⟨k + 1, _, hlt, rfl, by go_num, PrgAt.set ⟨Q0, Q1, Q2, Qf⟩ _, ownsRow_setCell_below ?_ s3 _, ?_, ?_, ?_⟩
        · rw [hflat]; exact hown'
        · exact (hH6 w6 hgrow).setCell (Nat.le_refl _) _
        · have := hgrow.size; simp at this ⊢; omega
        · intro j hj hj'
          rw [Below.heap_setCell _ _ _ _ hj', hgrow.block j (by simp; omega) (fun e => by have := ownsRow_low hown5 e.symm; omega), Below.heap_alloc _ _ _ (by simp; omega), Below.heap_alloc _ _ _ (by omega), B5 j (by omega)]
          exact hsame j hj hj'
      case measure => simp [intOf]; omega
    · have hk' : k = n := by omega
      subst hk'
      have rb : wr.heap[w.heap.size]? = some (.cells #[.int .i64 0, .int .i64 0, .slice none 0 0] 24 (0, 0)) := by rw [hbr.block _ z2]; exact r2
      have rc : ∀ j, wr.cell? ⟨w.heap.size, j, none⟩ = (#[.int .i64 0, .int .i64 0, .slice none 0 0] : Array Value)[j]? := fun j => by simp [World.cell?, rb]
      have rf : ∀ j, wr.frozen? ⟨w.heap.size, j, none⟩ = false := fun j => by simp [World.frozen?, rb]
      have r0 : wr.cell? ⟨w.heap.size, 0, none⟩ = some (.int .i64 0) := rc 0
      have r1 : wr.cell? ⟨w.heap.size, 1, none⟩ = some (.int .i64 0) := rc 1
      have r3 : wr.cell? ⟨w.heap.size, 2, none⟩ = some (.slice none 0 0) := rc 2
      have hne : (T k).toList.isEmpty = true := by rw [hE, ByteArray.toList_eq]; rfl
      have zr : w.heap.size < wr.heap.size := by omega
      clear rb rc
      go_wp2
      refine bodyPost_ret (v := .tuple #[.agg #[.int .i64 V, .int .i64 F, .slice sl k cap], .int .i64 0]) (by simp [results, Tryd.results43, go_sem, r0, r1, r3]) rfl ⟨.slice sl k cap, rfl, ?_, ?_⟩
      · have hz : w.heap.size < w3.heap.size := by omega
        exact ownsRow_lower (ownsRow_setCell_below (a := ⟨w.heap.size, 2, none⟩) (ownsRow_setCell_below (a := ⟨w.heap.size, 1, none⟩) (ownsRow_setCell_below (a := ⟨w.heap.size, 0, none⟩) hown hz (.int .i64 V)) hz (.int .i64 F)) hz (.slice sl k cap)) (Nat.le_of_lt hz)
      · exact ((HR.setCell (Nat.le_refl _) _).setCell (Nat.le_refl _) _).setCell (Nat.le_refl _) _

set_option maxHeartbeats 1000000 in
set_option maxRecDepth 20000 in
theorem parse_ok (V F : Int) (c : List Ins) (s : ByteArray) (w : World) (hs : s.size ≤ 4000) (h0 : ckProg V F c = 0)
    (hp : ∀ w', Below w.heap.size w w' → Calls Tryd.prog 43 #[.string s] w' fun e w'' => ∃ v, e = .returned (.tuple #[.agg #[.int .i64 V, .int .i64 F, v], .int .i64 0]) ∧ w''.ownsRow w'.heap.size 71 6 v c.length (flat c) ∧ Below w'.heap.size w' w'') :
    Calls Tryd.prog 16 #[.string s] w fun e w' => ∃ v, e = .returned (.tuple #[.agg #[.int .i64 V, .int .i64 F, v], .int .i64 0, .int .i64 0]) ∧ w'.ownsRow w.heap.size 71 6 v c.length (flat c) ∧ Below w.heap.size w w' := by
  have n0 : ¬ (4000 : Int) < (s.size : Int) := by omega
  go_enter Tryd.func16, Tryd.ntmps16
  have hb0 : Below w.heap.size w (w.alloc (.cells #[.int .i64 0, .int .i64 0, .slice none 0 0] 24)) := by go_grown
  have hP := hp _ hb0
  clear hp
  go_wp2_with (go_at_call 43; fail)
  refine hP.mono ?_
  rintro e w1 ⟨v, rfl, hown, hb1⟩
  obtain ⟨sl, cap, rfl, hc⟩ := codeAt_own hown
  have HB1 : Below w.heap.size w w1 := hb0.trans (hb1.mono (by simp))
  have hb2 : Below w1.heap.size w1 (w1.alloc (.cells #[.int .i64 V, .int .i64 F, .slice sl c.length cap] 24)) := by go_grown
  have hC2 := codeCheck_any V F sl cap c _ (hc.below hb2 (Nat.le_refl _))
  rw [h0] at hC2
  have rb : w1.heap[w.heap.size]? = some (.cells #[.int .i64 0, .int .i64 0, .slice none 0 0] 24 (0, 0)) := by
    rw [hb1.block _ (by simp)]
    exact (MapKept.heap_alloc _ _).1
  have z1 : w.heap.size < w1.heap.size := (Array.getElem?_eq_some_iff.1 rb).1
  go_wp2_with (go_at_call 14; fail)
  refine hC2.mono ?_
  rintro e w2 ⟨rfl, hb3⟩
  have HB2 : Below w.heap.size w w2 := (HB1.trans (hb2.mono HB1.size)).trans (hb3.mono (by simp; omega))
  have z2 : w1.heap.size < w2.heap.size := by have := hb3.size; simp at this; omega
  have z3 : w.heap.size < w2.heap.size := by omega
  have pb : w2.heap[w1.heap.size]? = some (.cells #[.int .i64 V, .int .i64 F, .slice sl c.length cap] 24 (0, 0)) := by
    rw [hb3.block _ (by simp)]
    exact (MapKept.heap_alloc _ _).1
  have rb2 : w2.heap[w.heap.size]? = some (.cells #[.int .i64 0, .int .i64 0, .slice none 0 0] 24 (0, 0)) := by
    rw [hb3.block _ (by simp; omega), Below.heap_alloc _ _ _ (by omega)]
    exact rb
  have pc : ∀ j, w2.cell? ⟨w1.heap.size, j, none⟩ = (#[.int .i64 V, .int .i64 F, .slice sl c.length cap] : Array Value)[j]? := fun j => by simp [World.cell?, pb]
  have rc : ∀ j, w2.cell? ⟨w.heap.size, j, none⟩ = (#[.int .i64 0, .int .i64 0, .slice none 0 0] : Array Value)[j]? := fun j => by simp [World.cell?, rb2]
  have rf : ∀ j, w2.frozen? ⟨w.heap.size, j, none⟩ = false := fun j => by simp [World.frozen?, rb2]
  have p0 : w2.cell? ⟨w1.heap.size, 0, none⟩ = some (.int .i64 V) := pc 0
  have p1 : w2.cell? ⟨w1.heap.size, 1, none⟩ = some (.int .i64 F) := pc 1
  have p3 : w2.cell? ⟨w1.heap.size, 2, none⟩ = some (.slice sl c.length cap) := pc 2
  have r0 : w2.cell? ⟨w.heap.size, 0, none⟩ = some (.int .i64 0) := rc 0
  have r1 : w2.cell? ⟨w.heap.size, 1, none⟩ = some (.int .i64 0) := rc 1
  have r3 : w2.cell? ⟨w.heap.size, 2, none⟩ = some (.slice none 0 0) := rc 2
  have hown2 : w2.ownsRow (w.heap.size + 1) 71 6 (.slice sl c.length cap) c.length (flat c) := by
    have h1 := ownsRow_of_block (w' := w2) hown (fun j hj => by
      have hl := (ownsRow_block_lt hown hj).1
      rw [hb3.block _ (by simp; omega), Below.heap_alloc _ _ _ hl])
    simpa using h1
  clear pb rb rb2 pc rc hP hC2
  go_wp2
  refine bodyPost_ret (v := .tuple #[.agg #[.int .i64 V, .int .i64 F, .slice sl c.length cap], .int .i64 0, .int .i64 0]) (by simp [results, Tryd.results16, go_sem, r0, r1, r3]) rfl ⟨.slice sl c.length cap, rfl, ?_, ?_⟩
  · have hz := Nat.lt_succ_self w.heap.size
    exact ownsRow_lower (ownsRow_setCell_below (a := ⟨w.heap.size, 2, none⟩) (ownsRow_setCell_below (a := ⟨w.heap.size, 1, none⟩) (ownsRow_setCell_below (a := ⟨w.heap.size, 0, none⟩) hown2 hz (.int .i64 V)) hz (.int .i64 F)) hz (.slice sl c.length cap)) (Nat.le_of_lt hz)
  · exact ((HB2.setCell (Nat.le_refl _) _).setCell (Nat.le_refl _) _).setCell (Nat.le_refl _) _
end Go.Proofs.YtmapdpcfanecdaaDoor
