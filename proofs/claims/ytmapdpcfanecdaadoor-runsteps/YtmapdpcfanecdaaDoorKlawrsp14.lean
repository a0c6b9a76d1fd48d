/- Walks over package code: the line of an instruction, kind by kind. -/
import Derived.Test.YtmapdpcfanecdaaDoorKlawrsp13
namespace Go.Proofs.YtmapdpcfanecdaaDoor
set_option linter.unusedVariables false
set_option linter.unusedSimpArgs false
open Go.RowKit

set_option maxHeartbeats 2000000 in
set_option maxRecDepth 20000 in
theorem printInstr_1 (N : Nat) (tt a b n g : Int) (w : World) (hs : ShpAt N shps w) (ht : Tab w) (htt : fits tt) (hn : fits n) :
    Calls Tryd.prog 32 #[.map (some N), .agg #[.int .i64 1, .int .i64 tt, .int .i64 a, .int .i64 b, .int .i64 n, .int .i64 g]] w fun e w' => e = .returned (.string (lineB ⟨1, tt, a, b, n, g⟩ ++ ⟨#[10]⟩)) ∧ Below w.heap.size w w' := by
  obtain ⟨ti, hi, hz0, hz1, hz2⟩ := info_parts info_str
  have hb1 : Below w.heap.size w (w.alloc (.cells #[.int .i64 1, .int .i64 tt, .int .i64 a, .int .i64 b, .int .i64 n, .int .i64 g] 71)) := by go_grown
  have hl : (Instr.lookup 60 (.map (some N)) (.int .i64 1) false).run Tryd.prog _ = .ok (.agg #[.string (wordB 1), .slice (some ⟨N + 1, 0, none⟩) 2 2]) _ := look_val (hs.below hb1 (Nat.le_refl _)) 1 0 _ rfl
  have hb3 : Below w.heap.size w (((w.alloc (.cells #[.int .i64 1, .int .i64 tt, .int .i64 a, .int .i64 b, .int .i64 n, .int .i64 g] 71)).alloc (.cells #[.string (wordB 1), .slice (some ⟨N + 1, 0, none⟩) 2 2] 105)).alloc (.cells #[.string (wordB 1)] 9)) := by go_grown
  have ho0 : (((w.alloc (.cells #[.int .i64 1, .int .i64 tt, .int .i64 a, .int .i64 b, .int .i64 n, .int .i64 g] 71)).alloc (.cells #[.string (wordB 1), .slice (some ⟨N + 1, 0, none⟩) 2 2] 105)).alloc (.cells #[.string (wordB 1)] 9)).ownsRow (w.heap.size + 2) 9 1 (.slice (some ⟨w.heap.size + 2, 0, none⟩) 1 1) 1 [.string (wordB 1)] := by
    have := World.ownsRow_lit (base := w.heap.size + 2) (e := 9) (size := 1) ((w.alloc (.cells #[.int .i64 1, .int .i64 tt, .int .i64 a, .int .i64 b, .int .i64 n, .int .i64 g] 71)).alloc (.cells #[.string (wordB 1), .slice (some ⟨N + 1, 0, none⟩) 2 2] 105)) #[.string (wordB 1)] 1 (by simp) (by decide) rfl
    simpa using this
  have HB0 : Below (w.heap.size + 2) (((w.alloc (.cells #[.int .i64 1, .int .i64 tt, .int .i64 a, .int .i64 b, .int .i64 n, .int .i64 g] 71)).alloc (.cells #[.string (wordB 1), .slice (some ⟨N + 1, 0, none⟩) 2 2] 105)).alloc (.cells #[.string (wordB 1)] 9)) (((w.alloc (.cells #[.int .i64 1, .int .i64 tt, .int .i64 a, .int .i64 b, .int .i64 n, .int .i64 g] 71)).alloc (.cells #[.string (wordB 1), .slice (some ⟨N + 1, 0, none⟩) 2 2] 105)).alloc (.cells #[.string (wordB 1)] 9)) := Below.refl _ _
  have hsz : Hid ((joinB [wordB 1, itoaB tt, itoaB n]).size ≤ 1000) := by
    show _ ≤ _
    have sw : (wordB 1).size = 6 := rfl
    have ltt := itoaB_size tt htt
    have ln := itoaB_size n hn
    simp only [joinB_size, joinSize, sw, List.map_cons, List.map_nil, List.sum_cons, List.sum_nil]
    omega
  have hres : Hid (joinB [wordB 1, itoaB tt, itoaB n] = lineB ⟨1, tt, a, b, n, g⟩) := joinB_line _ _ _ rfl rfl
  have hz : N + 1 < w.heap.size := (part_cell hs 0 0 (by decide) (by decide) (.int .i64 0) rfl).2
  have p0 : w.cell? ⟨N + 1, 0, none⟩ = some (.int .i64 0) := (part_cell hs 0 0 (by decide) (by decide) (.int .i64 0) rfl).1
  have p1 : w.cell? ⟨N + 1, 1, none⟩ = some (.int .i64 4) := (part_cell hs 0 1 (by decide) (by decide) (.int .i64 4) rfl).1
  have K : ∀ wx, Below (w.heap.size + 2) (((w.alloc (.cells #[.int .i64 1, .int .i64 tt, .int .i64 a, .int .i64 b, .int .i64 n, .int .i64 g] 71)).alloc (.cells #[.string (wordB 1), .slice (some ⟨N + 1, 0, none⟩) 2 2] 105)).alloc (.cells #[.string (wordB 1)] 9)) wx → wx.cell? ⟨N + 1, 0, none⟩ = some (.int .i64 0) ∧ wx.cell? ⟨N + 1, 1, none⟩ = some (.int .i64 4) ∧ wx.cell? ⟨w.heap.size, 1, none⟩ = some (.int .i64 tt) ∧ wx.cell? ⟨w.heap.size, 4, none⟩ = some (.int .i64 n) := by
    intro wx hb
    refine ⟨?_, ?_, ?_, ?_⟩
    · rw [hb.cell (by simp; omega), hb3.cell hz]; exact p0
    · rw [hb.cell (by simp; omega), hb3.cell hz]; exact p1
    · rw [hb.cell (by simp)]; simp [go_sem]
    · rw [hb.cell (by simp)]; simp [go_sem]
  clear p0 p1
  go_enter Tryd.func32, Tryd.ntmps32
  obtain ⟨P0p0, P0p1, P0qtt, P0qn⟩ := K _ HB0
  go_wp2
  refine wp_loop_rounds 3 ?_
  rw [rounds_succ]
  go_wp2_with (first
    | (go_at_call 62; refine (itoa_any _ _ htt ?tb).mono ?_; (case tb => exact ht.below (Below.trans hb3 (HB0.mono (by omega)))); rintro e u1 ⟨rfl, hu1⟩; have HU1 : Below (w.heap.size + 2) (((w.alloc (.cells #[.int .i64 1, .int .i64 tt, .int .i64 a, .int .i64 b, .int .i64 n, .int .i64 g] 71)).alloc (.cells #[.string (wordB 1), .slice (some ⟨N + 1, 0, none⟩) 2 2] 105)).alloc (.cells #[.string (wordB 1)] 9)) u1 := HB0.trans (hu1.mono (by have := HB0.size; simp at this; simp; try omega)); have hou1 : u1.ownsRow (w.heap.size + 2) 9 1 _ 1 [.string (wordB 1)] := ownsRow_of_block ho0 (fun j hj => hu1.block j (ownsRow_block_lt ho0 hj).1); have hus1 : w.heap.size + 2 ≤ u1.heap.size := (by have := HU1.size; simp at this; omega))
    | (at_builtin; refine wpList_append_own _ rfl _ _ 44 rfl (w.heap.size + 2) 9 ti (.string ⟨#[]⟩) 1 16 Tryd.underlying44 hi hz0 hz1 hz2 rfl (by decide) _ _ _ rfl (hou1.alloc _) ⟨u1.heap.size, 0, none⟩ 1 1 [.string (itoaB tt)] rfl rfl (cell_one_new _ _ _) (fun x hx => by simp at hx; subst hx; rfl) (by unfold maxLen; omega) (by omega) (by simp; omega) ?_; intro s1 v1 ho1 hg1 hn1; have HB1 : Below (w.heap.size + 2) (((w.alloc (.cells #[.int .i64 1, .int .i64 tt, .int .i64 a, .int .i64 b, .int .i64 n, .int .i64 g] 71)).alloc (.cells #[.string (wordB 1), .slice (some ⟨N + 1, 0, none⟩) 2 2] 105)).alloc (.cells #[.string (wordB 1)] 9)) v1 := (HU1.alloc hus1 _).grown hg1 (by simp; omega) (fun j hj => (ownsRow_block_lt hou1 hj).2); obtain ⟨P1p0, P1p1, P1qtt, P1qn⟩ := K _ HB1)
    | go_in)
  rw [rounds_succ]
  go_wp2_with (first
    | (go_at_call 62; refine (itoa_any _ _ hn ?tb).mono ?_; (case tb => exact ht.below (Below.trans hb3 (HB1.mono (by omega)))); rintro e u2 ⟨rfl, hu2⟩; have HU2 : Below (w.heap.size + 2) (((w.alloc (.cells #[.int .i64 1, .int .i64 tt, .int .i64 a, .int .i64 b, .int .i64 n, .int .i64 g] 71)).alloc (.cells #[.string (wordB 1), .slice (some ⟨N + 1, 0, none⟩) 2 2] 105)).alloc (.cells #[.string (wordB 1)] 9)) u2 := HB1.trans (hu2.mono (by have := HB1.size; simp at this; simp; try omega)); have hou2 : u2.ownsRow (w.heap.size + 2) 9 1 _ 2 [.string (wordB 1), .string (itoaB tt)] := ownsRow_of_block ho1 (fun j hj => hu2.block j (ownsRow_block_lt ho1 hj).1); have hus2 : w.heap.size + 2 ≤ u2.heap.size := (by have := HU2.size; simp at this; omega))
    | (at_builtin; refine wpList_append_own _ rfl _ _ 44 rfl (w.heap.size + 2) 9 ti (.string ⟨#[]⟩) 1 16 Tryd.underlying44 hi hz0 hz1 hz2 rfl (by decide) _ _ _ rfl (hou2.alloc _) ⟨u2.heap.size, 0, none⟩ 1 1 [.string (itoaB n)] rfl rfl (cell_one_new _ _ _) (fun x hx => by simp at hx; subst hx; rfl) (by unfold maxLen; omega) (by omega) (by simp; omega) ?_; intro s2 v2 ho2 hg2 hn2; have HB2 : Below (w.heap.size + 2) (((w.alloc (.cells #[.int .i64 1, .int .i64 tt, .int .i64 a, .int .i64 b, .int .i64 n, .int .i64 g] 71)).alloc (.cells #[.string (wordB 1), .slice (some ⟨N + 1, 0, none⟩) 2 2] 105)).alloc (.cells #[.string (wordB 1)] 9)) v2 := (HU2.alloc hus2 _).grown hg2 (by simp; omega) (fun j hj => (ownsRow_block_lt hou2 hj).2); obtain ⟨P2p0, P2p1, P2qtt, P2qn⟩ := K _ HB2)
    | go_in)
  rw [rounds_succ]
  go_wp2_with (go_at_call 61; refine (printLine_own (w.heap.size + 2) _ [wordB 1, itoaB tt, itoaB n] _ ho2 (by simp) (by simp) hsz.out).mono ?_; rintro e wz ⟨rfl, hbz⟩)
  go_ret
  exact ⟨ret_str (by rw [hres.out]), Below.trans hb3 (Below.trans (HB2.mono (by omega)) (hbz.mono (by have := HB2.size; simp at this; simp; try omega)))⟩

set_option maxHeartbeats 2000000 in
set_option maxRecDepth 20000 in
theorem printInstr_2 (N : Nat) (tt a b n g : Int) (w : World) (hs : ShpAt N shps w) (ht : Tab w) (htt : fits tt) (hn : fits n) :
    Calls Tryd.prog 32 #[.map (some N), .agg #[.int .i64 2, .int .i64 tt, .int .i64 a, .int .i64 b, .int .i64 n, .int .i64 g]] w fun e w' => e = .returned (.string (lineB ⟨2, tt, a, b, n, g⟩ ++ ⟨#[10]⟩)) ∧ Below w.heap.size w w' := by
  obtain ⟨ti, hi, hz0, hz1, hz2⟩ := info_parts info_str
  have hb1 : Below w.heap.size w (w.alloc (.cells #[.int .i64 2, .int .i64 tt, .int .i64 a, .int .i64 b, .int .i64 n, .int .i64 g] 71)) := by go_grown
  have hl : (Instr.lookup 60 (.map (some N)) (.int .i64 2) false).run Tryd.prog _ = .ok (.agg #[.string (wordB 2), .slice (some ⟨N + 2, 0, none⟩) 2 2]) _ := look_val (hs.below hb1 (Nat.le_refl _)) 2 1 _ rfl
  have hb3 : Below w.heap.size w (((w.alloc (.cells #[.int .i64 2, .int .i64 tt, .int .i64 a, .int .i64 b, .int .i64 n, .int .i64 g] 71)).alloc (.cells #[.string (wordB 2), .slice (some ⟨N + 2, 0, none⟩) 2 2] 105)).alloc (.cells #[.string (wordB 2)] 9)) := by go_grown
  have ho0 : (((w.alloc (.cells #[.int .i64 2, .int .i64 tt, .int .i64 a, .int .i64 b, .int .i64 n, .int .i64 g] 71)).alloc (.cells #[.string (wordB 2), .slice (some ⟨N + 2, 0, none⟩) 2 2] 105)).alloc (.cells #[.string (wordB 2)] 9)).ownsRow (w.heap.size + 2) 9 1 (.slice (some ⟨w.heap.size + 2, 0, none⟩) 1 1) 1 [.string (wordB 2)] := by
    have := World.ownsRow_lit (base := w.heap.size + 2) (e := 9) (size := 1) ((w.alloc (.cells #[.int .i64 2, .int .i64 tt, .int .i64 a, .int .i64 b, .int .i64 n, .int .i64 g] 71)).alloc (.cells #[.string (wordB 2), .slice (some ⟨N + 2, 0, none⟩) 2 2] 105)) #[.string (wordB 2)] 1 (by simp) (by decide) rfl
    simpa using this
  have HB0 : Below (w.heap.size + 2) (((w.alloc (.cells #[.int .i64 2, .int .i64 tt, .int .i64 a, .int .i64 b, .int .i64 n, .int .i64 g] 71)).alloc (.cells #[.string (wordB 2), .slice (some ⟨N + 2, 0, none⟩) 2 2] 105)).alloc (.cells #[.string (wordB 2)] 9)) (((w.alloc (.cells #[.int .i64 2, .int .i64 tt, .int .i64 a, .int .i64 b, .int .i64 n, .int .i64 g] 71)).alloc (.cells #[.string (wordB 2), .slice (some ⟨N + 2, 0, none⟩) 2 2] 105)).alloc (.cells #[.string (wordB 2)] 9)) := Below.refl _ _
  have hsz : Hid ((joinB [wordB 2, itoaB tt, itoaB n]).size ≤ 1000) := by
    show _ ≤ _
    have sw : (wordB 2).size = 5 := rfl
    have ltt := itoaB_size tt htt
    have ln := itoaB_size n hn
    simp only [joinB_size, joinSize, sw, List.map_cons, List.map_nil, List.sum_cons, List.sum_nil]
    omega
  have hres : Hid (joinB [wordB 2, itoaB tt, itoaB n] = lineB ⟨2, tt, a, b, n, g⟩) := joinB_line _ _ _ rfl rfl
  have hz : N + 2 < w.heap.size := (part_cell hs 1 0 (by decide) (by decide) (.int .i64 0) rfl).2
  have p0 : w.cell? ⟨N + 2, 0, none⟩ = some (.int .i64 0) := (part_cell hs 1 0 (by decide) (by decide) (.int .i64 0) rfl).1
  have p1 : w.cell? ⟨N + 2, 1, none⟩ = some (.int .i64 5) := (part_cell hs 1 1 (by decide) (by decide) (.int .i64 5) rfl).1
  have K : ∀ wx, Below (w.heap.size + 2) (((w.alloc (.cells #[.int .i64 2, .int .i64 tt, .int .i64 a, .int .i64 b, .int .i64 n, .int .i64 g] 71)).alloc (.cells #[.string (wordB 2), .slice (some ⟨N + 2, 0, none⟩) 2 2] 105)).alloc (.cells #[.string (wordB 2)] 9)) wx → wx.cell? ⟨N + 2, 0, none⟩ = some (.int .i64 0) ∧ wx.cell? ⟨N + 2, 1, none⟩ = some (.int .i64 5) ∧ wx.cell? ⟨w.heap.size, 1, none⟩ = some (.int .i64 tt) ∧ wx.cell? ⟨w.heap.size, 4, none⟩ = some (.int .i64 n) := by
    intro wx hb
    refine ⟨?_, ?_, ?_, ?_⟩
    · rw [hb.cell (by simp; omega), hb3.cell hz]; exact p0
    · rw [hb.cell (by simp; omega), hb3.cell hz]; exact p1
    · rw [hb.cell (by simp)]; simp [go_sem]
    · rw [hb.cell (by simp)]; simp [go_sem]
  clear p0 p1
  go_enter Tryd.func32, Tryd.ntmps32
  obtain ⟨P0p0, P0p1, P0qtt, P0qn⟩ := K _ HB0
  go_wp2
  refine wp_loop_rounds 3 ?_
  rw [rounds_succ]
  go_wp2_with (first
    | (go_at_call 62; refine (itoa_any _ _ htt ?tb).mono ?_; (case tb => exact ht.below (Below.trans hb3 (HB0.mono (by omega)))); rintro e u1 ⟨rfl, hu1⟩; have HU1 : Below (w.heap.size + 2) (((w.alloc (.cells #[.int .i64 2, .int .i64 tt, .int .i64 a, .int .i64 b, .int .i64 n, .int .i64 g] 71)).alloc (.cells #[.string (wordB 2), .slice (some ⟨N + 2, 0, none⟩) 2 2] 105)).alloc (.cells #[.string (wordB 2)] 9)) u1 := HB0.trans (hu1.mono (by have := HB0.size; simp at this; simp; try omega)); have hou1 : u1.ownsRow (w.heap.size + 2) 9 1 _ 1 [.string (wordB 2)] := ownsRow_of_block ho0 (fun j hj => hu1.block j (ownsRow_block_lt ho0 hj).1); have hus1 : w.heap.size + 2 ≤ u1.heap.size := (by have := HU1.size; simp at this; omega))
    | (at_builtin; refine wpList_append_own _ rfl _ _ 44 rfl (w.heap.size + 2) 9 ti (.string ⟨#[]⟩) 1 16 Tryd.underlying44 hi hz0 hz1 hz2 rfl (by decide) _ _ _ rfl (hou1.alloc _) ⟨u1.heap.size, 0, none⟩ 1 1 [.string (itoaB tt)] rfl rfl (cell_one_new _ _ _) (fun x hx => by simp at hx; subst hx; rfl) (by unfold maxLen; omega) (by omega) (by simp; omega) ?_; intro s1 v1 ho1 hg1 hn1; have HB1 : Below (w.heap.size + 2) (((w.alloc (.cells #[.int .i64 2, .int .i64 tt, .int .i64 a, .int .i64 b, .int .i64 n, .int .i64 g] 71)).alloc (.cells #[.string (wordB 2), .slice (some ⟨N + 2, 0, none⟩) 2 2] 105)).alloc (.cells #[.string (wordB 2)] 9)) v1 := (HU1.alloc hus1 _).grown hg1 (by simp; omega) (fun j hj => (ownsRow_block_lt hou1 hj).2); obtain ⟨P1p0, P1p1, P1qtt, P1qn⟩ := K _ HB1)
    | go_in)
  rw [rounds_succ]
  go_wp2_with (first
    | (go_at_call 62; refine (itoa_any _ _ hn ?tb).mono ?_; (case tb => exact ht.below (Below.trans hb3 (HB1.mono (by omega)))); rintro e u2 ⟨rfl, hu2⟩; have HU2 : Below (w.heap.size + 2) (((w.alloc (.cells #[.int .i64 2, .int .i64 tt, .int .i64 a, .int .i64 b, .int .i64 n, .int .i64 g] 71)).alloc (.cells #[.string (wordB 2), .slice (some ⟨N + 2, 0, none⟩) 2 2] 105)).alloc (.cells #[.string (wordB 2)] 9)) u2 := HB1.trans (hu2.mono (by have := HB1.size; simp at this; simp; try omega)); have hou2 : u2.ownsRow (w.heap.size + 2) 9 1 _ 2 [.string (wordB 2), .string (itoaB tt)] := ownsRow_of_block ho1 (fun j hj => hu2.block j (ownsRow_block_lt ho1 hj).1); have hus2 : w.heap.size + 2 ≤ u2.heap.size := (by have := HU2.size; simp at this; omega))
    | (at_builtin; refine wpList_append_own _ rfl _ _ 44 rfl (w.heap.size + 2) 9 ti (.string ⟨#[]⟩) 1 16 Tryd.underlying44 hi hz0 hz1 hz2 rfl (by decide) _ _ _ rfl (hou2.alloc _) ⟨u2.heap.size, 0, none⟩ 1 1 [.string (itoaB n)] rfl rfl (cell_one_new _ _ _) (fun x hx => by simp at hx; subst hx; rfl) (by unfold maxLen; omega) (by omega) (by simp; omega) ?_; intro s2 v2 ho2 hg2 hn2; have HB2 : Below (w.heap.size + 2) (((w.alloc (.cells #[.int .i64 2, .int .i64 tt, .int .i64 a, .int .i64 b, .int .i64 n, .int .i64 g] 71)).alloc (.cells #[.string (wordB 2), .slice (some ⟨N + 2, 0, none⟩) 2 2] 105)).alloc (.cells #[.string (wordB 2)] 9)) v2 := (HU2.alloc hus2 _).grown hg2 (by simp; omega) (fun j hj => (ownsRow_block_lt hou2 hj).2); obtain ⟨P2p0, P2p1, P2qtt, P2qn⟩ := K _ HB2)
    | go_in)
  rw [rounds_succ]
  go_wp2_with (go_at_call 61; refine (printLine_own (w.heap.size + 2) _ [wordB 2, itoaB tt, itoaB n] _ ho2 (by simp) (by simp) hsz.out).mono ?_; rintro e wz ⟨rfl, hbz⟩)
  go_ret
  exact ⟨ret_str (by rw [hres.out]), Below.trans hb3 (Below.trans (HB2.mono (by omega)) (hbz.mono (by have := HB2.size; simp at this; simp; try omega)))⟩

set_option maxHeartbeats 2000000 in
set_option maxRecDepth 20000 in
theorem printInstr_3 (N : Nat) (tt a b n g : Int) (w : World) (hs : ShpAt N shps w) (ht : Tab w) (htt : fits tt) :
    Calls Tryd.prog 32 #[.map (some N), .agg #[.int .i64 3, .int .i64 tt, .int .i64 a, .int .i64 b, .int .i64 n, .int .i64 g]] w fun e w' => e = .returned (.string (lineB ⟨3, tt, a, b, n, g⟩ ++ ⟨#[10]⟩)) ∧ Below w.heap.size w w' := by
  obtain ⟨ti, hi, hz0, hz1, hz2⟩ := info_parts info_str
  have hb1 : Below w.heap.size w (w.alloc (.cells #[.int .i64 3, .int .i64 tt, .int .i64 a, .int .i64 b, .int .i64 n, .int .i64 g] 71)) := by go_grown
  have hl : (Instr.lookup 60 (.map (some N)) (.int .i64 3) false).run Tryd.prog _ = .ok (.agg #[.string (wordB 3), .slice (some ⟨N + 3, 0, none⟩) 1 1]) _ := look_val (hs.below hb1 (Nat.le_refl _)) 3 2 _ rfl
  have hb3 : Below w.heap.size w (((w.alloc (.cells #[.int .i64 3, .int .i64 tt, .int .i64 a, .int .i64 b, .int .i64 n, .int .i64 g] 71)).alloc (.cells #[.string (wordB 3), .slice (some ⟨N + 3, 0, none⟩) 1 1] 105)).alloc (.cells #[.string (wordB 3)] 9)) := by go_grown
  have ho0 : (((w.alloc (.cells #[.int .i64 3, .int .i64 tt, .int .i64 a, .int .i64 b, .int .i64 n, .int .i64 g] 71)).alloc (.cells #[.string (wordB 3), .slice (some ⟨N + 3, 0, none⟩) 1 1] 105)).alloc (.cells #[.string (wordB 3)] 9)).ownsRow (w.heap.size + 2) 9 1 (.slice (some ⟨w.heap.size + 2, 0, none⟩) 1 1) 1 [.string (wordB 3)] := by
    have := World.ownsRow_lit (base := w.heap.size + 2) (e := 9) (size := 1) ((w.alloc (.cells #[.int .i64 3, .int .i64 tt, .int .i64 a, .int .i64 b, .int .i64 n, .int .i64 g] 71)).alloc (.cells #[.string (wordB 3), .slice (some ⟨N + 3, 0, none⟩) 1 1] 105)) #[.string (wordB 3)] 1 (by simp) (by decide) rfl
    simpa using this
  have HB0 : Below (w.heap.size + 2) (((w.alloc (.cells #[.int .i64 3, .int .i64 tt, .int .i64 a, .int .i64 b, .int .i64 n, .int .i64 g] 71)).alloc (.cells #[.string (wordB 3), .slice (some ⟨N + 3, 0, none⟩) 1 1] 105)).alloc (.cells #[.string (wordB 3)] 9)) (((w.alloc (.cells #[.int .i64 3, .int .i64 tt, .int .i64 a, .int .i64 b, .int .i64 n, .int .i64 g] 71)).alloc (.cells #[.string (wordB 3), .slice (some ⟨N + 3, 0, none⟩) 1 1] 105)).alloc (.cells #[.string (wordB 3)] 9)) := Below.refl _ _
  have hsz : Hid ((joinB [wordB 3, itoaB tt]).size ≤ 1000) := by
    show _ ≤ _
    have sw : (wordB 3).size = 4 := rfl
    have ltt := itoaB_size tt htt
    simp only [joinB_size, joinSize, sw, List.map_cons, List.map_nil, List.sum_cons, List.sum_nil]
    omega
  have hres : Hid (joinB [wordB 3, itoaB tt] = lineB ⟨3, tt, a, b, n, g⟩) := joinB_line _ _ _ rfl rfl
  have hz : N + 3 < w.heap.size := (part_cell hs 2 0 (by decide) (by decide) (.int .i64 0) rfl).2
  have p0 : w.cell? ⟨N + 3, 0, none⟩ = some (.int .i64 0) := (part_cell hs 2 0 (by decide) (by decide) (.int .i64 0) rfl).1
  have K : ∀ wx, Below (w.heap.size + 2) (((w.alloc (.cells #[.int .i64 3, .int .i64 tt, .int .i64 a, .int .i64 b, .int .i64 n, .int .i64 g] 71)).alloc (.cells #[.string (wordB 3), .slice (some ⟨N + 3, 0, none⟩) 1 1] 105)).alloc (.cells #[.string (wordB 3)] 9)) wx → wx.cell? ⟨N + 3, 0, none⟩ = some (.int .i64 0) ∧ wx.cell? ⟨w.heap.size, 1, none⟩ = some (.int .i64 tt) := by
    intro wx hb
    refine ⟨?_, ?_⟩
    · rw [hb.cell (by simp; omega), hb3.cell hz]; exact p0
    · rw [hb.cell (by simp)]; simp [go_sem]
  clear p0
  go_enter Tryd.func32, Tryd.ntmps32
  obtain ⟨P0p0, P0qtt⟩ := K _ HB0
  go_wp2
  refine wp_loop_rounds 2 ?_
  rw [rounds_succ]
  go_wp2_with (first
    | (go_at_call 62; refine (itoa_any _ _ htt ?tb).mono ?_; (case tb => exact ht.below (Below.trans hb3 (HB0.mono (by omega)))); rintro e u1 ⟨rfl, hu1⟩; have HU1 : Below (w.heap.size + 2) (((w.alloc (.cells #[.int .i64 3, .int .i64 tt, .int .i64 a, .int .i64 b, .int .i64 n, .int .i64 g] 71)).alloc (.cells #[.string (wordB 3), .slice (some ⟨N + 3, 0, none⟩) 1 1] 105)).alloc (.cells #[.string (wordB 3)] 9)) u1 := HB0.trans (hu1.mono (by have := HB0.size; simp at this; simp; try omega)); have hou1 : u1.ownsRow (w.heap.size + 2) 9 1 _ 1 [.string (wordB 3)] := ownsRow_of_block ho0 (fun j hj => hu1.block j (ownsRow_block_lt ho0 hj).1); have hus1 : w.heap.size + 2 ≤ u1.heap.size := (by have := HU1.size; simp at this; omega))
    | (at_builtin; refine wpList_append_own _ rfl _ _ 44 rfl (w.heap.size + 2) 9 ti (.string ⟨#[]⟩) 1 16 Tryd.underlying44 hi hz0 hz1 hz2 rfl (by decide) _ _ _ rfl (hou1.alloc _) ⟨u1.heap.size, 0, none⟩ 1 1 [.string (itoaB tt)] rfl rfl (cell_one_new _ _ _) (fun x hx => by simp at hx; subst hx; rfl) (by unfold maxLen; omega) (by omega) (by simp; omega) ?_; intro s1 v1 ho1 hg1 hn1; have HB1 : Below (w.heap.size + 2) (((w.alloc (.cells #[.int .i64 3, .int .i64 tt, .int .i64 a, .int .i64 b, .int .i64 n, .int .i64 g] 71)).alloc (.cells #[.string (wordB 3), .slice (some ⟨N + 3, 0, none⟩) 1 1] 105)).alloc (.cells #[.string (wordB 3)] 9)) v1 := (HU1.alloc hus1 _).grown hg1 (by simp; omega) (fun j hj => (ownsRow_block_lt hou1 hj).2); obtain ⟨P1p0, P1qtt⟩ := K _ HB1)
    | go_in)
  rw [rounds_succ]
  go_wp2_with (go_at_call 61; refine (printLine_own (w.heap.size + 2) _ [wordB 3, itoaB tt] _ ho1 (by simp) (by simp) hsz.out).mono ?_; rintro e wz ⟨rfl, hbz⟩)
  go_ret
  exact ⟨ret_str (by rw [hres.out]), Below.trans hb3 (Below.trans (HB1.mono (by omega)) (hbz.mono (by have := HB1.size; simp at this; simp; try omega)))⟩

set_option maxHeartbeats 2000000 in
set_option maxRecDepth 20000 in
theorem printInstr_4 (N : Nat) (tt a b n g : Int) (w : World) (hs : ShpAt N shps w) (ht : Tab w) (htt : fits tt) (ha : fits a) :
    Calls Tryd.prog 32 #[.map (some N), .agg #[.int .i64 4, .int .i64 tt, .int .i64 a, .int .i64 b, .int .i64 n, .int .i64 g]] w fun e w' => e = .returned (.string (lineB ⟨4, tt, a, b, n, g⟩ ++ ⟨#[10]⟩)) ∧ Below w.heap.size w w' := by
  obtain ⟨ti, hi, hz0, hz1, hz2⟩ := info_parts info_str
  have hb1 : Below w.heap.size w (w.alloc (.cells #[.int .i64 4, .int .i64 tt, .int .i64 a, .int .i64 b, .int .i64 n, .int .i64 g] 71)) := by go_grown
  have hl : (Instr.lookup 60 (.map (some N)) (.int .i64 4) false).run Tryd.prog _ = .ok (.agg #[.string (wordB 4), .slice (some ⟨N + 4, 0, none⟩) 2 2]) _ := look_val (hs.below hb1 (Nat.le_refl _)) 4 3 _ rfl
  have hb3 : Below w.heap.size w (((w.alloc (.cells #[.int .i64 4, .int .i64 tt, .int .i64 a, .int .i64 b, .int .i64 n, .int .i64 g] 71)).alloc (.cells #[.string (wordB 4), .slice (some ⟨N + 4, 0, none⟩) 2 2] 105)).alloc (.cells #[.string (wordB 4)] 9)) := by go_grown
  have ho0 : (((w.alloc (.cells #[.int .i64 4, .int .i64 tt, .int .i64 a, .int .i64 b, .int .i64 n, .int .i64 g] 71)).alloc (.cells #[.string (wordB 4), .slice (some ⟨N + 4, 0, none⟩) 2 2] 105)).alloc (.cells #[.string (wordB 4)] 9)).ownsRow (w.heap.size + 2) 9 1 (.slice (some ⟨w.heap.size + 2, 0, none⟩) 1 1) 1 [.string (wordB 4)] := by
    have := World.ownsRow_lit (base := w.heap.size + 2) (e := 9) (size := 1) ((w.alloc (.cells #[.int .i64 4, .int .i64 tt, .int .i64 a, .int .i64 b, .int .i64 n, .int .i64 g] 71)).alloc (.cells #[.string (wordB 4), .slice (some ⟨N + 4, 0, none⟩) 2 2] 105)) #[.string (wordB 4)] 1 (by simp) (by decide) rfl
    simpa using this
  have HB0 : Below (w.heap.size + 2) (((w.alloc (.cells #[.int .i64 4, .int .i64 tt, .int .i64 a, .int .i64 b, .int .i64 n, .int .i64 g] 71)).alloc (.cells #[.string (wordB 4), .slice (some ⟨N + 4, 0, none⟩) 2 2] 105)).alloc (.cells #[.string (wordB 4)] 9)) (((w.alloc (.cells #[.int .i64 4, .int .i64 tt, .int .i64 a, .int .i64 b, .int .i64 n, .int .i64 g] 71)).alloc (.cells #[.string (wordB 4), .slice (some ⟨N + 4, 0, none⟩) 2 2] 105)).alloc (.cells #[.string (wordB 4)] 9)) := Below.refl _ _
  have hsz : Hid ((joinB [wordB 4, itoaB tt, itoaB a]).size ≤ 1000) := by
    show _ ≤ _
    have sw : (wordB 4).size = 4 := rfl
    have ltt := itoaB_size tt htt
    have la := itoaB_size a ha
    simp only [joinB_size, joinSize, sw, List.map_cons, List.map_nil, List.sum_cons, List.sum_nil]
    omega
  have hres : Hid (joinB [wordB 4, itoaB tt, itoaB a] = lineB ⟨4, tt, a, b, n, g⟩) := joinB_line _ _ _ rfl rfl
  have hz : N + 4 < w.heap.size := (part_cell hs 3 0 (by decide) (by decide) (.int .i64 0) rfl).2
  have p0 : w.cell? ⟨N + 4, 0, none⟩ = some (.int .i64 0) := (part_cell hs 3 0 (by decide) (by decide) (.int .i64 0) rfl).1
  have p1 : w.cell? ⟨N + 4, 1, none⟩ = some (.int .i64 1) := (part_cell hs 3 1 (by decide) (by decide) (.int .i64 1) rfl).1
  have K : ∀ wx, Below (w.heap.size + 2) (((w.alloc (.cells #[.int .i64 4, .int .i64 tt, .int .i64 a, .int .i64 b, .int .i64 n, .int .i64 g] 71)).alloc (.cells #[.string (wordB 4), .slice (some ⟨N + 4, 0, none⟩) 2 2] 105)).alloc (.cells #[.string (wordB 4)] 9)) wx → wx.cell? ⟨N + 4, 0, none⟩ = some (.int .i64 0) ∧ wx.cell? ⟨N + 4, 1, none⟩ = some (.int .i64 1) ∧ wx.cell? ⟨w.heap.size, 1, none⟩ = some (.int .i64 tt) ∧ wx.cell? ⟨w.heap.size, 2, none⟩ = some (.int .i64 a) := by
    intro wx hb
    refine ⟨?_, ?_, ?_, ?_⟩
    · rw [hb.cell (by simp; omega), hb3.cell hz]; exact p0
    · rw [hb.cell (by simp; omega), hb3.cell hz]; exact p1
    · rw [hb.cell (by simp)]; simp [go_sem]
    · rw [hb.cell (by simp)]; simp [go_sem]
  clear p0 p1
  go_enter Tryd.func32, Tryd.ntmps32
  obtain ⟨P0p0, P0p1, P0qtt, P0qa⟩ := K _ HB0
  go_wp2
  refine wp_loop_rounds 3 ?_
  rw [rounds_succ]
  go_wp2_with (first
    | (go_at_call 62; refine (itoa_any _ _ htt ?tb).mono ?_; (case tb => exact ht.below (Below.trans hb3 (HB0.mono (by omega)))); rintro e u1 ⟨rfl, hu1⟩; have HU1 : Below (w.heap.size + 2) (((w.alloc (.cells #[.int .i64 4, .int .i64 tt, .int .i64 a, .int .i64 b, .int .i64 n, .int .i64 g] 71)).alloc (.cells #[.string (wordB 4), .slice (some ⟨N + 4, 0, none⟩) 2 2] 105)).alloc (.cells #[.string (wordB 4)] 9)) u1 := HB0.trans (hu1.mono (by have := HB0.size; simp at this; simp; try omega)); have hou1 : u1.ownsRow (w.heap.size + 2) 9 1 _ 1 [.string (wordB 4)] := ownsRow_of_block ho0 (fun j hj => hu1.block j (ownsRow_block_lt ho0 hj).1); have hus1 : w.heap.size + 2 ≤ u1.heap.size := (by have := HU1.size; simp at this; omega))
    | (at_builtin; refine wpList_append_own _ rfl _ _ 44 rfl (w.heap.size + 2) 9 ti (.string ⟨#[]⟩) 1 16 Tryd.underlying44 hi hz0 hz1 hz2 rfl (by decide) _ _ _ rfl (hou1.alloc _) ⟨u1.heap.size, 0, none⟩ 1 1 [.string (itoaB tt)] rfl rfl (cell_one_new _ _ _) (fun x hx => by simp at hx; subst hx; rfl) (by unfold maxLen; omega) (by omega) (by simp; omega) ?_; intro s1 v1 ho1 hg1 hn1; have HB1 : Below (w.heap.size + 2) (((w.alloc (.cells #[.int .i64 4, .int .i64 tt, .int .i64 a, .int .i64 b, .int .i64 n, .int .i64 g] 71)).alloc (.cells #[.string (wordB 4), .slice (some ⟨N + 4, 0, none⟩) 2 2] 105)).alloc (.cells #[.string (wordB 4)] 9)) v1 := (HU1.alloc hus1 _).grown hg1 (by simp; omega) (fun j hj => (ownsRow_block_lt hou1 hj).2); obtain ⟨P1p0, P1p1, P1qtt, P1qa⟩ := K _ HB1)
    | go_in)
  rw [rounds_succ]
  go_wp2_with (first
    | (go_at_call 62; refine (itoa_any _ _ ha ?tb).mono ?_; (case tb => exact ht.below (Below.trans hb3 (HB1.mono (by omega)))); rintro e u2 ⟨rfl, hu2⟩; have HU2 : Below (w.heap.size + 2) (((w.alloc (.cells #[.int .i64 4, .int .i64 tt, .int .i64 a, .int .i64 b, .int .i64 n, .int .i64 g] 71)).alloc (.cells #[.string (wordB 4), .slice (some ⟨N + 4, 0, none⟩) 2 2] 105)).alloc (.cells #[.string (wordB 4)] 9)) u2 := HB1.trans (hu2.mono (by have := HB1.size; simp at this; simp; try omega)); have hou2 : u2.ownsRow (w.heap.size + 2) 9 1 _ 2 [.string (wordB 4), .string (itoaB tt)] := ownsRow_of_block ho1 (fun j hj => hu2.block j (ownsRow_block_lt ho1 hj).1); have hus2 : w.heap.size + 2 ≤ u2.heap.size := (by have := HU2.size; simp at this; omega))
    | (at_builtin; refine wpList_append_own _ rfl _ _ 44 rfl (w.heap.size + 2) 9 ti (.string ⟨#[]⟩) 1 16 Tryd.underlying44 hi hz0 hz1 hz2 rfl (by decide) _ _ _ rfl (hou2.alloc _) ⟨u2.heap.size, 0, none⟩ 1 1 [.string (itoaB a)] rfl rfl (cell_one_new _ _ _) (fun x hx => by simp at hx; subst hx; rfl) (by unfold maxLen; omega) (by omega) (by simp; omega) ?_; intro s2 v2 ho2 hg2 hn2; have HB2 : Below (w.heap.size + 2) (((w.alloc (.cells #[.int .i64 4, .int .i64 tt, .int .i64 a, .int .i64 b, .int .i64 n, .int .i64 g] 71)).alloc (.cells #[.string (wordB 4), .slice (some ⟨N + 4, 0, none⟩) 2 2] 105)).alloc (.cells #[.string (wordB 4)] 9)) v2 := (HU2.alloc hus2 _).grown hg2 (by simp; omega) (fun j hj => (ownsRow_block_lt hou2 hj).2); obtain ⟨P2p0, P2p1, P2qtt, P2qa⟩ := K _ HB2)
    | go_in)
  rw [rounds_succ]
  go_wp2_with (go_at_call 61; refine (printLine_own (w.heap.size + 2) _ [wordB 4, itoaB tt, itoaB a] _ ho2 (by simp) (by simp) hsz.out).mono ?_; rintro e wz ⟨rfl, hbz⟩)
  go_ret
  exact ⟨ret_str (by rw [hres.out]), Below.trans hb3 (Below.trans (HB2.mono (by omega)) (hbz.mono (by have := HB2.size; simp at this; simp; try omega)))⟩

set_option maxHeartbeats 2000000 in
set_option maxRecDepth 20000 in
theorem printInstr_19 (N : Nat) (tt a b n g : Int) (w : World) (hs : ShpAt N shps w) (ht : Tab w)  :
    Calls Tryd.prog 32 #[.map (some N), .agg #[.int .i64 19, .int .i64 tt, .int .i64 a, .int .i64 b, .int .i64 n, .int .i64 g]] w fun e w' => e = .returned (.string (lineB ⟨19, tt, a, b, n, g⟩ ++ ⟨#[10]⟩)) ∧ Below w.heap.size w w' := by
  obtain ⟨ti, hi, hz0, hz1, hz2⟩ := info_parts info_str
  have hb1 : Below w.heap.size w (w.alloc (.cells #[.int .i64 19, .int .i64 tt, .int .i64 a, .int .i64 b, .int .i64 n, .int .i64 g] 71)) := by go_grown
  have hl : (Instr.lookup 60 (.map (some N)) (.int .i64 19) false).run Tryd.prog _ = .ok (.agg #[.string (wordB 19), .slice none 0 0]) _ := look_val (hs.below hb1 (Nat.le_refl _)) 19 18 _ rfl
  have hb3 : Below w.heap.size w (((w.alloc (.cells #[.int .i64 19, .int .i64 tt, .int .i64 a, .int .i64 b, .int .i64 n, .int .i64 g] 71)).alloc (.cells #[.string (wordB 19), .slice none 0 0] 105)).alloc (.cells #[.string (wordB 19)] 9)) := by go_grown
  have ho0 : (((w.alloc (.cells #[.int .i64 19, .int .i64 tt, .int .i64 a, .int .i64 b, .int .i64 n, .int .i64 g] 71)).alloc (.cells #[.string (wordB 19), .slice none 0 0] 105)).alloc (.cells #[.string (wordB 19)] 9)).ownsRow (w.heap.size + 2) 9 1 (.slice (some ⟨w.heap.size + 2, 0, none⟩) 1 1) 1 [.string (wordB 19)] := by
    have := World.ownsRow_lit (base := w.heap.size + 2) (e := 9) (size := 1) ((w.alloc (.cells #[.int .i64 19, .int .i64 tt, .int .i64 a, .int .i64 b, .int .i64 n, .int .i64 g] 71)).alloc (.cells #[.string (wordB 19), .slice none 0 0] 105)) #[.string (wordB 19)] 1 (by simp) (by decide) rfl
    simpa using this
  have HB0 : Below (w.heap.size + 2) (((w.alloc (.cells #[.int .i64 19, .int .i64 tt, .int .i64 a, .int .i64 b, .int .i64 n, .int .i64 g] 71)).alloc (.cells #[.string (wordB 19), .slice none 0 0] 105)).alloc (.cells #[.string (wordB 19)] 9)) (((w.alloc (.cells #[.int .i64 19, .int .i64 tt, .int .i64 a, .int .i64 b, .int .i64 n, .int .i64 g] 71)).alloc (.cells #[.string (wordB 19), .slice none 0 0] 105)).alloc (.cells #[.string (wordB 19)] 9)) := Below.refl _ _
  have hsz : Hid ((joinB [wordB 19]).size ≤ 1000) := by
    show _ ≤ _
    have sw : (wordB 19).size = 3 := rfl
    simp only [joinB_size, joinSize, sw, List.map_cons, List.map_nil, List.sum_cons, List.sum_nil]
    omega
  have hres : Hid (joinB [wordB 19] = lineB ⟨19, tt, a, b, n, g⟩) := joinB_line _ _ _ rfl rfl
  go_enter Tryd.func32, Tryd.ntmps32
  go_wp2
  refine wp_loop_rounds 1 ?_
  rw [rounds_succ]
  go_wp2_with (go_at_call 61; refine (printLine_own (w.heap.size + 2) _ [wordB 19] _ ho0 (by simp) (by simp) hsz.out).mono ?_; rintro e wz ⟨rfl, hbz⟩)
  go_ret
  exact ⟨ret_str (by rw [hres.out]), Below.trans hb3 (Below.trans (HB0.mono (by omega)) (hbz.mono (by have := HB0.size; simp at this; simp; try omega)))⟩

set_option maxHeartbeats 2000000 in
set_option maxRecDepth 20000 in
theorem printInstr_11 (N : Nat) (tt a b n g : Int) (w : World) (hs : ShpAt N shps w) (ht : Tab w) (htt : fits tt) :
    Calls Tryd.prog 32 #[.map (some N), .agg #[.int .i64 11, .int .i64 tt, .int .i64 a, .int .i64 b, .int .i64 n, .int .i64 g]] w fun e w' => e = .returned (.string (lineB ⟨11, tt, a, b, n, g⟩ ++ ⟨#[10]⟩)) ∧ Below w.heap.size w w' := by
  obtain ⟨ti, hi, hz0, hz1, hz2⟩ := info_parts info_str
  have hb1 : Below w.heap.size w (w.alloc (.cells #[.int .i64 11, .int .i64 tt, .int .i64 a, .int .i64 b, .int .i64 n, .int .i64 g] 71)) := by go_grown
  have hl : (Instr.lookup 60 (.map (some N)) (.int .i64 11) false).run Tryd.prog _ = .ok (.agg #[.string (wordB 11), .slice (some ⟨N + 11, 0, none⟩) 1 1]) _ := look_val (hs.below hb1 (Nat.le_refl _)) 11 10 _ rfl
  have hb3 : Below w.heap.size w (((w.alloc (.cells #[.int .i64 11, .int .i64 tt, .int .i64 a, .int .i64 b, .int .i64 n, .int .i64 g] 71)).alloc (.cells #[.string (wordB 11), .slice (some ⟨N + 11, 0, none⟩) 1 1] 105)).alloc (.cells #[.string (wordB 11)] 9)) := by go_grown
  have ho0 : (((w.alloc (.cells #[.int .i64 11, .int .i64 tt, .int .i64 a, .int .i64 b, .int .i64 n, .int .i64 g] 71)).alloc (.cells #[.string (wordB 11), .slice (some ⟨N + 11, 0, none⟩) 1 1] 105)).alloc (.cells #[.string (wordB 11)] 9)).ownsRow (w.heap.size + 2) 9 1 (.slice (some ⟨w.heap.size + 2, 0, none⟩) 1 1) 1 [.string (wordB 11)] := by
    have := World.ownsRow_lit (base := w.heap.size + 2) (e := 9) (size := 1) ((w.alloc (.cells #[.int .i64 11, .int .i64 tt, .int .i64 a, .int .i64 b, .int .i64 n, .int .i64 g] 71)).alloc (.cells #[.string (wordB 11), .slice (some ⟨N + 11, 0, none⟩) 1 1] 105)) #[.string (wordB 11)] 1 (by simp) (by decide) rfl
    simpa using this
  have HB0 : Below (w.heap.size + 2) (((w.alloc (.cells #[.int .i64 11, .int .i64 tt, .int .i64 a, .int .i64 b, .int .i64 n, .int .i64 g] 71)).alloc (.cells #[.string (wordB 11), .slice (some ⟨N + 11, 0, none⟩) 1 1] 105)).alloc (.cells #[.string (wordB 11)] 9)) (((w.alloc (.cells #[.int .i64 11, .int .i64 tt, .int .i64 a, .int .i64 b, .int .i64 n, .int .i64 g] 71)).alloc (.cells #[.string (wordB 11), .slice (some ⟨N + 11, 0, none⟩) 1 1] 105)).alloc (.cells #[.string (wordB 11)] 9)) := Below.refl _ _
  have hsz : Hid ((joinB [wordB 11, itoaB tt]).size ≤ 1000) := by
    show _ ≤ _
    have sw : (wordB 11).size = 3 := rfl
    have ltt := itoaB_size tt htt
    simp only [joinB_size, joinSize, sw, List.map_cons, List.map_nil, List.sum_cons, List.sum_nil]
    omega
  have hres : Hid (joinB [wordB 11, itoaB tt] = lineB ⟨11, tt, a, b, n, g⟩) := joinB_line _ _ _ rfl rfl
  have hz : N + 11 < w.heap.size := (part_cell hs 10 0 (by decide) (by decide) (.int .i64 0) rfl).2
  have p0 : w.cell? ⟨N + 11, 0, none⟩ = some (.int .i64 0) := (part_cell hs 10 0 (by decide) (by decide) (.int .i64 0) rfl).1
  have K : ∀ wx, Below (w.heap.size + 2) (((w.alloc (.cells #[.int .i64 11, .int .i64 tt, .int .i64 a, .int .i64 b, .int .i64 n, .int .i64 g] 71)).alloc (.cells #[.string (wordB 11), .slice (some ⟨N + 11, 0, none⟩) 1 1] 105)).alloc (.cells #[.string (wordB 11)] 9)) wx → wx.cell? ⟨N + 11, 0, none⟩ = some (.int .i64 0) ∧ wx.cell? ⟨w.heap.size, 1, none⟩ = some (.int .i64 tt) := by
    intro wx hb
    refine ⟨?_, ?_⟩
    · rw [hb.cell (by simp; omega), hb3.cell hz]; exact p0
    · rw [hb.cell (by simp)]; simp [go_sem]
  clear p0
  go_enter Tryd.func32, Tryd.ntmps32
  obtain ⟨P0p0, P0qtt⟩ := K _ HB0
  go_wp2
  refine wp_loop_rounds 2 ?_
  rw [rounds_succ]
  go_wp2_with (first
    | (go_at_call 62; refine (itoa_any _ _ htt ?tb).mono ?_; (case tb => exact ht.below (Below.trans hb3 (HB0.mono (by omega)))); rintro e u1 ⟨rfl, hu1⟩; have HU1 : Below (w.heap.size + 2) (((w.alloc (.cells #[.int .i64 11, .int .i64 tt, .int .i64 a, .int .i64 b, .int .i64 n, .int .i64 g] 71)).alloc (.cells #[.string (wordB 11), .slice (some ⟨N + 11, 0, none⟩) 1 1] 105)).alloc (.cells #[.string (wordB 11)] 9)) u1 := HB0.trans (hu1.mono (by have := HB0.size; simp at this; simp; try omega)); have hou1 : u1.ownsRow (w.heap.size + 2) 9 1 _ 1 [.string (wordB 11)] := ownsRow_of_block ho0 (fun j hj => hu1.block j (ownsRow_block_lt ho0 hj).1); have hus1 : w.heap.size + 2 ≤ u1.heap.size := (by have := HU1.size; simp at this; omega))
    | (at_builtin; refine wpList_append_own _ rfl _ _ 44 rfl (w.heap.size + 2) 9 ti (.string ⟨#[]⟩) 1 16 Tryd.underlying44 hi hz0 hz1 hz2 rfl (by decide) _ _ _ rfl (hou1.alloc _) ⟨u1.heap.size, 0, none⟩ 1 1 [.string (itoaB tt)] rfl rfl (cell_one_new _ _ _) (fun x hx => by simp at hx; subst hx; rfl) (by unfold maxLen; omega) (by omega) (by simp; omega) ?_; intro s1 v1 ho1 hg1 hn1; have HB1 : Below (w.heap.size + 2) (((w.alloc (.cells #[.int .i64 11, .int .i64 tt, .int .i64 a, .int .i64 b, .int .i64 n, .int .i64 g] 71)).alloc (.cells #[.string (wordB 11), .slice (some ⟨N + 11, 0, none⟩) 1 1] 105)).alloc (.cells #[.string (wordB 11)] 9)) v1 := (HU1.alloc hus1 _).grown hg1 (by simp; omega) (fun j hj => (ownsRow_block_lt hou1 hj).2); obtain ⟨P1p0, P1qtt⟩ := K _ HB1)
    | go_in)
  rw [rounds_succ]
  go_wp2_with (go_at_call 61; refine (printLine_own (w.heap.size + 2) _ [wordB 11, itoaB tt] _ ho1 (by simp) (by simp) hsz.out).mono ?_; rintro e wz ⟨rfl, hbz⟩)
  go_ret
  exact ⟨ret_str (by rw [hres.out]), Below.trans hb3 (Below.trans (HB1.mono (by omega)) (hbz.mono (by have := HB1.size; simp at this; simp; try omega)))⟩
end Go.Proofs.YtmapdpcfanecdaaDoor
