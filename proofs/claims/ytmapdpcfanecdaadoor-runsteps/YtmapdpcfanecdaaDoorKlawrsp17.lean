/- Walks over package code: the line of an instruction, kind by kind. -/
import Derived.Test.YtmapdpcfanecdaaDoorKlawrsp13
namespace Go.Proofs.YtmapdpcfanecdaaDoor
set_option linter.unusedVariables false
set_option linter.unusedSimpArgs false
open Go.RowKit

set_option maxHeartbeats 2000000 in
set_option maxRecDepth 20000 in
theorem printInstr_14 (N : Nat) (tt a b n g : Int) (w : World) (hs : ShpAt N shps w) (ht : Tab w) (htt : fits tt) (hn : fits n) :
    Calls Tryd.prog 32 #[.map (some N), .agg #[.int .i64 14, .int .i64 tt, .int .i64 a, .int .i64 b, .int .i64 n, .int .i64 g]] w fun e w' => e = .returned (.string (lineB ⟨14, tt, a, b, n, g⟩ ++ ⟨#[10]⟩)) ∧ Below w.heap.size w w' := by
  obtain ⟨ti, hi, hz0, hz1, hz2⟩ := info_parts info_str
  have hb1 : Below w.heap.size w (w.alloc (.cells #[.int .i64 14, .int .i64 tt, .int .i64 a, .int .i64 b, .int .i64 n, .int .i64 g] 71)) := by go_grown
  have hl : (Instr.lookup 60 (.map (some N)) (.int .i64 14) false).run Tryd.prog _ = .ok (.agg #[.string (wordB 14), .slice (some ⟨N + 14, 0, none⟩) 2 2]) _ := look_val (hs.below hb1 (Nat.le_refl _)) 14 13 _ rfl
  have hb3 : Below w.heap.size w (((w.alloc (.cells #[.int .i64 14, .int .i64 tt, .int .i64 a, .int .i64 b, .int .i64 n, .int .i64 g] 71)).alloc (.cells #[.string (wordB 14), .slice (some ⟨N + 14, 0, none⟩) 2 2] 105)).alloc (.cells #[.string (wordB 14)] 9)) := by go_grown
  have ho0 : (((w.alloc (.cells #[.int .i64 14, .int .i64 tt, .int .i64 a, .int .i64 b, .int .i64 n, .int .i64 g] 71)).alloc (.cells #[.string (wordB 14), .slice (some ⟨N + 14, 0, none⟩) 2 2] 105)).alloc (.cells #[.string (wordB 14)] 9)).ownsRow (w.heap.size + 2) 9 1 (.slice (some ⟨w.heap.size + 2, 0, none⟩) 1 1) 1 [.string (wordB 14)] := by
    have := World.ownsRow_lit (base := w.heap.size + 2) (e := 9) (size := 1) ((w.alloc (.cells #[.int .i64 14, .int .i64 tt, .int .i64 a, .int .i64 b, .int .i64 n, .int .i64 g] 71)).alloc (.cells #[.string (wordB 14), .slice (some ⟨N + 14, 0, none⟩) 2 2] 105)) #[.string (wordB 14)] 1 (by simp) (by decide) rfl
    simpa using this
  have HB0 : Below (w.heap.size + 2) (((w.alloc (.cells #[.int .i64 14, .int .i64 tt, .int .i64 a, .int .i64 b, .int .i64 n, .int .i64 g] 71)).alloc (.cells #[.string (wordB 14), .slice (some ⟨N + 14, 0, none⟩) 2 2] 105)).alloc (.cells #[.string (wordB 14)] 9)) (((w.alloc (.cells #[.int .i64 14, .int .i64 tt, .int .i64 a, .int .i64 b, .int .i64 n, .int .i64 g] 71)).alloc (.cells #[.string (wordB 14), .slice (some ⟨N + 14, 0, none⟩) 2 2] 105)).alloc (.cells #[.string (wordB 14)] 9)) := Below.refl _ _
  have hsz : Hid ((joinB [wordB 14, itoaB tt, itoaB n]).size ≤ 1000) := by
    show _ ≤ _
    have sw : (wordB 14).size = 5 := rfl
    have ltt := itoaB_size tt htt
    have ln := itoaB_size n hn
    simp only [joinB_size, joinSize, sw, List.map_cons, List.map_nil, List.sum_cons, List.sum_nil]
    omega
  have hres : Hid (joinB [wordB 14, itoaB tt, itoaB n] = lineB ⟨14, tt, a, b, n, g⟩) := joinB_line _ _ _ rfl rfl
  have hz : N + 14 < w.heap.size := (part_cell hs 13 0 (by decide) (by decide) (.int .i64 0) rfl).2
  have p0 : w.cell? ⟨N + 14, 0, none⟩ = some (.int .i64 0) := (part_cell hs 13 0 (by decide) (by decide) (.int .i64 0) rfl).1
  have p1 : w.cell? ⟨N + 14, 1, none⟩ = some (.int .i64 6) := (part_cell hs 13 1 (by decide) (by decide) (.int .i64 6) rfl).1
  have K : ∀ wx, Below (w.heap.size + 2) (((w.alloc (.cells #[.int .i64 14, .int .i64 tt, .int .i64 a, .int .i64 b, .int .i64 n, .int .i64 g] 71)).alloc (.cells #[.string (wordB 14), .slice (some ⟨N + 14, 0, none⟩) 2 2] 105)).alloc (.cells #[.string (wordB 14)] 9)) wx → wx.cell? ⟨N + 14, 0, none⟩ = some (.int .i64 0) ∧ wx.cell? ⟨N + 14, 1, none⟩ = some (.int .i64 6) ∧ wx.cell? ⟨w.heap.size, 1, none⟩ = some (.int .i64 tt) ∧ wx.cell? ⟨w.heap.size, 4, none⟩ = some (.int .i64 n) := by
    intro wx hb
    refine ⟨?_, ?_, ?_, ?_⟩
    · rw [hb.cell (by simp; omega), hb3.cell hz]; exact p0
    · rw [hb.cell (by simp; omega), hb3.cell hz]; exact p1
    · rw [hb.cell (by simp)]; simp [go_sem]
    · rw [hb.cell (by simp)]; simp [go_sem]
  clear p0 p1
  go_enter Tryd.func32, Tryd.ntmps32
  obtain ⟨P0p0, P0p1, P0qtt, P0qn⟩ := K _ HB0
  go_wp2
  refine wp_loop_rounds 3 ?_
  rw [rounds_succ]
  go_wp2_with (first
    | (go_at_call 62; refine (itoa_any _ _ htt ?tb).mono ?_; (case tb => exact ht.below (Below.trans hb3 (HB0.mono (by omega)))); rintro e u1 ⟨rfl, hu1⟩; have HU1 : Below (w.heap.size + 2) (((w.alloc (.cells #[.int .i64 14, .int .i64 tt, .int .i64 a, .int .i64 b, .int .i64 n, .int .i64 g] 71)).alloc (.cells #[.string (wordB 14), .slice (some ⟨N + 14, 0, none⟩) 2 2] 105)).alloc (.cells #[.string (wordB 14)] 9)) u1 := HB0.trans (hu1.mono (by have := HB0.size; simp at this; simp; try omega)); have hou1 : u1.ownsRow (w.heap.size + 2) 9 1 _ 1 [.string (wordB 14)] := ownsRow_of_block ho0 (fun j hj => hu1.block j (ownsRow_block_lt ho0 hj).1); have hus1 : w.heap.size + 2 ≤ u1.heap.size := (by have := HU1.size; simp at this; omega))
    | (at_builtin; refine wpList_append_own _ rfl _ _ 44 rfl (w.heap.size + 2) 9 ti (.string ⟨#[]⟩) 1 16 Tryd.underlying44 hi hz0 hz1 hz2 rfl (by decide) _ _ _ rfl (hou1.alloc _) ⟨u1.heap.size, 0, none⟩ 1 1 [.string (itoaB tt)] rfl rfl (cell_one_new _ _ _) (fun x hx => by simp at hx; subst hx; rfl) (by unfold maxLen; omega) (by omega) (by simp; omega) ?_; intro s1 v1 ho1 hg1 hn1; have HB1 : Below (w.heap.size + 2) (((w.alloc (.cells #[.int .i64 14, .int .i64 tt, .int .i64 a, .int .i64 b, .int .i64 n, .int .i64 g] 71)).alloc (.cells #[.string (wordB 14), .slice (some ⟨N + 14, 0, none⟩) 2 2] 105)).alloc (.cells #[.string (wordB 14)] 9)) v1 := (HU1.alloc hus1 _).grown hg1 (by simp; omega) (fun j hj => (ownsRow_block_lt hou1 hj).2); obtain ⟨P1p0, P1p1, P1qtt, P1qn⟩ := K _ HB1)
    | go_in)
  rw [rounds_succ]
  go_wp2_with (first
    | (go_at_call 62; refine (itoa_any _ _ hn ?tb).mono ?_; (case tb => exact ht.below (Below.trans hb3 (HB1.mono (by omega)))); rintro e u2 ⟨rfl, hu2⟩; have HU2 : Below (w.heap.size + 2) (((w.alloc (.cells #[.int .i64 14, .int .i64 tt, .int .i64 a, .int .i64 b, .int .i64 n, .int .i64 g] 71)).alloc (.cells #[.string (wordB 14), .slice (some ⟨N + 14, 0, none⟩) 2 2] 105)).alloc (.cells #[.string (wordB 14)] 9)) u2 := HB1.trans (hu2.mono (by have := HB1.size; simp at this; simp; try omega)); have hou2 : u2.ownsRow (w.heap.size + 2) 9 1 _ 2 [.string (wordB 14), .string (itoaB tt)] := ownsRow_of_block ho1 (fun j hj => hu2.block j (ownsRow_block_lt ho1 hj).1); have hus2 : w.heap.size + 2 ≤ u2.heap.size := (by have := HU2.size; simp at this; omega))
    | (at_builtin; refine wpList_append_own _ rfl _ _ 44 rfl (w.heap.size + 2) 9 ti (.string ⟨#[]⟩) 1 16 Tryd.underlying44 hi hz0 hz1 hz2 rfl (by decide) _ _ _ rfl (hou2.alloc _) ⟨u2.heap.size, 0, none⟩ 1 1 [.string (itoaB n)] rfl rfl (cell_one_new _ _ _) (fun x hx => by simp at hx; subst hx; rfl) (by unfold maxLen; omega) (by omega) (by simp; omega) ?_; intro s2 v2 ho2 hg2 hn2; have HB2 : Below (w.heap.size + 2) (((w.alloc (.cells #[.int .i64 14, .int .i64 tt, .int .i64 a, .int .i64 b, .int .i64 n, .int .i64 g] 71)).alloc (.cells #[.string (wordB 14), .slice (some ⟨N + 14, 0, none⟩) 2 2] 105)).alloc (.cells #[.string (wordB 14)] 9)) v2 := (HU2.alloc hus2 _).grown hg2 (by simp; omega) (fun j hj => (ownsRow_block_lt hou2 hj).2); obtain ⟨P2p0, P2p1, P2qtt, P2qn⟩ := K _ HB2)
    | go_in)
  rw [rounds_succ]
  go_wp2_with (go_at_call 61; refine (printLine_own (w.heap.size + 2) _ [wordB 14, itoaB tt, itoaB n] _ ho2 (by simp) (by simp) hsz.out).mono ?_; rintro e wz ⟨rfl, hbz⟩)
  go_ret
  exact ⟨ret_str (by rw [hres.out]), Below.trans hb3 (Below.trans (HB2.mono (by omega)) (hbz.mono (by have := HB2.size; simp at this; simp; try omega)))⟩

set_option maxHeartbeats 2000000 in
set_option maxRecDepth 20000 in
theorem printInstr_15 (N : Nat) (tt a b n g : Int) (w : World) (hs : ShpAt N shps w) (ht : Tab w) (ha : fits a) (hg : fits g) :
    Calls Tryd.prog 32 #[.map (some N), .agg #[.int .i64 15, .int .i64 tt, .int .i64 a, .int .i64 b, .int .i64 n, .int .i64 g]] w fun e w' => e = .returned (.string (lineB ⟨15, tt, a, b, n, g⟩ ++ ⟨#[10]⟩)) ∧ Below w.heap.size w w' := by
  obtain ⟨ti, hi, hz0, hz1, hz2⟩ := info_parts info_str
  have hb1 : Below w.heap.size w (w.alloc (.cells #[.int .i64 15, .int .i64 tt, .int .i64 a, .int .i64 b, .int .i64 n, .int .i64 g] 71)) := by go_grown
  have hl : (Instr.lookup 60 (.map (some N)) (.int .i64 15) false).run Tryd.prog _ = .ok (.agg #[.string (wordB 15), .slice (some ⟨N + 15, 0, none⟩) 2 2]) _ := look_val (hs.below hb1 (Nat.le_refl _)) 15 14 _ rfl
  have hb3 : Below w.heap.size w (((w.alloc (.cells #[.int .i64 15, .int .i64 tt, .int .i64 a, .int .i64 b, .int .i64 n, .int .i64 g] 71)).alloc (.cells #[.string (wordB 15), .slice (some ⟨N + 15, 0, none⟩) 2 2] 105)).alloc (.cells #[.string (wordB 15)] 9)) := by go_grown
  have ho0 : (((w.alloc (.cells #[.int .i64 15, .int .i64 tt, .int .i64 a, .int .i64 b, .int .i64 n, .int .i64 g] 71)).alloc (.cells #[.string (wordB 15), .slice (some ⟨N + 15, 0, none⟩) 2 2] 105)).alloc (.cells #[.string (wordB 15)] 9)).ownsRow (w.heap.size + 2) 9 1 (.slice (some ⟨w.heap.size + 2, 0, none⟩) 1 1) 1 [.string (wordB 15)] := by
    have := World.ownsRow_lit (base := w.heap.size + 2) (e := 9) (size := 1) ((w.alloc (.cells #[.int .i64 15, .int .i64 tt, .int .i64 a, .int .i64 b, .int .i64 n, .int .i64 g] 71)).alloc (.cells #[.string (wordB 15), .slice (some ⟨N + 15, 0, none⟩) 2 2] 105)) #[.string (wordB 15)] 1 (by simp) (by decide) rfl
    simpa using this
  have HB0 : Below (w.heap.size + 2) (((w.alloc (.cells #[.int .i64 15, .int .i64 tt, .int .i64 a, .int .i64 b, .int .i64 n, .int .i64 g] 71)).alloc (.cells #[.string (wordB 15), .slice (some ⟨N + 15, 0, none⟩) 2 2] 105)).alloc (.cells #[.string (wordB 15)] 9)) (((w.alloc (.cells #[.int .i64 15, .int .i64 tt, .int .i64 a, .int .i64 b, .int .i64 n, .int .i64 g] 71)).alloc (.cells #[.string (wordB 15), .slice (some ⟨N + 15, 0, none⟩) 2 2] 105)).alloc (.cells #[.string (wordB 15)] 9)) := Below.refl _ _
  have hsz : Hid ((joinB [wordB 15, itoaB a, itoaB g]).size ≤ 1000) := by
    show _ ≤ _
    have sw : (wordB 15).size = 2 := rfl
    have la := itoaB_size a ha
    have lg := itoaB_size g hg
    simp only [joinB_size, joinSize, sw, List.map_cons, List.map_nil, List.sum_cons, List.sum_nil]
    omega
  have hres : Hid (joinB [wordB 15, itoaB a, itoaB g] = lineB ⟨15, tt, a, b, n, g⟩) := joinB_line _ _ _ rfl rfl
  have hz : N + 15 < w.heap.size := (part_cell hs 14 0 (by decide) (by decide) (.int .i64 1) rfl).2
  have p0 : w.cell? ⟨N + 15, 0, none⟩ = some (.int .i64 1) := (part_cell hs 14 0 (by decide) (by decide) (.int .i64 1) rfl).1
  have p1 : w.cell? ⟨N + 15, 1, none⟩ = some (.int .i64 3) := (part_cell hs 14 1 (by decide) (by decide) (.int .i64 3) rfl).1
  have K : ∀ wx, Below (w.heap.size + 2) (((w.alloc (.cells #[.int .i64 15, .int .i64 tt, .int .i64 a, .int .i64 b, .int .i64 n, .int .i64 g] 71)).alloc (.cells #[.string (wordB 15), .slice (some ⟨N + 15, 0, none⟩) 2 2] 105)).alloc (.cells #[.string (wordB 15)] 9)) wx → wx.cell? ⟨N + 15, 0, none⟩ = some (.int .i64 1) ∧ wx.cell? ⟨N + 15, 1, none⟩ = some (.int .i64 3) ∧ wx.cell? ⟨w.heap.size, 2, none⟩ = some (.int .i64 a) ∧ wx.cell? ⟨w.heap.size, 5, none⟩ = some (.int .i64 g) := by
    intro wx hb
    refine ⟨?_, ?_, ?_, ?_⟩
    · rw [hb.cell (by simp; omega), hb3.cell hz]; exact p0
    · rw [hb.cell (by simp; omega), hb3.cell hz]; exact p1
    · rw [hb.cell (by simp)]; simp [go_sem]
    · rw [hb.cell (by simp)]; simp [go_sem]
  clear p0 p1
  go_enter Tryd.func32, Tryd.ntmps32
  obtain ⟨P0p0, P0p1, P0qa, P0qg⟩ := K _ HB0
  go_wp2
  refine wp_loop_rounds 3 ?_
  rw [rounds_succ]
  go_wp2_with (first
    | (go_at_call 62; refine (itoa_any _ _ ha ?tb).mono ?_; (case tb => exact ht.below (Below.trans hb3 (HB0.mono (by omega)))); rintro e u1 ⟨rfl, hu1⟩; have HU1 : Below (w.heap.size + 2) (((w.alloc (.cells #[.int .i64 15, .int .i64 tt, .int .i64 a, .int .i64 b, .int .i64 n, .int .i64 g] 71)).alloc (.cells #[.string (wordB 15), .slice (some ⟨N + 15, 0, none⟩) 2 2] 105)).alloc (.cells #[.string (wordB 15)] 9)) u1 := HB0.trans (hu1.mono (by have := HB0.size; simp at this; simp; try omega)); have hou1 : u1.ownsRow (w.heap.size + 2) 9 1 _ 1 [.string (wordB 15)] := ownsRow_of_block ho0 (fun j hj => hu1.block j (ownsRow_block_lt ho0 hj).1); have hus1 : w.heap.size + 2 ≤ u1.heap.size := (by have := HU1.size; simp at this; omega))
    | (at_builtin; refine wpList_append_own _ rfl _ _ 44 rfl (w.heap.size + 2) 9 ti (.string ⟨#[]⟩) 1 16 Tryd.underlying44 hi hz0 hz1 hz2 rfl (by decide) _ _ _ rfl (hou1.alloc _) ⟨u1.heap.size, 0, none⟩ 1 1 [.string (itoaB a)] rfl rfl (cell_one_new _ _ _) (fun x hx => by simp at hx; subst hx; rfl) (by unfold maxLen; omega) (by omega) (by simp; omega) ?_; intro s1 v1 ho1 hg1 hn1; have HB1 : Below (w.heap.size + 2) (((w.alloc (.cells #[.int .i64 15, .int .i64 tt, .int .i64 a, .int .i64 b, .int .i64 n, .int .i64 g] 71)).alloc (.cells #[.string (wordB 15), .slice (some ⟨N + 15, 0, none⟩) 2 2] 105)).alloc (.cells #[.string (wordB 15)] 9)) v1 := (HU1.alloc hus1 _).grown hg1 (by simp; omega) (fun j hj => (ownsRow_block_lt hou1 hj).2); obtain ⟨P1p0, P1p1, P1qa, P1qg⟩ := K _ HB1)
    | go_in)
  rw [rounds_succ]
  go_wp2_with (first
    | (go_at_call 62; refine (itoa_any _ _ hg ?tb).mono ?_; (case tb => exact ht.below (Below.trans hb3 (HB1.mono (by omega)))); rintro e u2 ⟨rfl, hu2⟩; have HU2 : Below (w.heap.size + 2) (((w.alloc (.cells #[.int .i64 15, .int .i64 tt, .int .i64 a, .int .i64 b, .int .i64 n, .int .i64 g] 71)).alloc (.cells #[.string (wordB 15), .slice (some ⟨N + 15, 0, none⟩) 2 2] 105)).alloc (.cells #[.string (wordB 15)] 9)) u2 := HB1.trans (hu2.mono (by have := HB1.size; simp at this; simp; try omega)); have hou2 : u2.ownsRow (w.heap.size + 2) 9 1 _ 2 [.string (wordB 15), .string (itoaB a)] := ownsRow_of_block ho1 (fun j hj => hu2.block j (ownsRow_block_lt ho1 hj).1); have hus2 : w.heap.size + 2 ≤ u2.heap.size := (by have := HU2.size; simp at this; omega))
    | (at_builtin; refine wpList_append_own _ rfl _ _ 44 rfl (w.heap.size + 2) 9 ti (.string ⟨#[]⟩) 1 16 Tryd.underlying44 hi hz0 hz1 hz2 rfl (by decide) _ _ _ rfl (hou2.alloc _) ⟨u2.heap.size, 0, none⟩ 1 1 [.string (itoaB g)] rfl rfl (cell_one_new _ _ _) (fun x hx => by simp at hx; subst hx; rfl) (by unfold maxLen; omega) (by omega) (by simp; omega) ?_; intro s2 v2 ho2 hg2 hn2; have HB2 : Below (w.heap.size + 2) (((w.alloc (.cells #[.int .i64 15, .int .i64 tt, .int .i64 a, .int .i64 b, .int .i64 n, .int .i64 g] 71)).alloc (.cells #[.string (wordB 15), .slice (some ⟨N + 15, 0, none⟩) 2 2] 105)).alloc (.cells #[.string (wordB 15)] 9)) v2 := (HU2.alloc hus2 _).grown hg2 (by simp; omega) (fun j hj => (ownsRow_block_lt hou2 hj).2); obtain ⟨P2p0, P2p1, P2qa, P2qg⟩ := K _ HB2)
    | go_in)
  rw [rounds_succ]
  go_wp2_with (go_at_call 61; refine (printLine_own (w.heap.size + 2) _ [wordB 15, itoaB a, itoaB g] _ ho2 (by simp) (by simp) hsz.out).mono ?_; rintro e wz ⟨rfl, hbz⟩)
  go_ret
  exact ⟨ret_str (by rw [hres.out]), Below.trans hb3 (Below.trans (HB2.mono (by omega)) (hbz.mono (by have := HB2.size; simp at this; simp; try omega)))⟩

set_option maxHeartbeats 2000000 in
set_option maxRecDepth 20000 in
theorem printInstr_16 (N : Nat) (tt a b n g : Int) (w : World) (hs : ShpAt N shps w) (ht : Tab w) (hg : fits g) :
    Calls Tryd.prog 32 #[.map (some N), .agg #[.int .i64 16, .int .i64 tt, .int .i64 a, .int .i64 b, .int .i64 n, .int .i64 g]] w fun e w' => e = .returned (.string (lineB ⟨16, tt, a, b, n, g⟩ ++ ⟨#[10]⟩)) ∧ Below w.heap.size w w' := by
  obtain ⟨ti, hi, hz0, hz1, hz2⟩ := info_parts info_str
  have hb1 : Below w.heap.size w (w.alloc (.cells #[.int .i64 16, .int .i64 tt, .int .i64 a, .int .i64 b, .int .i64 n, .int .i64 g] 71)) := by go_grown
  have hl : (Instr.lookup 60 (.map (some N)) (.int .i64 16) false).run Tryd.prog _ = .ok (.agg #[.string (wordB 16), .slice (some ⟨N + 16, 0, none⟩) 1 1]) _ := look_val (hs.below hb1 (Nat.le_refl _)) 16 15 _ rfl
  have hb3 : Below w.heap.size w (((w.alloc (.cells #[.int .i64 16, .int .i64 tt, .int .i64 a, .int .i64 b, .int .i64 n, .int .i64 g] 71)).alloc (.cells #[.string (wordB 16), .slice (some ⟨N + 16, 0, none⟩) 1 1] 105)).alloc (.cells #[.string (wordB 16)] 9)) := by go_grown
  have ho0 : (((w.alloc (.cells #[.int .i64 16, .int .i64 tt, .int .i64 a, .int .i64 b, .int .i64 n, .int .i64 g] 71)).alloc (.cells #[.string (wordB 16), .slice (some ⟨N + 16, 0, none⟩) 1 1] 105)).alloc (.cells #[.string (wordB 16)] 9)).ownsRow (w.heap.size + 2) 9 1 (.slice (some ⟨w.heap.size + 2, 0, none⟩) 1 1) 1 [.string (wordB 16)] := by
    have := World.ownsRow_lit (base := w.heap.size + 2) (e := 9) (size := 1) ((w.alloc (.cells #[.int .i64 16, .int .i64 tt, .int .i64 a, .int .i64 b, .int .i64 n, .int .i64 g] 71)).alloc (.cells #[.string (wordB 16), .slice (some ⟨N + 16, 0, none⟩) 1 1] 105)) #[.string (wordB 16)] 1 (by simp) (by decide) rfl
    simpa using this
  have HB0 : Below (w.heap.size + 2) (((w.alloc (.cells #[.int .i64 16, .int .i64 tt, .int .i64 a, .int .i64 b, .int .i64 n, .int .i64 g] 71)).alloc (.cells #[.string (wordB 16), .slice (some ⟨N + 16, 0, none⟩) 1 1] 105)).alloc (.cells #[.string (wordB 16)] 9)) (((w.alloc (.cells #[.int .i64 16, .int .i64 tt, .int .i64 a, .int .i64 b, .int .i64 n, .int .i64 g] 71)).alloc (.cells #[.string (wordB 16), .slice (some ⟨N + 16, 0, none⟩) 1 1] 105)).alloc (.cells #[.string (wordB 16)] 9)) := Below.refl _ _
  have hsz : Hid ((joinB [wordB 16, itoaB g]).size ≤ 1000) := by
    show _ ≤ _
    have sw : (wordB 16).size = 4 := rfl
    have lg := itoaB_size g hg
    simp only [joinB_size, joinSize, sw, List.map_cons, List.map_nil, List.sum_cons, List.sum_nil]
    omega
  have hres : Hid (joinB [wordB 16, itoaB g] = lineB ⟨16, tt, a, b, n, g⟩) := joinB_line _ _ _ rfl rfl
  have hz : N + 16 < w.heap.size := (part_cell hs 15 0 (by decide) (by decide) (.int .i64 3) rfl).2
  have p0 : w.cell? ⟨N + 16, 0, none⟩ = some (.int .i64 3) := (part_cell hs 15 0 (by decide) (by decide) (.int .i64 3) rfl).1
  have K : ∀ wx, Below (w.heap.size + 2) (((w.alloc (.cells #[.int .i64 16, .int .i64 tt, .int .i64 a, .int .i64 b, .int .i64 n, .int .i64 g] 71)).alloc (.cells #[.string (wordB 16), .slice (some ⟨N + 16, 0, none⟩) 1 1] 105)).alloc (.cells #[.string (wordB 16)] 9)) wx → wx.cell? ⟨N + 16, 0, none⟩ = some (.int .i64 3) ∧ wx.cell? ⟨w.heap.size, 5, none⟩ = some (.int .i64 g) := by
    intro wx hb
    refine ⟨?_, ?_⟩
    · rw [hb.cell (by simp; omega), hb3.cell hz]; exact p0
    · rw [hb.cell (by simp)]; simp [go_sem]
  clear p0
  go_enter Tryd.func32, Tryd.ntmps32
  obtain ⟨P0p0, P0qg⟩ := K _ HB0
  go_wp2
  refine wp_loop_rounds 2 ?_
  rw [rounds_succ]
  go_wp2_with (first
    | (go_at_call 62; refine (itoa_any _ _ hg ?tb).mono ?_; (case tb => exact ht.below (Below.trans hb3 (HB0.mono (by omega)))); rintro e u1 ⟨rfl, hu1⟩; have HU1 : Below (w.heap.size + 2) (((w.alloc (.cells #[.int .i64 16, .int .i64 tt, .int .i64 a, .int .i64 b, .int .i64 n, .int .i64 g] 71)).alloc (.cells #[.string (wordB 16), .slice (some ⟨N + 16, 0, none⟩) 1 1] 105)).alloc (.cells #[.string (wordB 16)] 9)) u1 := HB0.trans (hu1.mono (by have := HB0.size; simp at this; simp; try omega)); have hou1 : u1.ownsRow (w.heap.size + 2) 9 1 _ 1 [.string (wordB 16)] := ownsRow_of_block ho0 (fun j hj => hu1.block j (ownsRow_block_lt ho0 hj).1); have hus1 : w.heap.size + 2 ≤ u1.heap.size := (by have := HU1.size; simp at this; omega))
    | (at_builtin; refine wpList_append_own _ rfl _ _ 44 rfl (w.heap.size + 2) 9 ti (.string ⟨#[]⟩) 1 16 Tryd.underlying44 hi hz0 hz1 hz2 rfl (by decide) _ _ _ rfl (hou1.alloc _) ⟨u1.heap.size, 0, none⟩ 1 1 [.string (itoaB g)] rfl rfl (cell_one_new _ _ _) (fun x hx => by simp at hx; subst hx; rfl) (by unfold maxLen; omega) (by omega) (by simp; omega) ?_; intro s1 v1 ho1 hg1 hn1; have HB1 : Below (w.heap.size + 2) (((w.alloc (.cells #[.int .i64 16, .int .i64 tt, .int .i64 a, .int .i64 b, .int .i64 n, .int .i64 g] 71)).alloc (.cells #[.string (wordB 16), .slice (some ⟨N + 16, 0, none⟩) 1 1] 105)).alloc (.cells #[.string (wordB 16)] 9)) v1 := (HU1.alloc hus1 _).grown hg1 (by simp; omega) (fun j hj => (ownsRow_block_lt hou1 hj).2); obtain ⟨P1p0, P1qg⟩ := K _ HB1)
    | go_in)
  rw [rounds_succ]
  go_wp2_with (go_at_call 61; refine (printLine_own (w.heap.size + 2) _ [wordB 16, itoaB g] _ ho1 (by simp) (by simp) hsz.out).mono ?_; rintro e wz ⟨rfl, hbz⟩)
  go_ret
  exact ⟨ret_str (by rw [hres.out]), Below.trans hb3 (Below.trans (HB1.mono (by omega)) (hbz.mono (by have := HB1.size; simp at this; simp; try omega)))⟩

set_option maxHeartbeats 2000000 in
set_option maxRecDepth 20000 in
theorem printInstr_17 (N : Nat) (tt a b n g : Int) (w : World) (hs : ShpAt N shps w) (ht : Tab w) (ha : fits a) :
    Calls Tryd.prog 32 #[.map (some N), .agg #[.int .i64 17, .int .i64 tt, .int .i64 a, .int .i64 b, .int .i64 n, .int .i64 g]] w fun e w' => e = .returned (.string (lineB ⟨17, tt, a, b, n, g⟩ ++ ⟨#[10]⟩)) ∧ Below w.heap.size w w' := by
  obtain ⟨ti, hi, hz0, hz1, hz2⟩ := info_parts info_str
  have hb1 : Below w.heap.size w (w.alloc (.cells #[.int .i64 17, .int .i64 tt, .int .i64 a, .int .i64 b, .int .i64 n, .int .i64 g] 71)) := by go_grown
  have hl : (Instr.lookup 60 (.map (some N)) (.int .i64 17) false).run Tryd.prog _ = .ok (.agg #[.string (wordB 17), .slice (some ⟨N + 17, 0, none⟩) 1 1]) _ := look_val (hs.below hb1 (Nat.le_refl _)) 17 16 _ rfl
  have hb3 : Below w.heap.size w (((w.alloc (.cells #[.int .i64 17, .int .i64 tt, .int .i64 a, .int .i64 b, .int .i64 n, .int .i64 g] 71)).alloc (.cells #[.string (wordB 17), .slice (some ⟨N + 17, 0, none⟩) 1 1] 105)).alloc (.cells #[.string (wordB 17)] 9)) := by go_grown
  have ho0 : (((w.alloc (.cells #[.int .i64 17, .int .i64 tt, .int .i64 a, .int .i64 b, .int .i64 n, .int .i64 g] 71)).alloc (.cells #[.string (wordB 17), .slice (some ⟨N + 17, 0, none⟩) 1 1] 105)).alloc (.cells #[.string (wordB 17)] 9)).ownsRow (w.heap.size + 2) 9 1 (.slice (some ⟨w.heap.size + 2, 0, none⟩) 1 1) 1 [.string (wordB 17)] := by
    have := World.ownsRow_lit (base := w.heap.size + 2) (e := 9) (size := 1) ((w.alloc (.cells #[.int .i64 17, .int .i64 tt, .int .i64 a, .int .i64 b, .int .i64 n, .int .i64 g] 71)).alloc (.cells #[.string (wordB 17), .slice (some ⟨N + 17, 0, none⟩) 1 1] 105)) #[.string (wordB 17)] 1 (by simp) (by decide) rfl
    simpa using this
  have HB0 : Below (w.heap.size + 2) (((w.alloc (.cells #[.int .i64 17, .int .i64 tt, .int .i64 a, .int .i64 b, .int .i64 n, .int .i64 g] 71)).alloc (.cells #[.string (wordB 17), .slice (some ⟨N + 17, 0, none⟩) 1 1] 105)).alloc (.cells #[.string (wordB 17)] 9)) (((w.alloc (.cells #[.int .i64 17, .int .i64 tt, .int .i64 a, .int .i64 b, .int .i64 n, .int .i64 g] 71)).alloc (.cells #[.string (wordB 17), .slice (some ⟨N + 17, 0, none⟩) 1 1] 105)).alloc (.cells #[.string (wordB 17)] 9)) := Below.refl _ _
  have hsz : Hid ((joinB [wordB 17, itoaB a]).size ≤ 1000) := by
    show _ ≤ _
    have sw : (wordB 17).size = 6 := rfl
    have la := itoaB_size a ha
    simp only [joinB_size, joinSize, sw, List.map_cons, List.map_nil, List.sum_cons, List.sum_nil]
    omega
  have hres : Hid (joinB [wordB 17, itoaB a] = lineB ⟨17, tt, a, b, n, g⟩) := joinB_line _ _ _ rfl rfl
  have hz : N + 17 < w.heap.size := (part_cell hs 16 0 (by decide) (by decide) (.int .i64 1) rfl).2
  have p0 : w.cell? ⟨N + 17, 0, none⟩ = some (.int .i64 1) := (part_cell hs 16 0 (by decide) (by decide) (.int .i64 1) rfl).1
  have K : ∀ wx, Below (w.heap.size + 2) (((w.alloc (.cells #[.int .i64 17, .int .i64 tt, .int .i64 a, .int .i64 b, .int .i64 n, .int .i64 g] 71)).alloc (.cells #[.string (wordB 17), .slice (some ⟨N + 17, 0, none⟩) 1 1] 105)).alloc (.cells #[.string (wordB 17)] 9)) wx → wx.cell? ⟨N + 17, 0, none⟩ = some (.int .i64 1) ∧ wx.cell? ⟨w.heap.size, 2, none⟩ = some (.int .i64 a) := by
    intro wx hb
    refine ⟨?_, ?_⟩
    · rw [hb.cell (by simp; omega), hb3.cell hz]; exact p0
    · rw [hb.cell (by simp)]; simp [go_sem]
  clear p0
  go_enter Tryd.func32, Tryd.ntmps32
  obtain ⟨P0p0, P0qa⟩ := K _ HB0
  go_wp2
  refine wp_loop_rounds 2 ?_
  rw [rounds_succ]
  go_wp2_with (first
    | (go_at_call 62; refine (itoa_any _ _ ha ?tb).mono ?_; (case tb => exact ht.below (Below.trans hb3 (HB0.mono (by omega)))); rintro e u1 ⟨rfl, hu1⟩; have HU1 : Below (w.heap.size + 2) (((w.alloc (.cells #[.int .i64 17, .int .i64 tt, .int .i64 a, .int .i64 b, .int .i64 n, .int .i64 g] 71)).alloc (.cells #[.string (wordB 17), .slice (some ⟨N + 17, 0, none⟩) 1 1] 105)).alloc (.cells #[.string (wordB 17)] 9)) u1 := HB0.trans (hu1.mono (by have := HB0.size; simp at this; simp; try omega)); have hou1 : u1.ownsRow (w.heap.size + 2) 9 1 _ 1 [.string (wordB 17)] := ownsRow_of_block ho0 (fun j hj => hu1.block j (ownsRow_block_lt ho0 hj).1); have hus1 : w.heap.size + 2 ≤ u1.heap.size := (by have := HU1.size; simp at this; omega))
    | (at_builtin; refine wpList_append_own _ rfl _ _ 44 rfl (w.heap.size + 2) 9 ti (.string ⟨#[]⟩) 1 16 Tryd.underlying44 hi hz0 hz1 hz2 rfl (by decide) _ _ _ rfl (hou1.alloc _) ⟨u1.heap.size, 0, none⟩ 1 1 [.string (itoaB a)] rfl rfl (cell_one_new _ _ _) (fun x hx => by simp at hx; subst hx; rfl) (by unfold maxLen; omega) (by omega) (by simp; omega) ?_; intro s1 v1 ho1 hg1 hn1; have HB1 : Below (w.heap.size + 2) (((w.alloc (.cells #[.int .i64 17, .int .i64 tt, .int .i64 a, .int .i64 b, .int .i64 n, .int .i64 g] 71)).alloc (.cells #[.string (wordB 17), .slice (some ⟨N + 17, 0, none⟩) 1 1] 105)).alloc (.cells #[.string (wordB 17)] 9)) v1 := (HU1.alloc hus1 _).grown hg1 (by simp; omega) (fun j hj => (ownsRow_block_lt hou1 hj).2); obtain ⟨P1p0, P1qa⟩ := K _ HB1)
    | go_in)
  rw [rounds_succ]
  go_wp2_with (go_at_call 61; refine (printLine_own (w.heap.size + 2) _ [wordB 17, itoaB a] _ ho1 (by simp) (by simp) hsz.out).mono ?_; rintro e wz ⟨rfl, hbz⟩)
  go_ret
  exact ⟨ret_str (by rw [hres.out]), Below.trans hb3 (Below.trans (HB1.mono (by omega)) (hbz.mono (by have := HB1.size; simp at this; simp; try omega)))⟩

set_option maxHeartbeats 2000000 in
set_option maxRecDepth 20000 in
theorem printInstr_18 (N : Nat) (tt a b n g : Int) (w : World) (hs : ShpAt N shps w) (ht : Tab w) (ha : fits a) :
    Calls Tryd.prog 32 #[.map (some N), .agg #[.int .i64 18, .int .i64 tt, .int .i64 a, .int .i64 b, .int .i64 n, .int .i64 g]] w fun e w' => e = .returned (.string (lineB ⟨18, tt, a, b, n, g⟩ ++ ⟨#[10]⟩)) ∧ Below w.heap.size w w' := by
  obtain ⟨ti, hi, hz0, hz1, hz2⟩ := info_parts info_str
  have hb1 : Below w.heap.size w (w.alloc (.cells #[.int .i64 18, .int .i64 tt, .int .i64 a, .int .i64 b, .int .i64 n, .int .i64 g] 71)) := by go_grown
  have hl : (Instr.lookup 60 (.map (some N)) (.int .i64 18) false).run Tryd.prog _ = .ok (.agg #[.string (wordB 18), .slice (some ⟨N + 18, 0, none⟩) 1 1]) _ := look_val (hs.below hb1 (Nat.le_refl _)) 18 17 _ rfl
  have hb3 : Below w.heap.size w (((w.alloc (.cells #[.int .i64 18, .int .i64 tt, .int .i64 a, .int .i64 b, .int .i64 n, .int .i64 g] 71)).alloc (.cells #[.string (wordB 18), .slice (some ⟨N + 18, 0, none⟩) 1 1] 105)).alloc (.cells #[.string (wordB 18)] 9)) := by go_grown
  have ho0 : (((w.alloc (.cells #[.int .i64 18, .int .i64 tt, .int .i64 a, .int .i64 b, .int .i64 n, .int .i64 g] 71)).alloc (.cells #[.string (wordB 18), .slice (some ⟨N + 18, 0, none⟩) 1 1] 105)).alloc (.cells #[.string (wordB 18)] 9)).ownsRow (w.heap.size + 2) 9 1 (.slice (some ⟨w.heap.size + 2, 0, none⟩) 1 1) 1 [.string (wordB 18)] := by
    have := World.ownsRow_lit (base := w.heap.size + 2) (e := 9) (size := 1) ((w.alloc (.cells #[.int .i64 18, .int .i64 tt, .int .i64 a, .int .i64 b, .int .i64 n, .int .i64 g] 71)).alloc (.cells #[.string (wordB 18), .slice (some ⟨N + 18, 0, none⟩) 1 1] 105)) #[.string (wordB 18)] 1 (by simp) (by decide) rfl
    simpa using this
  have HB0 : Below (w.heap.size + 2) (((w.alloc (.cells #[.int .i64 18, .int .i64 tt, .int .i64 a, .int .i64 b, .int .i64 n, .int .i64 g] 71)).alloc (.cells #[.string (wordB 18), .slice (some ⟨N + 18, 0, none⟩) 1 1] 105)).alloc (.cells #[.string (wordB 18)] 9)) (((w.alloc (.cells #[.int .i64 18, .int .i64 tt, .int .i64 a, .int .i64 b, .int .i64 n, .int .i64 g] 71)).alloc (.cells #[.string (wordB 18), .slice (some ⟨N + 18, 0, none⟩) 1 1] 105)).alloc (.cells #[.string (wordB 18)] 9)) := Below.refl _ _
  have hsz : Hid ((joinB [wordB 18, itoaB a]).size ≤ 1000) := by
    show _ ≤ _
    have sw : (wordB 18).size = 5 := rfl
    have la := itoaB_size a ha
    simp only [joinB_size, joinSize, sw, List.map_cons, List.map_nil, List.sum_cons, List.sum_nil]
    omega
  have hres : Hid (joinB [wordB 18, itoaB a] = lineB ⟨18, tt, a, b, n, g⟩) := joinB_line _ _ _ rfl rfl
  have hz : N + 18 < w.heap.size := (part_cell hs 17 0 (by decide) (by decide) (.int .i64 1) rfl).2
  have p0 : w.cell? ⟨N + 18, 0, none⟩ = some (.int .i64 1) := (part_cell hs 17 0 (by decide) (by decide) (.int .i64 1) rfl).1
  have K : ∀ wx, Below (w.heap.size + 2) (((w.alloc (.cells #[.int .i64 18, .int .i64 tt, .int .i64 a, .int .i64 b, .int .i64 n, .int .i64 g] 71)).alloc (.cells #[.string (wordB 18), .slice (some ⟨N + 18, 0, none⟩) 1 1] 105)).alloc (.cells #[.string (wordB 18)] 9)) wx → wx.cell? ⟨N + 18, 0, none⟩ = some (.int .i64 1) ∧ wx.cell? ⟨w.heap.size, 2, none⟩ = some (.int .i64 a) := by
    intro wx hb
    refine ⟨?_, ?_⟩
    · rw [hb.cell (by simp; omega), hb3.cell hz]; exact p0
    · rw [hb.cell (by simp)]; simp [go_sem]
  clear p0
  go_enter Tryd.func32, Tryd.ntmps32
  obtain ⟨P0p0, P0qa⟩ := K _ HB0
  go_wp2
  refine wp_loop_rounds 2 ?_
  rw [rounds_succ]
  go_wp2_with (first
    | (go_at_call 62; refine (itoa_any _ _ ha ?tb).mono ?_; (case tb => exact ht.below (Below.trans hb3 (HB0.mono (by omega)))); rintro e u1 ⟨rfl, hu1⟩; have HU1 : Below (w.heap.size + 2) (((w.alloc (.cells #[.int .i64 18, .int .i64 tt, .int .i64 a, .int .i64 b, .int .i64 n, .int .i64 g] 71)).alloc (.cells #[.string (wordB 18), .slice (some ⟨N + 18, 0, none⟩) 1 1] 105)).alloc (.cells #[.string (wordB 18)] 9)) u1 := HB0.trans (hu1.mono (by have := HB0.size; simp at this; simp; try omega)); have hou1 : u1.ownsRow (w.heap.size + 2) 9 1 _ 1 [.string (wordB 18)] := ownsRow_of_block ho0 (fun j hj => hu1.block j (ownsRow_block_lt ho0 hj).1); have hus1 : w.heap.size + 2 ≤ u1.heap.size := (by have := HU1.size; simp at this; omega))
    | (at_builtin; refine wpList_append_own _ rfl _ _ 44 rfl (w.heap.size + 2) 9 ti (.string ⟨#[]⟩) 1 16 Tryd.underlying44 hi hz0 hz1 hz2 rfl (by decide) _ _ _ rfl (hou1.alloc _) ⟨u1.heap.size, 0, none⟩ 1 1 [.string (itoaB a)] rfl rfl (cell_one_new _ _ _) (fun x hx => by simp at hx; subst hx; rfl) (by unfold maxLen; omega) (by omega) (by simp; omega) ?_; intro s1 v1 ho1 hg1 hn1; have HB1 : Below (w.heap.size + 2) (((w.alloc (.cells #[.int .i64 18, .int .i64 tt, .int .i64 a, .int .i64 b, .int .i64 n, .int .i64 g] 71)).alloc (.cells #[.string (wordB 18), .slice (some ⟨N + 18, 0, none⟩) 1 1] 105)).alloc (.cells #[.string (wordB 18)] 9)) v1 := (HU1.alloc hus1 _).grown hg1 (by simp; omega) (fun j hj => (ownsRow_block_lt hou1 hj).2); obtain ⟨P1p0, P1qa⟩ := K _ HB1)
    | go_in)
  rw [rounds_succ]
  go_wp2_with (go_at_call 61; refine (printLine_own (w.heap.size + 2) _ [wordB 18, itoaB a] _ ho1 (by simp) (by simp) hsz.out).mono ?_; rintro e wz ⟨rfl, hbz⟩)
  go_ret
  exact ⟨ret_str (by rw [hres.out]), Below.trans hb3 (Below.trans (HB1.mono (by omega)) (hbz.mono (by have := HB1.size; simp at this; simp; try omega)))⟩
end Go.Proofs.YtmapdpcfanecdaaDoor
