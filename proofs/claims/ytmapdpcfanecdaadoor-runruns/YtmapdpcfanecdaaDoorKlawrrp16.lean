/- Walks over package code: the line of an instruction, kind by kind. -/
import Derived.Test.YtmapdpcfanecdaaDoorKlawrrp13
namespace Go.Proofs.YtmapdpcfanecdaaDoor
set_option linter.unusedVariables false
set_option linter.unusedSimpArgs false
open Go.RowKit

set_option maxHeartbeats 2000000 in
set_option maxRecDepth 20000 in
theorem printInstr_9 (N : Nat) (tt a b n g : Int) (w : World) (hs : ShpAt N shps w) (ht : Tab w) (htt : fits tt) (ha : fits a) (hb : fits b) :
    Calls Tryd.prog 32 #[.map (some N), .agg #[.int .i64 9, .int .i64 tt, .int .i64 a, .int .i64 b, .int .i64 n, .int .i64 g]] w fun e w' => e = .returned (.string (lineB ⟨9, tt, a, b, n, g⟩ ++ ⟨#[10]⟩)) ∧ Below w.heap.size w w' := by
  obtain ⟨ti, hi, hz0, hz1, hz2⟩ := info_parts info_str
  have hb1 : Below w.heap.size w (w.alloc (.cells #[.int .i64 9, .int .i64 tt, .int .i64 a, .int .i64 b, .int .i64 n, .int .i64 g] 71)) := by go_grown
  have hl : (Instr.lookup 60 (.map (some N)) (.int .i64 9) false).run Tryd.prog _ = .ok (.agg #[.string (wordB 9), .slice (some ⟨N + 9, 0, none⟩) 3 3]) _ := look_val (hs.below hb1 (Nat.le_refl _)) 9 8 _ rfl
  have hb3 : Below w.heap.size w (((w.alloc (.cells #[.int .i64 9, .int .i64 tt, .int .i64 a, .int .i64 b, .int .i64 n, .int .i64 g] 71)).alloc (.cells #[.string (wordB 9), .slice (some ⟨N + 9, 0, none⟩) 3 3] 105)).alloc (.cells #[.string (wordB 9)] 9)) := by go_grown
  have ho0 : (((w.alloc (.cells #[.int .i64 9, .int .i64 tt, .int .i64 a, .int .i64 b, .int .i64 n, .int .i64 g] 71)).alloc (.cells #[.string (wordB 9), .slice (some ⟨N + 9, 0, none⟩) 3 3] 105)).alloc (.cells #[.string (wordB 9)] 9)).ownsRow (w.heap.size + 2) 9 1 (.slice (some ⟨w.heap.size + 2, 0, none⟩) 1 1) 1 [.string (wordB 9)] := by
    have := World.ownsRow_lit (base := w.heap.size + 2) (e := 9) (size := 1) ((w.alloc (.cells #[.int .i64 9, .int .i64 tt, .int .i64 a, .int .i64 b, .int .i64 n, .int .i64 g] 71)).alloc (.cells #[.string (wordB 9), .slice (some ⟨N + 9, 0, none⟩) 3 3] 105)) #[.string (wordB 9)] 1 (by simp) (by decide) rfl
    simpa using this
  have HB0 : Below (w.heap.size + 2) (((w.alloc (.cells #[.int .i64 9, .int .i64 tt, .int .i64 a, .int .i64 b, .int .i64 n, .int .i64 g] 71)).alloc (.cells #[.string (wordB 9), .slice (some ⟨N + 9, 0, none⟩) 3 3] 105)).alloc (.cells #[.string (wordB 9)] 9)) (((w.alloc (.cells #[.int .i64 9, .int .i64 tt, .int .i64 a, .int .i64 b, .int .i64 n, .int .i64 g] 71)).alloc (.cells #[.string (wordB 9), .slice (some ⟨N + 9, 0, none⟩) 3 3] 105)).alloc (.cells #[.string (wordB 9)] 9)) := Below.refl _ _
  have hsz : Hid ((joinB [wordB 9, itoaB tt, itoaB a, itoaB b]).size ≤ 1000) := by
    show _ ≤ _
    have sw : (wordB 9).size = 4 := rfl
    have ltt := itoaB_size tt htt
    have la := itoaB_size a ha
    have lb := itoaB_size b hb
    simp only [joinB_size, joinSize, sw, List.map_cons, List.map_nil, List.sum_cons, List.sum_nil]
    omega
  have hres : Hid (joinB [wordB 9, itoaB tt, itoaB a, itoaB b] = lineB ⟨9, tt, a, b, n, g⟩) := joinB_line _ _ _ rfl rfl
  have hz : N + 9 < w.heap.size := (part_cell hs 8 0 (by decide) (by decide) (.int .i64 0) rfl).2
  have p0 : w.cell? ⟨N + 9, 0, none⟩ = some (.int .i64 0) := (part_cell hs 8 0 (by decide) (by decide) (.int .i64 0) rfl).1
  have p1 : w.cell? ⟨N + 9, 1, none⟩ = some (.int .i64 1) := (part_cell hs 8 1 (by decide) (by decide) (.int .i64 1) rfl).1
  have p2 : w.cell? ⟨N + 9, 2, none⟩ = some (.int .i64 2) := (part_cell hs 8 2 (by decide) (by decide) (.int .i64 2) rfl).1
  have K : ∀ wx, Below (w.heap.size + 2) (((w.alloc (.cells #[.int .i64 9, .int .i64 tt, .int .i64 a, .int .i64 b, .int .i64 n, .int .i64 g] 71)).alloc (.cells #[.string (wordB 9), .slice (some ⟨N + 9, 0, none⟩) 3 3] 105)).alloc (.cells #[.string (wordB 9)] 9)) wx → wx.cell? ⟨N + 9, 0, none⟩ = some (.int .i64 0) ∧ wx.cell? ⟨N + 9, 1, none⟩ = some (.int .i64 1) ∧ wx.cell? ⟨N + 9, 2, none⟩ = some (.int .i64 2) ∧ wx.cell? ⟨w.heap.size, 1, none⟩ = some (.int .i64 tt) ∧ wx.cell? ⟨w.heap.size, 2, none⟩ = some (.int .i64 a) ∧ wx.cell? ⟨w.heap.size, 3, none⟩ = some (.int .i64 b) := by
    intro wx hb
    refine ⟨?_, ?_, ?_, ?_, ?_, ?_⟩
    · rw [hb.cell (by simp; omega), hb3.cell hz]; exact p0
    · rw [hb.cell (by simp; omega), hb3.cell hz]; exact p1
    · rw [hb.cell (by simp; omega), hb3.cell hz]; exact p2
    · rw [hb.cell (by simp)]; simp [go_sem]
    · rw [hb.cell (by simp)]; simp [go_sem]
    · rw [hb.cell (by simp)]; simp [go_sem]
  clear p0 p1 p2
  go_enter Tryd.func32, Tryd.ntmps32
  obtain ⟨P0p0, P0p1, P0p2, P0qtt, P0qa, P0qb⟩ := K _ HB0
  go_wp2
  refine wp_loop_rounds 4 ?_
  rw [rounds_succ]
  go_wp2_with (first
    | (go_at_call 62; refine (itoa_any _ _ htt ?tb).mono ?_; (case tb => exact ht.below (Below.trans hb3 (HB0.mono (by omega)))); rintro e u1 ⟨rfl, hu1⟩; have HU1 : Below (w.heap.size + 2) (((w.alloc (.cells #[.int .i64 9, .int .i64 tt, .int .i64 a, .int .i64 b, .int .i64 n, .int .i64 g] 71)).alloc (.cells #[.string (wordB 9), .slice (some ⟨N + 9, 0, none⟩) 3 3] 105)).alloc (.cells #[.string (wordB 9)] 9)) u1 := HB0.trans (hu1.mono (by have := HB0.size; simp at this; simp; try omega)); have hou1 : u1.ownsRow (w.heap.size + 2) 9 1 _ 1 [.string (wordB 9)] := ownsRow_of_block ho0 (fun j hj => hu1.block j (ownsRow_block_lt ho0 hj).1); have hus1 : w.heap.size + 2 ≤ u1.heap.size := (by have := HU1.size; simp at this; omega))
    | (at_builtin; refine wpList_append_own _ rfl _ _ 44 rfl (w.heap.size + 2) 9 ti (.string ⟨#[]⟩) 1 16 Tryd.underlying44 hi hz0 hz1 hz2 rfl (by decide) _ _ _ rfl (hou1.alloc _) ⟨u1.heap.size, 0, none⟩ 1 1 [.string (itoaB tt)] rfl rfl (cell_one_new _ _ _) (fun x hx => by simp at hx; subst hx; rfl) (by unfold maxLen; omega) (by omega) (by simp; omega) ?_; intro s1 v1 ho1 hg1 hn1; have HB1 : Below (w.heap.size + 2) (((w.alloc (.cells #[.int .i64 9, .int .i64 tt, .int .i64 a, .int .i64 b, .int .i64 n, .int .i64 g] 71)).alloc (.cells #[.string (wordB 9), .slice (some ⟨N + 9, 0, none⟩) 3 3] 105)).alloc (.cells #[.string (wordB 9)] 9)) v1 := (HU1.alloc hus1 _).grown hg1 (by simp; omega) (fun j hj => (ownsRow_block_lt hou1 hj).2); obtain ⟨P1p0, P1p1, P1p2, P1qtt, P1qa, P1qb⟩ := K _ HB1)
    | go_in)
  rw [rounds_succ]
  go_wp2_with (first
    | (go_at_call 62; refine (itoa_any _ _ ha ?tb).mono ?_; (case tb => exact ht.below (Below.trans hb3 (HB1.mono (by omega)))); rintro e u2 ⟨rfl, hu2⟩; have HU2 : Below (w.heap.size + 2) (((w.alloc (.cells #[.int .i64 9, .int .i64 tt, .int .i64 a, .int .i64 b, .int .i64 n, .int .i64 g] 71)).alloc (.cells #[.string (wordB 9), .slice (some ⟨N + 9, 0, none⟩) 3 3] 105)).alloc (.cells #[.string (wordB 9)] 9)) u2 := HB1.trans (hu2.mono (by have := HB1.size; simp at this; simp; try omega)); have hou2 : u2.ownsRow (w.heap.size + 2) 9 1 _ 2 [.string (wordB 9), .string (itoaB tt)] := ownsRow_of_block ho1 (fun j hj => hu2.block j (ownsRow_block_lt ho1 hj).1); have hus2 : w.heap.size + 2 ≤ u2.heap.size := (by have := HU2.size; simp at this; omega))
    | (at_builtin; refine wpList_append_own _ rfl _ _ 44 rfl (w.heap.size + 2) 9 ti (.string ⟨#[]⟩) 1 16 Tryd.underlying44 hi hz0 hz1 hz2 rfl (by decide) _ _ _ rfl (hou2.alloc _) ⟨u2.heap.size, 0, none⟩ 1 1 [.string (itoaB a)] rfl rfl (cell_one_new _ _ _) (fun x hx => by simp at hx; subst hx; rfl) (by unfold maxLen; omega) (by omega) (by simp; omega) ?_; intro s2 v2 ho2 hg2 hn2; have HB2 : Below (w.heap.size + 2) (((w.alloc (.cells #[.int .i64 9, .int .i64 tt, .int .i64 a, .int .i64 b, .int .i64 n, .int .i64 g] 71)).alloc (.cells #[.string (wordB 9), .slice (some ⟨N + 9, 0, none⟩) 3 3] 105)).alloc (.cells #[.string (wordB 9)] 9)) v2 := (HU2.alloc hus2 _).grown hg2 (by simp; omega) (fun j hj => (ownsRow_block_lt hou2 hj).2); obtain ⟨P2p0, P2p1, P2p2, P2qtt, P2qa, P2qb⟩ := K _ HB2)
    | go_in)
  rw [rounds_succ]
  go_wp2_with (first
    | (go_at_call 62; refine (itoa_any _ _ hb ?tb).mono ?_; (case tb => exact ht.below (Below.trans hb3 (HB2.mono (by omega)))); rintro e u3 ⟨rfl, hu3⟩; have HU3 : Below (w.heap.size + 2) (((w.alloc (.cells #[.int .i64 9, .int .i64 tt, .int .i64 a, .int .i64 b, .int .i64 n, .int .i64 g] 71)).alloc (.cells #[.string (wordB 9), .slice (some ⟨N + 9, 0, none⟩) 3 3] 105)).alloc (.cells #[.string (wordB 9)] 9)) u3 := HB2.trans (hu3.mono (by have := HB2.size; simp at this; simp; try omega)); have hou3 : u3.ownsRow (w.heap.size + 2) 9 1 _ 3 [.string (wordB 9), .string (itoaB tt), .string (itoaB a)] := ownsRow_of_block ho2 (fun j hj => hu3.block j (ownsRow_block_lt ho2 hj).1); have hus3 : w.heap.size + 2 ≤ u3.heap.size := (by have := HU3.size; simp at this; omega))
    | (at_builtin; refine wpList_append_own _ rfl _ _ 44 rfl (w.heap.size + 2) 9 ti (.string ⟨#[]⟩) 1 16 Tryd.underlying44 hi hz0 hz1 hz2 rfl (by decide) _ _ _ rfl (hou3.alloc _) ⟨u3.heap.size, 0, none⟩ 1 1 [.string (itoaB b)] rfl rfl (cell_one_new _ _ _) (fun x hx => by simp at hx; subst hx; rfl) (by unfold maxLen; omega) (by omega) (by simp; omega) ?_; intro s3 v3 ho3 hg3 hn3; have HB3 : Below (w.heap.size + 2) (((w.alloc (.cells #[.int .i64 9, .int .i64 tt, .int .i64 a, .int .i64 b, .int .i64 n, .int .i64 g] 71)).alloc (.cells #[.string (wordB 9), .slice (some ⟨N + 9, 0, none⟩) 3 3] 105)).alloc (.cells #[.string (wordB 9)] 9)) v3 := (HU3.alloc hus3 _).grown hg3 (by simp; omega) (fun j hj => (ownsRow_block_lt hou3 hj).2); obtain ⟨P3p0, P3p1, P3p2, P3qtt, P3qa, P3qb⟩ := K _ HB3)
    | go_in)
  rw [rounds_succ]
  go_wp2_with (go_at_call 61; refine (printLine_own (w.heap.size + 2) _ [wordB 9, itoaB tt, itoaB a, itoaB b] _ ho3 (by simp) (by simp) hsz.out).mono ?_; rintro e wz ⟨rfl, hbz⟩)
  go_ret
  exact ⟨ret_str (by rw [hres.out]), Below.trans hb3 (Below.trans (HB3.mono (by omega)) (hbz.mono (by have := HB3.size; simp at this; simp; try omega)))⟩

set_option maxHeartbeats 2000000 in
set_option maxRecDepth 20000 in
theorem printInstr_10 (N : Nat) (tt a b n g : Int) (w : World) (hs : ShpAt N shps w) (ht : Tab w) (htt : fits tt) (ha : fits a) :
    Calls Tryd.prog 32 #[.map (some N), .agg #[.int .i64 10, .int .i64 tt, .int .i64 a, .int .i64 b, .int .i64 n, .int .i64 g]] w fun e w' => e = .returned (.string (lineB ⟨10, tt, a, b, n, g⟩ ++ ⟨#[10]⟩)) ∧ Below w.heap.size w w' := by
  obtain ⟨ti, hi, hz0, hz1, hz2⟩ := info_parts info_str
  have hb1 : Below w.heap.size w (w.alloc (.cells #[.int .i64 10, .int .i64 tt, .int .i64 a, .int .i64 b, .int .i64 n, .int .i64 g] 71)) := by go_grown
  have hl : (Instr.lookup 60 (.map (some N)) (.int .i64 10) false).run Tryd.prog _ = .ok (.agg #[.string (wordB 10), .slice (some ⟨N + 10, 0, none⟩) 2 2]) _ := look_val (hs.below hb1 (Nat.le_refl _)) 10 9 _ rfl
  have hb3 : Below w.heap.size w (((w.alloc (.cells #[.int .i64 10, .int .i64 tt, .int .i64 a, .int .i64 b, .int .i64 n, .int .i64 g] 71)).alloc (.cells #[.string (wordB 10), .slice (some ⟨N + 10, 0, none⟩) 2 2] 105)).alloc (.cells #[.string (wordB 10)] 9)) := by go_grown
  have ho0 : (((w.alloc (.cells #[.int .i64 10, .int .i64 tt, .int .i64 a, .int .i64 b, .int .i64 n, .int .i64 g] 71)).alloc (.cells #[.string (wordB 10), .slice (some ⟨N + 10, 0, none⟩) 2 2] 105)).alloc (.cells #[.string (wordB 10)] 9)).ownsRow (w.heap.size + 2) 9 1 (.slice (some ⟨w.heap.size + 2, 0, none⟩) 1 1) 1 [.string (wordB 10)] := by
    have := World.ownsRow_lit (base := w.heap.size + 2) (e := 9) (size := 1) ((w.alloc (.cells #[.int .i64 10, .int .i64 tt, .int .i64 a, .int .i64 b, .int .i64 n, .int .i64 g] 71)).alloc (.cells #[.string (wordB 10), .slice (some ⟨N + 10, 0, none⟩) 2 2] 105)) #[.string (wordB 10)] 1 (by simp) (by decide) rfl
    simpa using this
  have HB0 : Below (w.heap.size + 2) (((w.alloc (.cells #[.int .i64 10, .int .i64 tt, .int .i64 a, .int .i64 b, .int .i64 n, .int .i64 g] 71)).alloc (.cells #[.string (wordB 10), .slice (some ⟨N + 10, 0, none⟩) 2 2] 105)).alloc (.cells #[.string (wordB 10)] 9)) (((w.alloc (.cells #[.int .i64 10, .int .i64 tt, .int .i64 a, .int .i64 b, .int .i64 n, .int .i64 g] 71)).alloc (.cells #[.string (wordB 10), .slice (some ⟨N + 10, 0, none⟩) 2 2] 105)).alloc (.cells #[.string (wordB 10)] 9)) := Below.refl _ _
  have hsz : Hid ((joinB [wordB 10, itoaB tt, itoaB a]).size ≤ 1000) := by
    show _ ≤ _
    have sw : (wordB 10).size = 3 := rfl
    have ltt := itoaB_size tt htt
    have la := itoaB_size a ha
    simp only [joinB_size, joinSize, sw, List.map_cons, List.map_nil, List.sum_cons, List.sum_nil]
    omega
  have hres : Hid (joinB [wordB 10, itoaB tt, itoaB a] = lineB ⟨10, tt, a, b, n, g⟩) := joinB_line _ _ _ rfl rfl
  have hz : N + 10 < w.heap.size := (part_cell hs 9 0 (by decide) (by decide) (.int .i64 0) rfl).2
  have p0 : w.cell? ⟨N + 10, 0, none⟩ = some (.int .i64 0) := (part_cell hs 9 0 (by decide) (by decide) (.int .i64 0) rfl).1
  have p1 : w.cell? ⟨N + 10, 1, none⟩ = some (.int .i64 1) := (part_cell hs 9 1 (by decide) (by decide) (.int .i64 1) rfl).1
  have K : ∀ wx, Below (w.heap.size + 2) (((w.alloc (.cells #[.int .i64 10, .int .i64 tt, .int .i64 a, .int .i64 b, .int .i64 n, .int .i64 g] 71)).alloc (.cells #[.string (wordB 10), .slice (some ⟨N + 10, 0, none⟩) 2 2] 105)).alloc (.cells #[.string (wordB 10)] 9)) wx → wx.cell? ⟨N + 10, 0, none⟩ = some (.int .i64 0) ∧ wx.cell? ⟨N + 10, 1, none⟩ = some (.int .i64 1) ∧ wx.cell? ⟨w.heap.size, 1, none⟩ = some (.int .i64 tt) ∧ wx.cell? ⟨w.heap.size, 2, none⟩ = some (.int .i64 a) := by
    intro wx hb
    refine ⟨?_, ?_, ?_, ?_⟩
    · rw [hb.cell (by simp; omega), hb3.cell hz]; exact p0
    · rw [hb.cell (by simp; omega), hb3.cell hz]; exact p1
    · rw [hb.cell (by simp)]; simp [go_sem]
    · rw [hb.cell (by simp)]; simp [go_sem]
  clear p0 p1
  go_enter Tryd.func32, Tryd.ntmps32
  obtain ⟨P0p0, P0p1, P0qtt, P0qa⟩ := K _ HB0
  go_wp2
  refine wp_loop_rounds 3 ?_
  rw [rounds_succ]
  go_wp2_with (first
    | (go_at_call 62; refine (itoa_any _ _ htt ?tb).mono ?_; (case tb => exact ht.below (Below.trans hb3 (HB0.mono (by omega)))); rintro e u1 ⟨rfl, hu1⟩; have HU1 : Below (w.heap.size + 2) (((w.alloc (.cells #[.int .i64 10, .int .i64 tt, .int .i64 a, .int .i64 b, .int .i64 n, .int .i64 g] 71)).alloc (.cells #[.string (wordB 10), .slice (some ⟨N + 10, 0, none⟩) 2 2] 105)).alloc (.cells #[.string (wordB 10)] 9)) u1 := HB0.trans (hu1.mono (by have := HB0.size; simp at this; simp; try omega)); have hou1 : u1.ownsRow (w.heap.size + 2) 9 1 _ 1 [.string (wordB 10)] := ownsRow_of_block ho0 (fun j hj => hu1.block j (ownsRow_block_lt ho0 hj).1); have hus1 : w.heap.size + 2 ≤ u1.heap.size := (by have := HU1.size; simp at this; omega))
    | (at_builtin; refine wpList_append_own _ rfl _ _ 44 rfl (w.heap.size + 2) 9 ti (.string ⟨#[]⟩) 1 16 Tryd.underlying44 hi hz0 hz1 hz2 rfl (by decide) _ _ _ rfl (hou1.alloc _) ⟨u1.heap.size, 0, none⟩ 1 1 [.string (itoaB tt)] rfl rfl (cell_one_new _ _ _) (fun x hx => by simp at hx; subst hx; rfl) (by unfold maxLen; omega) (by omega) (by simp; omega) ?_; intro s1 v1 ho1 hg1 hn1; have HB1 : Below (w.heap.size + 2) (((w.alloc (.cells #[.int .i64 10, .int .i64 tt, .int .i64 a, .int .i64 b, .int .i64 n, .int .i64 g] 71)).alloc (.cells #[.string (wordB 10), .slice (some ⟨N + 10, 0, none⟩) 2 2] 105)).alloc (.cells #[.string (wordB 10)] 9)) v1 := (HU1.alloc hus1 _).grown hg1 (by simp; omega) (fun j hj => (ownsRow_block_lt hou1 hj).2); obtain ⟨P1p0, P1p1, P1qtt, P1qa⟩ := K _ HB1)
    | go_in)
  rw [rounds_succ]
  go_wp2_with (first
    | (go_at_call 62; refine (itoa_any _ _ ha ?tb).mono ?_; (case tb => exact ht.below (Below.trans hb3 (HB1.mono (by omega)))); rintro e u2 ⟨rfl, hu2⟩; have HU2 : Below (w.heap.size + 2) (((w.alloc (.cells #[.int .i64 10, .int .i64 tt, .int .i64 a, .int .i64 b, .int .i64 n, .int .i64 g] 71)).alloc (.cells #[.string (wordB 10), .slice (some ⟨N + 10, 0, none⟩) 2 2] 105)).alloc (.cells #[.string (wordB 10)] 9)) u2 := HB1.trans (hu2.mono (by have := HB1.size; simp at this; simp; try omega)); have hou2 : u2.ownsRow (w.heap.size + 2) 9 1 _ 2 [.string (wordB 10), .string (itoaB tt)] := ownsRow_of_block ho1 (fun j hj => hu2.block j (ownsRow_block_lt ho1 hj).1); have hus2 : w.heap.size + 2 ≤ u2.heap.size := (by have := HU2.size; simp at this; omega))
    | (at_builtin; refine wpList_append_own _ rfl _ _ 44 rfl (w.heap.size + 2) 9 ti (.string ⟨#[]⟩) 1 16 Tryd.underlying44 hi hz0 hz1 hz2 rfl (by decide) _ _ _ rfl (hou2.alloc _) ⟨u2.heap.size, 0, none⟩ 1 1 [.string (itoaB a)] rfl rfl (cell_one_new _ _ _) (fun x hx => by simp at hx; subst hx; rfl) (by unfold maxLen; omega) (by omega) (by simp; omega) ?_; intro s2 v2 ho2 hg2 hn2; have HB2 : Below (w.heap.size + 2) (((w.alloc (.cells #[.int .i64 10, .int .i64 tt, .int .i64 a, .int .i64 b, .int .i64 n, .int .i64 g] 71)).alloc (.cells #[.string (wordB 10), .slice (some ⟨N + 10, 0, none⟩) 2 2] 105)).alloc (.cells #[.string (wordB 10)] 9)) v2 := (HU2.alloc hus2 _).grown hg2 (by simp; omega) (fun j hj => (ownsRow_block_lt hou2 hj).2); obtain ⟨P2p0, P2p1, P2qtt, P2qa⟩ := K _ HB2)
    | go_in)
  rw [rounds_succ]
  go_wp2_with (go_at_call 61; refine (printLine_own (w.heap.size + 2) _ [wordB 10, itoaB tt, itoaB a] _ ho2 (by simp) (by simp) hsz.out).mono ?_; rintro e wz ⟨rfl, hbz⟩)
  go_ret
  exact ⟨ret_str (by rw [hres.out]), Below.trans hb3 (Below.trans (HB2.mono (by omega)) (hbz.mono (by have := HB2.size; simp at this; simp; try omega)))⟩

set_option maxHeartbeats 2000000 in
set_option maxRecDepth 20000 in
theorem printInstr_12 (N : Nat) (tt a b n g : Int) (w : World) (hs : ShpAt N shps w) (ht : Tab w) (htt : fits tt) (ha : fits a) (hn : fits n) :
    Calls Tryd.prog 32 #[.map (some N), .agg #[.int .i64 12, .int .i64 tt, .int .i64 a, .int .i64 b, .int .i64 n, .int .i64 g]] w fun e w' => e = .returned (.string (lineB ⟨12, tt, a, b, n, g⟩ ++ ⟨#[10]⟩)) ∧ Below w.heap.size w w' := by
  obtain ⟨ti, hi, hz0, hz1, hz2⟩ := info_parts info_str
  have hb1 : Below w.heap.size w (w.alloc (.cells #[.int .i64 12, .int .i64 tt, .int .i64 a, .int .i64 b, .int .i64 n, .int .i64 g] 71)) := by go_grown
  have hl : (Instr.lookup 60 (.map (some N)) (.int .i64 12) false).run Tryd.prog _ = .ok (.agg #[.string (wordB 12), .slice (some ⟨N + 12, 0, none⟩) 3 3]) _ := look_val (hs.below hb1 (Nat.le_refl _)) 12 11 _ rfl
  have hb3 : Below w.heap.size w (((w.alloc (.cells #[.int .i64 12, .int .i64 tt, .int .i64 a, .int .i64 b, .int .i64 n, .int .i64 g] 71)).alloc (.cells #[.string (wordB 12), .slice (some ⟨N + 12, 0, none⟩) 3 3] 105)).alloc (.cells #[.string (wordB 12)] 9)) := by go_grown
  have ho0 : (((w.alloc (.cells #[.int .i64 12, .int .i64 tt, .int .i64 a, .int .i64 b, .int .i64 n, .int .i64 g] 71)).alloc (.cells #[.string (wordB 12), .slice (some ⟨N + 12, 0, none⟩) 3 3] 105)).alloc (.cells #[.string (wordB 12)] 9)).ownsRow (w.heap.size + 2) 9 1 (.slice (some ⟨w.heap.size + 2, 0, none⟩) 1 1) 1 [.string (wordB 12)] := by
    have := World.ownsRow_lit (base := w.heap.size + 2) (e := 9) (size := 1) ((w.alloc (.cells #[.int .i64 12, .int .i64 tt, .int .i64 a, .int .i64 b, .int .i64 n, .int .i64 g] 71)).alloc (.cells #[.string (wordB 12), .slice (some ⟨N + 12, 0, none⟩) 3 3] 105)) #[.string (wordB 12)] 1 (by simp) (by decide) rfl
    simpa using this
  have HB0 : Below (w.heap.size + 2) (((w.alloc (.cells #[.int .i64 12, .int .i64 tt, .int .i64 a, .int .i64 b, .int .i64 n, .int .i64 g] 71)).alloc (.cells #[.string (wordB 12), .slice (some ⟨N + 12, 0, none⟩) 3 3] 105)).alloc (.cells #[.string (wordB 12)] 9)) (((w.alloc (.cells #[.int .i64 12, .int .i64 tt, .int .i64 a, .int .i64 b, .int .i64 n, .int .i64 g] 71)).alloc (.cells #[.string (wordB 12), .slice (some ⟨N + 12, 0, none⟩) 3 3] 105)).alloc (.cells #[.string (wordB 12)] 9)) := Below.refl _ _
  have hsz : Hid ((joinB [wordB 12, itoaB tt, itoaB a, itoaB n]).size ≤ 1000) := by
    show _ ≤ _
    have sw : (wordB 12).size = 3 := rfl
    have ltt := itoaB_size tt htt
    have la := itoaB_size a ha
    have ln := itoaB_size n hn
    simp only [joinB_size, joinSize, sw, List.map_cons, List.map_nil, List.sum_cons, List.sum_nil]
    omega
  have hres : Hid (joinB [wordB 12, itoaB tt, itoaB a, itoaB n] = lineB ⟨12, tt, a, b, n, g⟩) := joinB_line _ _ _ rfl rfl
  have hz : N + 12 < w.heap.size := (part_cell hs 11 0 (by decide) (by decide) (.int .i64 0) rfl).2
  have p0 : w.cell? ⟨N + 12, 0, none⟩ = some (.int .i64 0) := (part_cell hs 11 0 (by decide) (by decide) (.int .i64 0) rfl).1
  have p1 : w.cell? ⟨N + 12, 1, none⟩ = some (.int .i64 1) := (part_cell hs 11 1 (by decide) (by decide) (.int .i64 1) rfl).1
  have p2 : w.cell? ⟨N + 12, 2, none⟩ = some (.int .i64 7) := (part_cell hs 11 2 (by decide) (by decide) (.int .i64 7) rfl).1
  have K : ∀ wx, Below (w.heap.size + 2) (((w.alloc (.cells #[.int .i64 12, .int .i64 tt, .int .i64 a, .int .i64 b, .int .i64 n, .int .i64 g] 71)).alloc (.cells #[.string (wordB 12), .slice (some ⟨N + 12, 0, none⟩) 3 3] 105)).alloc (.cells #[.string (wordB 12)] 9)) wx → wx.cell? ⟨N + 12, 0, none⟩ = some (.int .i64 0) ∧ wx.cell? ⟨N + 12, 1, none⟩ = some (.int .i64 1) ∧ wx.cell? ⟨N + 12, 2, none⟩ = some (.int .i64 7) ∧ wx.cell? ⟨w.heap.size, 1, none⟩ = some (.int .i64 tt) ∧ wx.cell? ⟨w.heap.size, 2, none⟩ = some (.int .i64 a) ∧ wx.cell? ⟨w.heap.size, 4, none⟩ = some (.int .i64 n) := by
    intro wx hb
    refine ⟨?_, ?_, ?_, ?_, ?_, ?_⟩
    · rw [hb.cell (by simp; omega), hb3.cell hz]; exact p0
    · rw [hb.cell (by simp; omega), hb3.cell hz]; exact p1
    · rw [hb.cell (by simp; omega), hb3.cell hz]; exact p2
    · rw [hb.cell (by simp)]; simp [go_sem]
    · rw [hb.cell (by simp)]; simp [go_sem]
    · rw [hb.cell (by simp)]; simp [go_sem]
  clear p0 p1 p2
  go_enter Tryd.func32, Tryd.ntmps32
  obtain ⟨P0p0, P0p1, P0p2, P0qtt, P0qa, P0qn⟩ := K _ HB0
  go_wp2
  refine wp_loop_rounds 4 ?_
  rw [rounds_succ]
  go_wp2_with (first
    | (go_at_call 62; refine (itoa_any _ _ htt ?tb).mono ?_; (case tb => exact ht.below (Below.trans hb3 (HB0.mono (by omega)))); rintro e u1 ⟨rfl, hu1⟩; have HU1 : Below (w.heap.size + 2) (((w.alloc (.cells #[.int .i64 12, .int .i64 tt, .int .i64 a, .int .i64 b, .int .i64 n, .int .i64 g] 71)).alloc (.cells #[.string (wordB 12), .slice (some ⟨N + 12, 0, none⟩) 3 3] 105)).alloc (.cells #[.string (wordB 12)] 9)) u1 := HB0.trans (hu1.mono (by have := HB0.size; simp at this; simp; try omega)); have hou1 : u1.ownsRow (w.heap.size + 2) 9 1 _ 1 [.string (wordB 12)] := ownsRow_of_block ho0 (fun j hj => hu1.block j (ownsRow_block_lt ho0 hj).1); have hus1 : w.heap.size + 2 ≤ u1.heap.size := (by have := HU1.size; simp at this; omega))
    | (at_builtin; refine wpList_append_own _ rfl _ _ 44 rfl (w.heap.size + 2) 9 ti (.string ⟨#[]⟩) 1 16 Tryd.underlying44 hi hz0 hz1 hz2 rfl (by decide) _ _ _ rfl (hou1.alloc _) ⟨u1.heap.size, 0, none⟩ 1 1 [.string (itoaB tt)] rfl rfl (cell_one_new _ _ _) (fun x hx => by simp at hx; subst hx; rfl) (by unfold maxLen; omega) (by omega) (by simp; omega) ?_; intro s1 v1 ho1 hg1 hn1; have HB1 : Below (w.heap.size + 2) (((w.alloc (.cells #[.int .i64 12, .int .i64 tt, .int .i64 a, .int .i64 b, .int .i64 n, .int .i64 g] 71)).alloc (.cells #[.string (wordB 12), .slice (some ⟨N + 12, 0, none⟩) 3 3] 105)).alloc (.cells #[.string (wordB 12)] 9)) v1 := (HU1.alloc hus1 _).grown hg1 (by simp; omega) (fun j hj => (ownsRow_block_lt hou1 hj).2); obtain ⟨P1p0, P1p1, P1p2, P1qtt, P1qa, P1qn⟩ := K _ HB1)
    | go_in)
  rw [rounds_succ]
  go_wp2_with (first
    | (go_at_call 62; refine (itoa_any _ _ ha ?tb).mono ?_; (case tb => exact ht.below (Below.trans hb3 (HB1.mono (by omega)))); rintro e u2 ⟨rfl, hu2⟩; have HU2 : Below (w.heap.size + 2) (((w.alloc (.cells #[.int .i64 12, .int .i64 tt, .int .i64 a, .int .i64 b, .int .i64 n, .int .i64 g] 71)).alloc (.cells #[.string (wordB 12), .slice (some ⟨N + 12, 0, none⟩) 3 3] 105)).alloc (.cells #[.string (wordB 12)] 9)) u2 := HB1.trans (hu2.mono (by have := HB1.size; simp at this; simp; try omega)); have hou2 : u2.ownsRow (w.heap.size + 2) 9 1 _ 2 [.string (wordB 12), .string (itoaB tt)] := ownsRow_of_block ho1 (fun j hj => hu2.block j (ownsRow_block_lt ho1 hj).1); have hus2 : w.heap.size + 2 ≤ u2.heap.size := (by have := HU2.size; simp at this; omega))
    | (at_builtin; refine wpList_append_own _ rfl _ _ 44 rfl (w.heap.size + 2) 9 ti (.string ⟨#[]⟩) 1 16 Tryd.underlying44 hi hz0 hz1 hz2 rfl (by decide) _ _ _ rfl (hou2.alloc _) ⟨u2.heap.size, 0, none⟩ 1 1 [.string (itoaB a)] rfl rfl (cell_one_new _ _ _) (fun x hx => by simp at hx; subst hx; rfl) (by unfold maxLen; omega) (by omega) (by simp; omega) ?_; intro s2 v2 ho2 hg2 hn2; have HB2 : Below (w.heap.size + 2) (((w.alloc (.cells #[.int .i64 12, .int .i64 tt, .int .i64 a, .int .i64 b, .int .i64 n, .int .i64 g] 71)).alloc (.cells #[.string (wordB 12), .slice (some ⟨N + 12, 0, none⟩) 3 3] 105)).alloc (.cells #[.string (wordB 12)] 9)) v2 := (HU2.alloc hus2 _).grown hg2 (by simp; omega) (fun j hj => (ownsRow_block_lt hou2 hj).2); obtain ⟨P2p0, P2p1, P2p2, P2qtt, P2qa, P2qn⟩ := K _ HB2)
    | go_in)
  rw [rounds_succ]
  go_wp2_with (first
    | (go_at_call 62; refine (itoa_any _ _ hn ?tb).mono ?_; (case tb => exact ht.below (Below.trans hb3 (HB2.mono (by omega)))); rintro e u3 ⟨rfl, hu3⟩; have HU3 : Below (w.heap.size + 2) (((w.alloc (.cells #[.int .i64 12, .int .i64 tt, .int .i64 a, .int .i64 b, .int .i64 n, .int .i64 g] 71)).alloc (.cells #[.string (wordB 12), .slice (some ⟨N + 12, 0, none⟩) 3 3] 105)).alloc (.cells #[.string (wordB 12)] 9)) u3 := HB2.trans (hu3.mono (by have := HB2.size; simp at this; simp; try omega)); have hou3 : u3.ownsRow (w.heap.size + 2) 9 1 _ 3 [.string (wordB 12), .string (itoaB tt), .string (itoaB a)] := ownsRow_of_block ho2 (fun j hj => hu3.block j (ownsRow_block_lt ho2 hj).1); have hus3 : w.heap.size + 2 ≤ u3.heap.size := (by have := HU3.size; simp at this; omega))
    | (at_builtin; refine wpList_append_own _ rfl _ _ 44 rfl (w.heap.size + 2) 9 ti (.string ⟨#[]⟩) 1 16 Tryd.underlying44 hi hz0 hz1 hz2 rfl (by decide) _ _ _ rfl (hou3.alloc _) ⟨u3.heap.size, 0, none⟩ 1 1 [.string (itoaB n)] rfl rfl (cell_one_new _ _ _) (fun x hx => by simp at hx; subst hx; rfl) (by unfold maxLen; omega) (by omega) (by simp; omega) ?_; intro s3 v3 ho3 hg3 hn3; have HB3 : Below (w.heap.size + 2) (((w.alloc (.cells #[.int .i64 12, .int .i64 tt, .int .i64 a, .int .i64 b, .int .i64 n, .int .i64 g] 71)).alloc (.cells #[.string (wordB 12), .slice (some ⟨N + 12, 0, none⟩) 3 3] 105)).alloc (.cells #[.string (wordB 12)] 9)) v3 := (HU3.alloc hus3 _).grown hg3 (by simp; omega) (fun j hj => (ownsRow_block_lt hou3 hj).2); obtain ⟨P3p0, P3p1, P3p2, P3qtt, P3qa, P3qn⟩ := K _ HB3)
    | go_in)
  rw [rounds_succ]
  go_wp2_with (go_at_call 61; refine (printLine_own (w.heap.size + 2) _ [wordB 12, itoaB tt, itoaB a, itoaB n] _ ho3 (by simp) (by simp) hsz.out).mono ?_; rintro e wz ⟨rfl, hbz⟩)
  go_ret
  exact ⟨ret_str (by rw [hres.out]), Below.trans hb3 (Below.trans (HB3.mono (by omega)) (hbz.mono (by have := HB3.size; simp at this; simp; try omega)))⟩

set_option maxHeartbeats 2000000 in
set_option maxRecDepth 20000 in
theorem printInstr_13 (N : Nat) (tt a b n g : Int) (w : World) (hs : ShpAt N shps w) (ht : Tab w) (ha : fits a) (hb : fits b) (hn : fits n) :
    Calls Tryd.prog 32 #[.map (some N), .agg #[.int .i64 13, .int .i64 tt, .int .i64 a, .int .i64 b, .int .i64 n, .int .i64 g]] w fun e w' => e = .returned (.string (lineB ⟨13, tt, a, b, n, g⟩ ++ ⟨#[10]⟩)) ∧ Below w.heap.size w w' := by
  obtain ⟨ti, hi, hz0, hz1, hz2⟩ := info_parts info_str
  have hb1 : Below w.heap.size w (w.alloc (.cells #[.int .i64 13, .int .i64 tt, .int .i64 a, .int .i64 b, .int .i64 n, .int .i64 g] 71)) := by go_grown
  have hl : (Instr.lookup 60 (.map (some N)) (.int .i64 13) false).run Tryd.prog _ = .ok (.agg #[.string (wordB 13), .slice (some ⟨N + 13, 0, none⟩) 3 3]) _ := look_val (hs.below hb1 (Nat.le_refl _)) 13 12 _ rfl
  have hb3 : Below w.heap.size w (((w.alloc (.cells #[.int .i64 13, .int .i64 tt, .int .i64 a, .int .i64 b, .int .i64 n, .int .i64 g] 71)).alloc (.cells #[.string (wordB 13), .slice (some ⟨N + 13, 0, none⟩) 3 3] 105)).alloc (.cells #[.string (wordB 13)] 9)) := by go_grown
  have ho0 : (((w.alloc (.cells #[.int .i64 13, .int .i64 tt, .int .i64 a, .int .i64 b, .int .i64 n, .int .i64 g] 71)).alloc (.cells #[.string (wordB 13), .slice (some ⟨N + 13, 0, none⟩) 3 3] 105)).alloc (.cells #[.string (wordB 13)] 9)).ownsRow (w.heap.size + 2) 9 1 (.slice (some ⟨w.heap.size + 2, 0, none⟩) 1 1) 1 [.string (wordB 13)] := by
    have := World.ownsRow_lit (base := w.heap.size + 2) (e := 9) (size := 1) ((w.alloc (.cells #[.int .i64 13, .int .i64 tt, .int .i64 a, .int .i64 b, .int .i64 n, .int .i64 g] 71)).alloc (.cells #[.string (wordB 13), .slice (some ⟨N + 13, 0, none⟩) 3 3] 105)) #[.string (wordB 13)] 1 (by simp) (by decide) rfl
    simpa using this
  have HB0 : Below (w.heap.size + 2) (((w.alloc (.cells #[.int .i64 13, .int .i64 tt, .int .i64 a, .int .i64 b, .int .i64 n, .int .i64 g] 71)).alloc (.cells #[.string (wordB 13), .slice (some ⟨N + 13, 0, none⟩) 3 3] 105)).alloc (.cells #[.string (wordB 13)] 9)) (((w.alloc (.cells #[.int .i64 13, .int .i64 tt, .int .i64 a, .int .i64 b, .int .i64 n, .int .i64 g] 71)).alloc (.cells #[.string (wordB 13), .slice (some ⟨N + 13, 0, none⟩) 3 3] 105)).alloc (.cells #[.string (wordB 13)] 9)) := Below.refl _ _
  have hsz : Hid ((joinB [wordB 13, itoaB a, itoaB n, itoaB b]).size ≤ 1000) := by
    show _ ≤ _
    have sw : (wordB 13).size = 3 := rfl
    have la := itoaB_size a ha
    have lb := itoaB_size b hb
    have ln := itoaB_size n hn
    simp only [joinB_size, joinSize, sw, List.map_cons, List.map_nil, List.sum_cons, List.sum_nil]
    omega
  have hres : Hid (joinB [wordB 13, itoaB a, itoaB n, itoaB b] = lineB ⟨13, tt, a, b, n, g⟩) := joinB_line _ _ _ rfl rfl
  have hz : N + 13 < w.heap.size := (part_cell hs 12 0 (by decide) (by decide) (.int .i64 1) rfl).2
  have p0 : w.cell? ⟨N + 13, 0, none⟩ = some (.int .i64 1) := (part_cell hs 12 0 (by decide) (by decide) (.int .i64 1) rfl).1
  have p1 : w.cell? ⟨N + 13, 1, none⟩ = some (.int .i64 7) := (part_cell hs 12 1 (by decide) (by decide) (.int .i64 7) rfl).1
  have p2 : w.cell? ⟨N + 13, 2, none⟩ = some (.int .i64 2) := (part_cell hs 12 2 (by decide) (by decide) (.int .i64 2) rfl).1
  have K : ∀ wx, Below (w.heap.size + 2) (((w.alloc (.cells #[.int .i64 13, .int .i64 tt, .int .i64 a, .int .i64 b, .int .i64 n, .int .i64 g] 71)).alloc (.cells #[.string (wordB 13), .slice (some ⟨N + 13, 0, none⟩) 3 3] 105)).alloc (.cells #[.string (wordB 13)] 9)) wx → wx.cell? ⟨N + 13, 0, none⟩ = some (.int .i64 1) ∧ wx.cell? ⟨N + 13, 1, none⟩ = some (.int .i64 7) ∧ wx.cell? ⟨N + 13, 2, none⟩ = some (.int .i64 2) ∧ wx.cell? ⟨w.heap.size, 2, none⟩ = some (.int .i64 a) ∧ wx.cell? ⟨w.heap.size, 3, none⟩ = some (.int .i64 b) ∧ wx.cell? ⟨w.heap.size, 4, none⟩ = some (.int .i64 n) := by
    intro wx hb
    refine ⟨?_, ?_, ?_, ?_, ?_, ?_⟩
    · rw [hb.cell (by simp; omega), hb3.cell hz]; exact p0
    · rw [hb.cell (by simp; omega), hb3.cell hz]; exact p1
    · rw [hb.cell (by simp; omega), hb3.cell hz]; exact p2
    · rw [hb.cell (by simp)]; simp [go_sem]
    · rw [hb.cell (by simp)]; simp [go_sem]
    · rw [hb.cell (by simp)]; simp [go_sem]
  clear p0 p1 p2
  go_enter Tryd.func32, Tryd.ntmps32
  obtain ⟨P0p0, P0p1, P0p2, P0qa, P0qb, P0qn⟩ := K _ HB0
  go_wp2
  refine wp_loop_rounds 4 ?_
  rw [rounds_succ]
  go_wp2_with (first
    | (go_at_call 62; refine (itoa_any _ _ ha ?tb).mono ?_; (case tb => exact ht.below (Below.trans hb3 (HB0.mono (by omega)))); rintro e u1 ⟨rfl, hu1⟩; have HU1 : Below (w.heap.size + 2) (((w.alloc (.cells #[.int .i64 13, .int .i64 tt, .int .i64 a, .int .i64 b, .int .i64 n, .int .i64 g] 71)).alloc (.cells #[.string (wordB 13), .slice (some ⟨N + 13, 0, none⟩) 3 3] 105)).alloc (.cells #[.string (wordB 13)] 9)) u1 := HB0.trans (hu1.mono (by have := HB0.size; simp at this; simp; try omega)); have hou1 : u1.ownsRow (w.heap.size + 2) 9 1 _ 1 [.string (wordB 13)] := ownsRow_of_block ho0 (fun j hj => hu1.block j (ownsRow_block_lt ho0 hj).1); have hus1 : w.heap.size + 2 ≤ u1.heap.size := (by have := HU1.size; simp at this; omega))
    | (at_builtin; refine wpList_append_own _ rfl _ _ 44 rfl (w.heap.size + 2) 9 ti (.string ⟨#[]⟩) 1 16 Tryd.underlying44 hi hz0 hz1 hz2 rfl (by decide) _ _ _ rfl (hou1.alloc _) ⟨u1.heap.size, 0, none⟩ 1 1 [.string (itoaB a)] rfl rfl (cell_one_new _ _ _) (fun x hx => by simp at hx; subst hx; rfl) (by unfold maxLen; omega) (by omega) (by simp; omega) ?_; intro s1 v1 ho1 hg1 hn1; have HB1 : Below (w.heap.size + 2) (((w.alloc (.cells #[.int .i64 13, .int .i64 tt, .int .i64 a, .int .i64 b, .int .i64 n, .int .i64 g] 71)).alloc (.cells #[.string (wordB 13), .slice (some ⟨N + 13, 0, none⟩) 3 3] 105)).alloc (.cells #[.string (wordB 13)] 9)) v1 := (HU1.alloc hus1 _).grown hg1 (by simp; omega) (fun j hj => (ownsRow_block_lt hou1 hj).2); obtain ⟨P1p0, P1p1, P1p2, P1qa, P1qb, P1qn⟩ := K _ HB1)
    | go_in)
  rw [rounds_succ]
  go_wp2_with (first
    | (go_at_call 62; refine (itoa_any _ _ hn ?tb).mono ?_; (case tb => exact ht.below (Below.trans hb3 (HB1.mono (by omega)))); rintro e u2 ⟨rfl, hu2⟩; have HU2 : Below (w.heap.size + 2) (((w.alloc (.cells #[.int .i64 13, .int .i64 tt, .int .i64 a, .int .i64 b, .int .i64 n, .int .i64 g] 71)).alloc (.cells #[.string (wordB 13), .slice (some ⟨N + 13, 0, none⟩) 3 3] 105)).alloc (.cells #[.string (wordB 13)] 9)) u2 := HB1.trans (hu2.mono (by have := HB1.size; simp at this; simp; try omega)); have hou2 : u2.ownsRow (w.heap.size + 2) 9 1 _ 2 [.string (wordB 13), .string (itoaB a)] := ownsRow_of_block ho1 (fun j hj => hu2.block j (ownsRow_block_lt ho1 hj).1); have hus2 : w.heap.size + 2 ≤ u2.heap.size := (by have := HU2.size; simp at this; omega))
    | (at_builtin; refine wpList_append_own _ rfl _ _ 44 rfl (w.heap.size + 2) 9 ti (.string ⟨#[]⟩) 1 16 Tryd.underlying44 hi hz0 hz1 hz2 rfl (by decide) _ _ _ rfl (hou2.alloc _) ⟨u2.heap.size, 0, none⟩ 1 1 [.string (itoaB n)] rfl rfl (cell_one_new _ _ _) (fun x hx => by simp at hx; subst hx; rfl) (by unfold maxLen; omega) (by omega) (by simp; omega) ?_; intro s2 v2 ho2 hg2 hn2; have HB2 : Below (w.heap.size + 2) (((w.alloc (.cells #[.int .i64 13, .int .i64 tt, .int .i64 a, .int .i64 b, .int .i64 n, .int .i64 g] 71)).alloc (.cells #[.string (wordB 13), .slice (some ⟨N + 13, 0, none⟩) 3 3] 105)).alloc (.cells #[.string (wordB 13)] 9)) v2 := (HU2.alloc hus2 _).grown hg2 (by simp; omega) (fun j hj => (ownsRow_block_lt hou2 hj).2); obtain ⟨P2p0, P2p1, P2p2, P2qa, P2qb, P2qn⟩ := K _ HB2)
    | go_in)
  rw [rounds_succ]
  go_wp2_with (first
    | (go_at_call 62; refine (itoa_any _ _ hb ?tb).mono ?_; (case tb => exact ht.below (Below.trans hb3 (HB2.mono (by omega)))); rintro e u3 ⟨rfl, hu3⟩; have HU3 : Below (w.heap.size + 2) (((w.alloc (.cells #[.int .i64 13, .int .i64 tt, .int .i64 a, .int .i64 b, .int .i64 n, .int .i64 g] 71)).alloc (.cells #[.string (wordB 13), .slice (some ⟨N + 13, 0, none⟩) 3 3] 105)).alloc (.cells #[.string (wordB 13)] 9)) u3 := HB2.trans (hu3.mono (by have := HB2.size; simp at this; simp; try omega)); have hou3 : u3.ownsRow (w.heap.size + 2) 9 1 _ 3 [.string (wordB 13), .string (itoaB a), .string (itoaB n)] := ownsRow_of_block ho2 (fun j hj => hu3.block j (ownsRow_block_lt ho2 hj).1); have hus3 : w.heap.size + 2 ≤ u3.heap.size := (by have := HU3.size; simp at this; omega))
    | (at_builtin; refine wpList_append_own _ rfl _ _ 44 rfl (w.heap.size + 2) 9 ti (.string ⟨#[]⟩) 1 16 Tryd.underlying44 hi hz0 hz1 hz2 rfl (by decide) _ _ _ rfl (hou3.alloc _) ⟨u3.heap.size, 0, none⟩ 1 1 [.string (itoaB b)] rfl rfl (cell_one_new _ _ _) (fun x hx => by simp at hx; subst hx; rfl) (by unfold maxLen; omega) (by omega) (by simp; omega) ?_; intro s3 v3 ho3 hg3 hn3; have HB3 : Below (w.heap.size + 2) (((w.alloc (.cells #[.int .i64 13, .int .i64 tt, .int .i64 a, .int .i64 b, .int .i64 n, .int .i64 g] 71)).alloc (.cells #[.string (wordB 13), .slice (some ⟨N + 13, 0, none⟩) 3 3] 105)).alloc (.cells #[.string (wordB 13)] 9)) v3 := (HU3.alloc hus3 _).grown hg3 (by simp; omega) (fun j hj => (ownsRow_block_lt hou3 hj).2); obtain ⟨P3p0, P3p1, P3p2, P3qa, P3qb, P3qn⟩ := K _ HB3)
    | go_in)
  rw [rounds_succ]
  go_wp2_with (go_at_call 61; refine (printLine_own (w.heap.size + 2) _ [wordB 13, itoaB a, itoaB n, itoaB b] _ ho3 (by simp) (by simp) hsz.out).mono ?_; rintro e wz ⟨rfl, hbz⟩)
  go_ret
  exact ⟨ret_str (by rw [hres.out]), Below.trans hb3 (Below.trans (HB3.mono (by omega)) (hbz.mono (by have := HB3.size; simp at this; simp; try omega)))⟩
end Go.Proofs.YtmapdpcfanecdaaDoor
