/- Walks over package run: what a value is shown as. -/
import Derived.Test.YtmapdpcfanecdaaDoorKlawrrp09
import Derived.Test.YtmapdpcfanecdaaDoorKlawrrp11
import Derived.Test.YtmapdpcfanecdaaDoorKlawrrp18
import Derived.Test.YtmapdpcfanecdaaDoorKlawrrp08
namespace Go.Proofs.YtmapdpcfanecdaaDoor
set_option linter.unusedVariables false
set_option linter.unusedSimpArgs false
open Go.RowKit
attribute [local go_sem ↓] Go.wp_at_zero Go.wp_at_succ

set_option maxHeartbeats 2000000 in
set_option maxRecDepth 20000 in
theorem doK_9 (m B t x y : Nat) (s : St) (vv tv lv : Value) (fv : List Value) (n g : Int) (w : World) (h : OwnRun w B m s vv tv lv fv) (hB : B ≤ w.heap.size) (ht : t < s.vars.length) (hx : x < s.vars.length) (hy : y < s.vars.length) :
    Calls Tryd.prog 75 #[.pointer (some ⟨m, 0, none⟩), .agg #[.int .i64 9, .int .i64 t, .int .i64 x, .int .i64 y, .int .i64 n, .int .i64 g]] w fun e w' => e = .returned (.int .i64 0) ∧ MStep w w' B m (ownBlocks m vv tv lv fv) { s with vars := s.vars.set t (truV (decide (s.vars[x].k = s.vars[y].k) && decide (s.vars[x].n = s.vars[y].n))) } := by
  have hm : m < w.heap.size := h.lt (by simp [ownBlocks])
  have z1 : m < w.heap.size + 1 := by omega
  obtain ⟨gb, cap, rfl, hg1, hg2, hcell, hfz⟩ := h.form (by omega)
  have am : m ≠ gb := h.vars_apart rfl m (by simp)
  have ah : w.heap.size ≠ gb := by omega
  have q1 := h.vars_
  have z2 : gb < w.heap.size + 1 := by omega
  obtain ⟨kt0, kt1⟩ := hcell t ht
  have nt0 : (0 : Int) ≤ (t : Int) := by omega
  have nt1 : (t : Int) < (s.vars.length : Int) := by omega
  obtain ⟨kx0, kx1⟩ := hcell x hx
  have nx0 : (0 : Int) ≤ (x : Int) := by omega
  have nx1 : (x : Int) < (s.vars.length : Int) := by omega
  obtain ⟨ky0, ky1⟩ := hcell y hy
  have ny0 : (0 : Int) ≤ (y : Int) := by omega
  have ny1 : (y : Int) < (s.vars.length : Int) := by omega
  have f0 := hfz (t * 2)
  have f1 := hfz (t * 2 + 1)
  have K1 : ∀ wx, Below (w.heap.size + 1) (w.alloc (.cells #[.int .i64 9, .int .i64 t, .int .i64 x, .int .i64 y, .int .i64 n, .int .i64 g] 71)) wx → wx.cell? ⟨m, 1, none⟩ = some (.slice (some ⟨gb, 0, none⟩) s.vars.length cap) ∧ wx.cell? ⟨w.heap.size, 1, none⟩ = some (.int .i64 t) ∧ wx.cell? ⟨w.heap.size, 2, none⟩ = some (.int .i64 x) ∧ wx.cell? ⟨w.heap.size, 3, none⟩ = some (.int .i64 y) ∧ wx.cell? ⟨gb, x * 2, none⟩ = some (.int .i64 s.vars[x].k) ∧ wx.cell? ⟨gb, x * 2 + 1, none⟩ = some (.int .i64 s.vars[x].n) ∧ wx.cell? ⟨gb, y * 2, none⟩ = some (.int .i64 s.vars[y].k) ∧ wx.cell? ⟨gb, y * 2 + 1, none⟩ = some (.int .i64 s.vars[y].n) := by
    intro wx hb
    rw [hb.cell (by simpa using z1), hb.cell (by simp), hb.cell (by simp), hb.cell (by simp), hb.cell (by simpa using z2), hb.cell (by simpa using z2), hb.cell (by simpa using z2), hb.cell (by simpa using z2)]
    simp [go_sem, hm, q1, hg2, kx0, kx1, ky0, ky1]
  clear hcell hfz
  go_enter Tryd.func75, Tryd.ntmps75
  go_wp2
  refine wp_region_z (S := (fun wx => wx.cell? ⟨m, 1, none⟩ = some (.slice (some ⟨gb, 0, none⟩) s.vars.length cap) ∧ wx.cell? ⟨w.heap.size, 1, none⟩ = some (.int .i64 t) ∧ wx.cell? ⟨w.heap.size, 2, none⟩ = some (.int .i64 x) ∧ wx.cell? ⟨w.heap.size, 3, none⟩ = some (.int .i64 y) ∧ wx.cell? ⟨gb, x * 2, none⟩ = some (.int .i64 s.vars[x].k) ∧ wx.cell? ⟨gb, x * 2 + 1, none⟩ = some (.int .i64 s.vars[x].n) ∧ wx.cell? ⟨gb, y * 2, none⟩ = some (.int .i64 s.vars[y].k) ∧ wx.cell? ⟨gb, y * 2 + 1, none⟩ = some (.int .i64 s.vars[y].n))) [28] (by kernel_rfl) (K1 _ (Below.refl _ _).drew) (fun hHeld => ?_)
  refine tkZ 0 ?_ ?_ ?_
  rotate_left
  · exact rn
  (try simp only [stp, List.set])
  refine tkZ 1 ?_ ?_ ?_
  rotate_left
  · exact rn
  (try simp only [stp, List.set])
  refine tkZ 2 ?_ ?_ ?_
  rotate_left
  · exact rn
  (try simp only [stp, List.set])
  refine tkZ 3 ?_ ?_ ?_
  rotate_left
  · exact rn
  (try simp only [stp, List.set])
  refine tkZ 4 ?_ ?_ ?_
  rotate_left
  · exact rn
  (try simp only [stp, List.set])
  refine tkZ 5 ?_ ?_ ?_
  rotate_left
  · exact rn
  (try simp only [stp, List.set])
  refine tkZ 6 ?_ ?_ ?_
  rotate_left
  · exact rn
  (try simp only [stp, List.set])
  refine tkZ 7 ?_ ?_ ?_
  rotate_left
  · exact rn
  (try simp only [stp, List.set])
  refine tkZ 8 ?_ ?_ ?_
  rotate_left
  · exact rn
  (try simp only [stp, List.set])
  refine tkZ 9 ?_ ?_ ?_
  rotate_left
  · exact rn
  (try simp only [stp, List.set])
  refine tkZ 10 ?_ ?_ ?_
  rotate_left
  · exact rn
  (try simp only [stp, List.set])
  refine tkZ 11 ?_ ?_ ?_
  rotate_left
  · exact rn
  (try simp only [stp, List.set])
  refine tkZ 12 ?_ ?_ ?_
  rotate_left
  · exact rn
  (try simp only [stp, List.set])
  refine tkZ 13 ?_ ?_ ?_
  rotate_left
  · exact rn
  (try simp only [stp, List.set])
  refine tkZ 14 ?_ ?_ ?_
  rotate_left
  · exact rn
  (try simp only [stp, List.set])
  refine tkZ 15 ?_ ?_ ?_
  rotate_left
  · exact rn
  (try simp only [stp, List.set])
  refine tkZ 16 ?_ ?_ ?_
  rotate_left
  · exact rn
  (try simp only [stp, List.set])
  refine tkZ 17 ?_ ?_ ?_
  rotate_left
  · exact rn
  (try simp only [stp, List.set])
  refine tkZ 18 ?_ ?_ ?_
  rotate_left
  · exact rn
  (try simp only [stp, List.set])
  refine tkZ 19 ?_ ?_ ?_
  rotate_left
  · exact rn
  (try simp only [stp, List.set])
  refine tkZ 20 ?_ ?_ ?_
  rotate_left
  · exact rn
  (try simp only [stp, List.set])
  refine tkZ 21 ?_ ?_ ?_
  rotate_left
  · exact rn
  (try simp only [stp, List.set])
  refine tkZ 22 ?_ ?_ ?_
  rotate_left
  · exact rn
  (try simp only [stp, List.set])
  refine tkZ 23 ?_ ?_ ?_
  rotate_left
  · exact rn
  (try simp only [stp, List.set])
  refine tkZ 24 ?_ ?_ ?_
  rotate_left
  · exact rn
  (try simp only [stp, List.set])
  refine wpAnyZ_take (i := 25) (v := .bool (decide (s.vars[x].k = s.vars[y].k) && decide (s.vars[x].n = s.vars[y].n))) rfl (by kernel_rfl) (by kernel_rfl) (by kernel_rfl) (fun _ _ _ h => h) (Or.inl ⟨?_, ?_⟩) (by assumption) ?_
  · rfl
  · intro w hSw
    go_simp
    by_cases e1 : s.vars[x].k = s.vars[y].k <;> by_cases e2 : s.vars[x].n = s.vars[y].n <;> simp [e1, e2]
  (try simp only [stp, List.set])
  refine wpAnyZ_one (i := 26) rfl (by kernel_rfl) (fun K hK => ?_)
  go_simp
  go_at_call 96
  refine (truth_any _ _).mono ?_
  rintro e w1 ⟨rfl, hb1⟩
  have HB1 : Below (w.heap.size + 1) (w.alloc (.cells #[.int .i64 9, .int .i64 t, .int .i64 x, .int .i64 y, .int .i64 n, .int .i64 g] 71)) w1 := Below.trans (Below.refl _ _).drew (Below.mono hb1 (by simp))
  go_wp2_with fail
  refine hK.out _ _ (K1 _ HB1) (fun hHeld => ?_)
  clear hK K
  (try simp only [stp, List.set])
  refine tkZ 27 ?_ ?_ ?_
  rotate_left
  · exact rn
  (try simp only [stp, List.set])
  refine wpAnyZ_last (i := 28) rfl (by kernel_rfl) (by kernel_rfl) (fun K hK => ?_)
  have HBL : Below (w.heap.size + 1) (w.alloc (.cells #[.int .i64 9, .int .i64 t, .int .i64 x, .int .i64 y, .int .i64 n, .int .i64 g] 71)) (w1) := HB1
  have c0 : (w1).cell? ⟨gb, t * 2, none⟩ = some (.int .i64 s.vars[t].k) := by rw [HBL.cell (by simpa using z2)]; simp [go_sem, hg2, kt0]
  have c1 : (w1).cell? ⟨gb, t * 2 + 1, none⟩ = some (.int .i64 s.vars[t].n) := by rw [HBL.cell (by simpa using z2)]; simp [go_sem, hg2, kt1]
  have d0 : (w1).frozen? ⟨gb, t * 2, none⟩ = false := by rw [HBL.frozen (by simpa using z2)]; simp [go_sem, hg2, f0]
  have d1 : (w1).frozen? ⟨gb, t * 2 + 1, none⟩ = false := by rw [HBL.frozen (by simpa using z2)]; simp [go_sem, hg2, f1]
  generalize w1 = wl at *
  go_simp
  refine hK.out _ _ ?_
  clear hK K
  (try simp only [stp, List.set])
  refine wpAnyZ_done (by kernel_rfl) ?_ _
  go_wp2
  go_ret
  have HW : Below w.heap.size w wl := Below.trans (by go_grown) (HBL.mono (Nat.le_succ _))
  exact ⟨rfl, ⟨_, _, _, _, (h.below HW).put t ht (truV (decide (s.vars[x].k = s.vars[y].k) && decide (s.vars[x].n = s.vars[y].n)))⟩, ((HW.mono hB).setCell hg1 _).setCell hg1 _, fun j _ => by rw [cell_set2 _ _ _ _ _ _ _ _ am]; exact HW.cell hm, frame_put HW (by simp [ownBlocks, Value.ownBlock]) _ _ _ _⟩
end Go.Proofs.YtmapdpcfanecdaaDoor

namespace Go.Proofs.YtmapdpcfanecdaaDoor
set_option linter.unusedVariables false
set_option linter.unusedSimpArgs false
open Go.RowKit
attribute [local go_sem ↓] Go.wp_at_zero Go.wp_at_succ

set_option maxHeartbeats 2000000 in
set_option maxRecDepth 20000 in
theorem doK_14 (m B t : Nat) (s : St) (vv tv lv : Value) (fv : List Value) (a b n g : Int) (w : World) (h : OwnRun w B m s vv tv lv fv) (hB : B ≤ w.heap.size) (ht : t < s.vars.length) (is : Option Addr) (ic : Nat) (ins : List Int) (hl0 : 0 ≤ n) (hl1 : n ≤ 1000000) (h9 : w.cell? ⟨m, 9, none⟩ = some (.slice is ins.length ic)) (hi : IntsAt w is ins) (htk : 0 ≤ s.taken) :
    Calls Tryd.prog 75 #[.pointer (some ⟨m, 0, none⟩), .agg #[.int .i64 14, .int .i64 t, .int .i64 a, .int .i64 b, .int .i64 n, .int .i64 g]] w fun e w' => e = .returned (.int .i64 0) ∧ MStep w w' B m (ownBlocks m vv tv lv fv) { s with vars := s.vars.set t ⟨1, inputOf ins s.taken n⟩, taken := w64 (s.taken + 1) } := by
  have hm : m < w.heap.size := h.lt (by simp [ownBlocks])
  have z1 : m < w.heap.size + 1 := by omega
  obtain ⟨gb, cap, rfl, hg1, hg2, hcell, hfz⟩ := h.form (by omega)
  have am : m ≠ gb := h.vars_apart rfl m (by simp)
  have ah : w.heap.size ≠ gb := by omega
  have q1 := h.vars_
  have z2 : gb < w.heap.size + 1 := by omega
  obtain ⟨kt0, kt1⟩ := hcell t ht
  have nt0 : (0 : Int) ≤ (t : Int) := by omega
  have nt1 : (t : Int) < (s.vars.length : Int) := by omega
  have f0 := hfz (t * 2)
  have f1 := hfz (t * 2 + 1)
  have K1 : ∀ wx, Below (w.heap.size + 1) (w.alloc (.cells #[.int .i64 14, .int .i64 t, .int .i64 a, .int .i64 b, .int .i64 n, .int .i64 g] 71)) wx → wx.cell? ⟨m, 1, none⟩ = some (.slice (some ⟨gb, 0, none⟩) s.vars.length cap) ∧ wx.cell? ⟨w.heap.size, 1, none⟩ = some (.int .i64 t) ∧ wx.cell? ⟨w.heap.size, 4, none⟩ = some (.int .i64 n) := by
    intro wx hb
    rw [hb.cell (by simpa using z1), hb.cell (by simp), hb.cell (by simp)]
    simp [go_sem, hm, q1]
  have hin : wr (inputOf ins s.taken n) = inputOf ins s.taken n := by
    have : -1000000 ≤ inputOf ins s.taken n ∧ inputOf ins s.taken n ≤ 1000000 := by
      unfold inputOf
      split
      · have := clamp_range (x := ins.getD s.taken.toNat 0) hl0
        omega
      · omega
    unfold wr
    omega
  have hG : Below w.heap.size w (w.alloc (.cells #[.int .i64 14, .int .i64 t, .int .i64 a, .int .i64 b, .int .i64 n, .int .i64 g] 71)).drew := by go_grown
  have h9' : (w.alloc (.cells #[.int .i64 14, .int .i64 t, .int .i64 a, .int .i64 b, .int .i64 n, .int .i64 g] 71)).drew.cell? ⟨m, 9, none⟩ = some (.slice is ins.length ic) := by rw [hG.cell (by simpa using hm)]; exact h9
  have HT := hideK (takeM_any m B s _ tv lv fv n is ic ins (w.alloc (.cells #[.int .i64 14, .int .i64 t, .int .i64 a, .int .i64 b, .int .i64 n, .int .i64 g] 71)).drew (h.below hG) hl0 hl1 h9' (hi.below hG (Nat.le_refl _)) htk)
  clear hcell hfz h9 h9' hi
  go_enter Tryd.func75, Tryd.ntmps75
  go_wp2
  refine wp_region_z (S := (fun wx => wx.cell? ⟨m, 1, none⟩ = some (.slice (some ⟨gb, 0, none⟩) s.vars.length cap) ∧ wx.cell? ⟨w.heap.size, 1, none⟩ = some (.int .i64 t) ∧ wx.cell? ⟨w.heap.size, 4, none⟩ = some (.int .i64 n))) [13] (by kernel_rfl) (K1 _ (Below.refl _ _).drew) (fun hHeld => ?_)
  refine tkZ 0 ?_ ?_ ?_
  rotate_left
  · exact rn
  (try simp only [stp, List.set])
  refine tkZ 1 ?_ ?_ ?_
  rotate_left
  · exact rn
  (try simp only [stp, List.set])
  refine tkZ 2 ?_ ?_ ?_
  rotate_left
  · exact rn
  (try simp only [stp, List.set])
  refine tkZ 3 ?_ ?_ ?_
  rotate_left
  · exact rn
  (try simp only [stp, List.set])
  refine tkZ 4 ?_ ?_ ?_
  rotate_left
  · exact rn
  (try simp only [stp, List.set])
  refine tkZ 5 ?_ ?_ ?_
  rotate_left
  · exact rn
  (try simp only [stp, List.set])
  refine tkZ 6 ?_ ?_ ?_
  rotate_left
  · exact rn
  (try simp only [stp, List.set])
  refine tkZ 7 ?_ ?_ ?_
  rotate_left
  · exact rn
  (try simp only [stp, List.set])
  refine tkZ 8 ?_ ?_ ?_
  rotate_left
  · exact rn
  (try simp only [stp, List.set])
  refine tkZ 9 ?_ ?_ ?_
  rotate_left
  · exact rn
  (try simp only [stp, List.set])
  refine wpAnyZ_one (i := 10) rfl (by kernel_rfl) (fun K hK => ?_)
  go_simp
  go_at_call 101
  refine HT.out.mono ?_
  rintro e w1 ⟨rfl, wa, hb1, rfl⟩
  have HBa : Below (w.heap.size + 1) (w.alloc (.cells #[.int .i64 14, .int .i64 t, .int .i64 a, .int .i64 b, .int .i64 n, .int .i64 g] 71)) wa := Below.trans (Below.refl _ _).drew (Below.mono hb1 (by simp))
  have hSa : (wa.setCell ⟨m, 3, none⟩ (.int .i64 (w64 (s.taken + 1)))).cell? ⟨m, 1, none⟩ = some (.slice (some ⟨gb, 0, none⟩) s.vars.length cap) ∧ (wa.setCell ⟨m, 3, none⟩ (.int .i64 (w64 (s.taken + 1)))).cell? ⟨w.heap.size, 1, none⟩ = some (.int .i64 t) ∧ (wa.setCell ⟨m, 3, none⟩ (.int .i64 (w64 (s.taken + 1)))).cell? ⟨w.heap.size, 4, none⟩ = some (.int .i64 n) := by
    obtain ⟨s1, s2, s3⟩ := K1 _ HBa
    refine ⟨?_, ?_, ?_⟩
    · rw [World.cell?_setCell_other _ _ _ _ (by intro e; cases e)]; exact s1
    · rw [World.cell?_setCell_far _ _ _ _ (by simp; omega)]; exact s2
    · rw [World.cell?_setCell_far _ _ _ _ (by simp; omega)]; exact s3
  go_wp2_with fail
  refine hK.out _ _ hSa (fun hHeld => ?_)
  clear hK K
  (try simp only [stp, List.set])
  refine wpAnyZ_one (i := 11) rfl (by kernel_rfl) (fun K hK => ?_)
  go_simp
  go_at_call 95
  refine (number_any _ _).mono ?_
  rintro e w2 ⟨rfl, hb2⟩
  rw [hin]
  have HB2 : Below (wa.setCell ⟨m, 3, none⟩ (.int .i64 (w64 (s.taken + 1)))).heap.size (wa.setCell ⟨m, 3, none⟩ (.int .i64 (w64 (s.taken + 1)))) w2 := hb2
  have hwa : w.heap.size + 1 ≤ wa.heap.size := by have := HBa.size; simpa using this
  have hwz : (wa.setCell ⟨m, 3, none⟩ (.int .i64 (w64 (s.taken + 1)))).heap.size = wa.heap.size := by simp [World.setCell]
  have hS2 : w2.cell? ⟨m, 1, none⟩ = some (.slice (some ⟨gb, 0, none⟩) s.vars.length cap) ∧ w2.cell? ⟨w.heap.size, 1, none⟩ = some (.int .i64 t) ∧ w2.cell? ⟨w.heap.size, 4, none⟩ = some (.int .i64 n) := by
    obtain ⟨s1, s2, s3⟩ := hSa
    refine ⟨?_, ?_, ?_⟩
    · rw [HB2.cell (by simp only [hwz]; omega)]; exact s1
    · rw [HB2.cell (by simp only [hwz]; omega)]; exact s2
    · rw [HB2.cell (by simp only [hwz]; omega)]; exact s3
  go_wp2_with fail
  refine hK.out _ _ hS2 (fun hHeld => ?_)
  clear hK K
  (try simp only [stp, List.set])
  refine tkZ 12 ?_ ?_ ?_
  rotate_left
  · exact rn
  (try simp only [stp, List.set])
  refine wpAnyZ_last (i := 13) rfl (by kernel_rfl) (by kernel_rfl) (fun K hK => ?_)
  have oA : OwnRun wa B m s (.slice (some ⟨gb, 0, none⟩) s.vars.length cap) tv lv fv := h.below (hG.trans (hb1.mono hG.size))
  have oB := oA.setM 3 (w64 (s.taken + 1)) (by omega)
  have oC := oB.below HB2
  simp only [Nat.reduceEqDiff, if_true, if_false] at oC
  obtain ⟨gb', cap', e', -, -, hcell, hfz⟩ := oC.form (by simpa using (show 0 < s.vars.length by omega))
  cases e'
  obtain ⟨c0, c1⟩ := hcell t ht
  have d0 := hfz (t * 2)
  have d1 := hfz (t * 2 + 1)
  clear hcell hfz
  go_simp
  refine hK.out _ _ ?_
  clear hK K
  (try simp only [stp, List.set])
  refine wpAnyZ_done (by kernel_rfl) ?_ _
  go_wp2
  go_ret
  have hBm : B ≤ m := h.low
  have HW : Below B w w2 := Below.trans ((Below.trans (hG.mono hB) (hb1.mono (by have := hG.size; omega))).setCell hBm _) (HB2.mono (by simp only [hwz]; omega))
  refine ⟨rfl, ⟨_, _, _, _, oC.put t ht ⟨1, inputOf ins s.taken n⟩⟩, (HW.setCell hg1 _).setCell hg1 _, fun j hj => ?_, ?_⟩
  rotate_left
  · refine frame_trans (w1 := w2) ?_ HW.size (frame_put (Below.refl _ _) (by simp [ownBlocks, Value.ownBlock]) _ _ _ _)
    refine frame_trans (frame_same (hG.trans (hb1.mono hG.size))) (by omega) ?_
    exact frame_trans (frame_set (by simp [ownBlocks]) _ _) (by omega) (frame_same HB2)
  rw [cell_set2 _ _ _ _ _ _ _ _ am, HB2.cell (by simp only [hwz]; omega), World.cell?_setCell_other _ _ _ _ (by intro e; cases e; omega), hb1.cell (by simp; omega), hG.cell (by simpa using hm)]
end Go.Proofs.YtmapdpcfanecdaaDoor

namespace Go.Proofs.YtmapdpcfanecdaaDoor
set_option linter.unusedVariables false
set_option linter.unusedSimpArgs false
open Go.RowKit
attribute [local go_sem ↓] Go.wp_at_zero Go.wp_at_succ

set_option maxHeartbeats 2000000 in
set_option maxRecDepth 20000 in
theorem doK_17 (m B x : Nat) (s : St) (vv tv lv : Value) (fv : List Value) (t b n g : Int) (w : World) (h : OwnRun w B m s vv tv lv fv) (hB : B ≤ w.heap.size) (hx : x < s.vars.length) (T : Nat) (hv : okVal T s.vars[x]) :
    Calls Tryd.prog 75 #[.pointer (some ⟨m, 0, none⟩), .agg #[.int .i64 17, .int .i64 t, .int .i64 x, .int .i64 b, .int .i64 n, .int .i64 g]] w fun e w' => e = .returned (.int .i64 (if cnt s.vars[x] = true then 0 else 3)) ∧ MStep w w' B m (ownBlocks m vv tv lv fv) s := by
  have hm : m < w.heap.size := h.lt (by simp [ownBlocks])
  have z1 : m < w.heap.size + 1 := by omega
  obtain ⟨gb, cap, rfl, hg1, hg2, hcell, hfz⟩ := h.form (by omega)
  have am : m ≠ gb := h.vars_apart rfl m (by simp)
  have ah : w.heap.size ≠ gb := by omega
  have q1 := h.vars_
  have z2 : gb < w.heap.size + 1 := by omega
  obtain ⟨kx0, kx1⟩ := hcell x hx
  have nx0 : (0 : Int) ≤ (x : Int) := by omega
  have nx1 : (x : Int) < (s.vars.length : Int) := by omega
  have K1 : ∀ wx, Below (w.heap.size + 1) (w.alloc (.cells #[.int .i64 17, .int .i64 t, .int .i64 x, .int .i64 b, .int .i64 n, .int .i64 g] 71)) wx → wx.cell? ⟨m, 1, none⟩ = some (.slice (some ⟨gb, 0, none⟩) s.vars.length cap) ∧ wx.cell? ⟨w.heap.size, 2, none⟩ = some (.int .i64 x) ∧ wx.cell? ⟨gb, x * 2, none⟩ = some (.int .i64 s.vars[x].k) ∧ wx.cell? ⟨gb, x * 2 + 1, none⟩ = some (.int .i64 s.vars[x].n) := by
    intro wx hb
    rw [hb.cell (by simpa using z1), hb.cell (by simp), hb.cell (by simpa using z2), hb.cell (by simpa using z2)]
    simp [go_sem, hm, q1, hg2, kx0, kx1]
  clear hcell hfz
  have HC := hideK (fun wx => counts_any T s.vars[x] wx hv)
  generalize cnt s.vars[x] = cv at *
  go_enter Tryd.func75, Tryd.ntmps75
  go_wp2
  refine wp_region_z (S := (fun wx => wx.cell? ⟨m, 1, none⟩ = some (.slice (some ⟨gb, 0, none⟩) s.vars.length cap) ∧ wx.cell? ⟨w.heap.size, 2, none⟩ = some (.int .i64 x) ∧ wx.cell? ⟨gb, x * 2, none⟩ = some (.int .i64 s.vars[x].k) ∧ wx.cell? ⟨gb, x * 2 + 1, none⟩ = some (.int .i64 s.vars[x].n))) [] (by kernel_rfl) (K1 _ (Below.refl _ _).drew) (fun hHeld => ?_)
  refine tkZ 0 ?_ ?_ ?_
  rotate_left
  · exact rn
  (try simp only [stp, List.set])
  refine tkZ 1 ?_ ?_ ?_
  rotate_left
  · exact rn
  (try simp only [stp, List.set])
  refine tkZ 2 ?_ ?_ ?_
  rotate_left
  · exact rn
  (try simp only [stp, List.set])
  refine tkZ 3 ?_ ?_ ?_
  rotate_left
  · exact rn
  (try simp only [stp, List.set])
  refine tkZ 4 ?_ ?_ ?_
  rotate_left
  · exact rn
  (try simp only [stp, List.set])
  refine tkZ 5 ?_ ?_ ?_
  rotate_left
  · exact rn
  (try simp only [stp, List.set])
  refine tkZ 6 ?_ ?_ ?_
  rotate_left
  · exact rn
  (try simp only [stp, List.set])
  refine tkZ 7 ?_ ?_ ?_
  rotate_left
  · exact rn
  (try simp only [stp, List.set])
  refine tkZ 8 ?_ ?_ ?_
  rotate_left
  · exact rn
  (try simp only [stp, List.set])
  refine wpAnyZ_one (i := 9) rfl (by kernel_rfl) (fun K hK => ?_)
  go_simp
  go_at_call 98
  refine (HC.out _).mono ?_
  rintro e w1 ⟨rfl, hb1⟩
  have HB1 : Below (w.heap.size + 1) (w.alloc (.cells #[.int .i64 17, .int .i64 t, .int .i64 x, .int .i64 b, .int .i64 n, .int .i64 g] 71)) w1 := Below.trans (Below.refl _ _).drew (Below.mono hb1 (by simp))
  go_wp2_with fail
  refine hK.out _ _ (K1 _ HB1) (fun hHeld => ?_)
  clear hK K
  (try simp only [stp, List.set])
  refine tkZ 10 ?_ ?_ ?_
  rotate_left
  · exact rn
  (try simp only [stp, List.set])
  refine wpAnyZ_done (by kernel_rfl) ?_ _
  have HW : Below w.heap.size w w1 := Below.trans (by go_grown) (HB1.mono (Nat.le_succ _))
  have HO := h.below HW
  have HM := HW.mono hB
  have HE : ∀ j, w1.cell? ⟨m, j, none⟩ = w.cell? ⟨m, j, none⟩ := fun j => HW.cell hm
  have HX := hideK (And.intro HO (And.intro HM (And.intro HE HW)))
  clear HO HM HE h
  cases cv
  all_goals
    go_wp2
    go_ret
    exact ⟨rfl, ⟨_, _, _, _, HX.out.1⟩, HX.out.2.1, fun j _ => HX.out.2.2.1 j, frame_same HX.out.2.2.2⟩

set_option maxHeartbeats 1000000 in
set_option maxRecDepth 20000 in
theorem doK_15 (m B : Nat) (s : St) (vv tv lv : Value) (fv : List Value) (t a b n g : Int) (w : World) (h : OwnRun w B m s vv tv lv fv) (hB : B ≤ w.heap.size) :
    Calls Tryd.prog 75 #[.pointer (some ⟨m, 0, none⟩), .agg #[.int .i64 15, .int .i64 t, .int .i64 a, .int .i64 b, .int .i64 n, .int .i64 g]] w fun e w' => e = .returned (.int .i64 0) ∧ MStep w w' B m (ownBlocks m vv tv lv fv) s := by
  have hm : m < w.heap.size := h.lt (by simp [ownBlocks])
  have HW : Below w.heap.size w (w.alloc (.cells #[.int .i64 15, .int .i64 t, .int .i64 a, .int .i64 b, .int .i64 n, .int .i64 g] 71)) := by go_grown
  have hc : ∀ j, (w.alloc (.cells #[.int .i64 15, .int .i64 t, .int .i64 a, .int .i64 b, .int .i64 n, .int .i64 g] 71)).cell? ⟨m, j, none⟩ = w.cell? ⟨m, j, none⟩ := fun j => HW.cell hm
  have HX := hideK (And.intro (h.below HW) (And.intro (HW.mono hB) (And.intro hc HW)))
  clear h hc HW
  go_enter Tryd.func75, Tryd.ntmps75
  go_wp2
  go_ret
  exact ⟨rfl, ⟨_, _, _, _, HX.out.1⟩, HX.out.2.1, fun j _ => HX.out.2.2.1 j, frame_same HX.out.2.2.2⟩

set_option maxHeartbeats 1000000 in
set_option maxRecDepth 20000 in
theorem doK_16 (m B : Nat) (s : St) (vv tv lv : Value) (fv : List Value) (t a b n g : Int) (w : World) (h : OwnRun w B m s vv tv lv fv) (hB : B ≤ w.heap.size) :
    Calls Tryd.prog 75 #[.pointer (some ⟨m, 0, none⟩), .agg #[.int .i64 16, .int .i64 t, .int .i64 a, .int .i64 b, .int .i64 n, .int .i64 g]] w fun e w' => e = .returned (.int .i64 0) ∧ MStep w w' B m (ownBlocks m vv tv lv fv) s := by
  have hm : m < w.heap.size := h.lt (by simp [ownBlocks])
  have HW : Below w.heap.size w (w.alloc (.cells #[.int .i64 16, .int .i64 t, .int .i64 a, .int .i64 b, .int .i64 n, .int .i64 g] 71)) := by go_grown
  have hc : ∀ j, (w.alloc (.cells #[.int .i64 16, .int .i64 t, .int .i64 a, .int .i64 b, .int .i64 n, .int .i64 g] 71)).cell? ⟨m, j, none⟩ = w.cell? ⟨m, j, none⟩ := fun j => HW.cell hm
  have HX := hideK (And.intro (h.below HW) (And.intro (HW.mono hB) (And.intro hc HW)))
  clear h hc HW
  go_enter Tryd.func75, Tryd.ntmps75
  go_wp2
  go_ret
  exact ⟨rfl, ⟨_, _, _, _, HX.out.1⟩, HX.out.2.1, fun j _ => HX.out.2.2.1 j, frame_same HX.out.2.2.2⟩

set_option maxHeartbeats 1000000 in
set_option maxRecDepth 20000 in
theorem doK_19 (m B : Nat) (s : St) (vv tv lv : Value) (fv : List Value) (t a b n g : Int) (w : World) (h : OwnRun w B m s vv tv lv fv) (hB : B ≤ w.heap.size) :
    Calls Tryd.prog 75 #[.pointer (some ⟨m, 0, none⟩), .agg #[.int .i64 19, .int .i64 t, .int .i64 a, .int .i64 b, .int .i64 n, .int .i64 g]] w fun e w' => e = .returned (.int .i64 1) ∧ MStep w w' B m (ownBlocks m vv tv lv fv) s := by
  have hm : m < w.heap.size := h.lt (by simp [ownBlocks])
  have HW : Below w.heap.size w (w.alloc (.cells #[.int .i64 19, .int .i64 t, .int .i64 a, .int .i64 b, .int .i64 n, .int .i64 g] 71)) := by go_grown
  have hc : ∀ j, (w.alloc (.cells #[.int .i64 19, .int .i64 t, .int .i64 a, .int .i64 b, .int .i64 n, .int .i64 g] 71)).cell? ⟨m, j, none⟩ = w.cell? ⟨m, j, none⟩ := fun j => HW.cell hm
  have HX := hideK (And.intro (h.below HW) (And.intro (HW.mono hB) (And.intro hc HW)))
  clear h hc HW
  go_enter Tryd.func75, Tryd.ntmps75
  go_wp2
  go_ret
  exact ⟨rfl, ⟨_, _, _, _, HX.out.1⟩, HX.out.2.1, fun j _ => HX.out.2.2.1 j, frame_same HX.out.2.2.2⟩
end Go.Proofs.YtmapdpcfanecdaaDoor

namespace Go.Proofs.YtmapdpcfanecdaaDoor
set_option linter.unusedVariables false
set_option linter.unusedSimpArgs false
open Go.RowKit

set_option maxHeartbeats 1000000 in
set_option maxRecDepth 20000 in
theorem text_true (w : World) :
    Calls Tryd.prog 102 #[.agg #[.int .i64 2, .int .i64 1]] w fun e w' => e = .returned (.string ⟨#[116, 114, 117, 101]⟩) ∧ Below w.heap.size w w' := by
  have c0 := cell_regrown (w := (w.alloc (.cells #[.int .i64 2, .int .i64 1] 94))) (a := ⟨w.heap.size, 0, none⟩) (v := .int .i64 2) (by simp [go_sem])
  have c1 := cell_regrown (w := (w.alloc (.cells #[.int .i64 2, .int .i64 1] 94))) (a := ⟨w.heap.size, 1, none⟩) (v := .int .i64 1) (by simp [go_sem])
  have t0 : (truV false).k = 2 := rfl
  have t1 : (truV false).n = 0 := rfl
  have t2 : (truV true).k = 2 := rfl
  have t3 : (truV true).n = 1 := rfl
  have hb0 : Below w.heap.size w (w.alloc (.cells #[.int .i64 2, .int .i64 1] 94)) := by go_grown
  go_enter Tryd.func102, Tryd.ntmps102
  go_wp2
  refine wp_region_quiet_below (by kernel_rfl) (by kernel_rfl) ?_
  repeat (quiet_step (first | exact Calls.regrown_of (truth_any false _) | exact Calls.regrown_of (truth_any true _)))
  refine wpQuiet_nil ?_
  intro _ hw'
  obtain ⟨⟨dq, osq⟩, hw''⟩ := hw'
  subst hw''
  go_wp2
  go_ret
  exact ⟨rfl, Below.trans (by go_grown) ((below_regrown _ dq osq).mono (by go_size))⟩

set_option maxHeartbeats 1000000 in
set_option maxRecDepth 20000 in
theorem text_false (w : World) :
    Calls Tryd.prog 102 #[.agg #[.int .i64 2, .int .i64 0]] w fun e w' => e = .returned (.string ⟨#[102, 97, 108, 115, 101]⟩) ∧ Below w.heap.size w w' := by
  have c0 := cell_regrown (w := (w.alloc (.cells #[.int .i64 2, .int .i64 0] 94))) (a := ⟨w.heap.size, 0, none⟩) (v := .int .i64 2) (by simp [go_sem])
  have c1 := cell_regrown (w := (w.alloc (.cells #[.int .i64 2, .int .i64 0] 94))) (a := ⟨w.heap.size, 1, none⟩) (v := .int .i64 0) (by simp [go_sem])
  have t0 : (truV false).k = 2 := rfl
  have t1 : (truV false).n = 0 := rfl
  have t2 : (truV true).k = 2 := rfl
  have t3 : (truV true).n = 1 := rfl
  have hb0 : Below w.heap.size w (w.alloc (.cells #[.int .i64 2, .int .i64 0] 94)) := by go_grown
  go_enter Tryd.func102, Tryd.ntmps102
  go_wp2
  refine wp_region_quiet_below (by kernel_rfl) (by kernel_rfl) ?_
  repeat (quiet_step (first | exact Calls.regrown_of (truth_any false _) | exact Calls.regrown_of (truth_any true _)))
  refine wpQuiet_nil ?_
  intro _ hw'
  obtain ⟨⟨dq, osq⟩, hw''⟩ := hw'
  subst hw''
  have hb1 := hb0.trans ((below_regrown (w.alloc (.cells #[.int .i64 2, .int .i64 0] 94)) dq osq).mono (by go_size))
  have d0 := c0 dq osq
  have d1 := c1 dq osq
  clear c0 c1
  generalize Go.Sort.grow (redrawn (w.alloc (.cells #[.int .i64 2, .int .i64 0] 94)) dq) osq = w2 at *
  have c0 := cell_regrown d0
  have c1 := cell_regrown d1
  go_wp2
  refine wp_region_quiet_below (by kernel_rfl) (by kernel_rfl) ?_
  repeat (quiet_step (first | exact Calls.regrown_of (truth_any false _) | exact Calls.regrown_of (truth_any true _)))
  refine wpQuiet_nil ?_
  intro _ hw'
  obtain ⟨⟨dq, osq⟩, hw''⟩ := hw'
  subst hw''
  go_wp2
  go_ret
  exact ⟨rfl, hb1.trans ((below_regrown _ dq osq).mono hb1.size)⟩

set_option maxHeartbeats 1000000 in
set_option maxRecDepth 20000 in
theorem text_null (w : World) :
    Calls Tryd.prog 102 #[.agg #[.int .i64 0, .int .i64 0]] w fun e w' => e = .returned (.string ⟨#[110, 117, 108, 108]⟩) ∧ Below w.heap.size w w' := by
  have c0 := cell_regrown (w := (w.alloc (.cells #[.int .i64 0, .int .i64 0] 94))) (a := ⟨w.heap.size, 0, none⟩) (v := .int .i64 0) (by simp [go_sem])
  have c1 := cell_regrown (w := (w.alloc (.cells #[.int .i64 0, .int .i64 0] 94))) (a := ⟨w.heap.size, 1, none⟩) (v := .int .i64 0) (by simp [go_sem])
  have t0 : (truV false).k = 2 := rfl
  have t1 : (truV false).n = 0 := rfl
  have t2 : (truV true).k = 2 := rfl
  have t3 : (truV true).n = 1 := rfl
  have hb0 : Below w.heap.size w (w.alloc (.cells #[.int .i64 0, .int .i64 0] 94)) := by go_grown
  go_enter Tryd.func102, Tryd.ntmps102
  go_wp2
  refine wp_region_quiet_below (by kernel_rfl) (by kernel_rfl) ?_
  repeat (quiet_step (first | exact Calls.regrown_of (truth_any false _) | exact Calls.regrown_of (truth_any true _)))
  refine wpQuiet_nil ?_
  intro _ hw'
  obtain ⟨⟨dq, osq⟩, hw''⟩ := hw'
  subst hw''
  have hb1 := hb0.trans ((below_regrown (w.alloc (.cells #[.int .i64 0, .int .i64 0] 94)) dq osq).mono (by go_size))
  have d0 := c0 dq osq
  have d1 := c1 dq osq
  clear c0 c1
  generalize Go.Sort.grow (redrawn (w.alloc (.cells #[.int .i64 0, .int .i64 0] 94)) dq) osq = w2 at *
  have c0 := cell_regrown d0
  have c1 := cell_regrown d1
  go_wp2
  refine wp_region_quiet_below (by kernel_rfl) (by kernel_rfl) ?_
  repeat (quiet_step (first | exact Calls.regrown_of (truth_any false _) | exact Calls.regrown_of (truth_any true _)))
  refine wpQuiet_nil ?_
  intro _ hw'
  obtain ⟨⟨dq, osq⟩, hw''⟩ := hw'
  subst hw''
  go_wp2
  go_ret
  exact ⟨rfl, hb1.trans ((below_regrown _ dq osq).mono hb1.size)⟩

set_option maxHeartbeats 1000000 in
set_option maxRecDepth 20000 in
theorem text_thing (n : Int) (w : World) :
    Calls Tryd.prog 102 #[.agg #[.int .i64 3, .int .i64 n]] w fun e w' => e = .returned (.string ⟨#[116, 104, 105, 110, 103]⟩) ∧ Below w.heap.size w w' := by
  go_enter Tryd.func102, Tryd.ntmps102
  go_wp2
  go_ret
  exact ⟨rfl, by go_grown⟩
set_option maxHeartbeats 1000000 in
set_option maxRecDepth 20000 in
theorem text_num (n : Int) (w : World) (hf : fits n) (ht : Tab w) :
    Calls Tryd.prog 102 #[.agg #[.int .i64 1, .int .i64 n]] w fun e w' => e = .returned (.string (itoaB n)) ∧ Below w.heap.size w w' := by
  have hb0 : Below w.heap.size w (w.alloc (.cells #[.int .i64 1, .int .i64 n] 94)) := by go_grown
  go_enter Tryd.func102, Tryd.ntmps102
  go_wp2_with (go_at_call 62; fail)
  refine (itoa_any n _ hf (ht.below hb0)).mono ?_
  rintro e w1 ⟨rfl, hb1⟩
  go_wp2
  go_ret
  exact ⟨rfl, hb0.trans (hb1.mono hb0.size)⟩
/-- What a value that is right is shown as. -/
theorem text_any (T : Nat) (k n : Int) (w : World) (h : okValB T ⟨k, n⟩ = true) (ht : Tab w) :
    Calls Tryd.prog 102 #[.agg #[.int .i64 k, .int .i64 n]] w fun e w' => e = .returned (.string (showB ⟨k, n⟩)) ∧ Below w.heap.size w w' := by
  by_cases h1 : k = 1
  · subst h1
    have hb : -2147483648 ≤ n ∧ n ≤ 2147483647 := by simpa [okValB, btw] using h
    have e : showB ⟨1, n⟩ = itoaB n := by simp [showB]
    rw [e]
    exact text_num n w ⟨by omega, by omega⟩ ht
  by_cases h3 : k = 3
  · subst h3
    have e : showB ⟨3, n⟩ = ⟨#[116, 104, 105, 110, 103]⟩ := by simp [showB]
    rw [e]
    exact text_thing n w
  by_cases h2 : k = 2
  · subst h2
    have hb : 0 ≤ n ∧ n ≤ 1 := by simpa [okValB, btw] using h
    by_cases n1 : n = 1
    · subst n1
      exact text_true w
    · obtain rfl : n = 0 := by omega
      exact text_false w
  by_cases h0 : k = 0
  · subst h0
    obtain rfl : n = 0 := by simpa [okValB] using h
    exact text_null w
  · have : okValB T ⟨k, n⟩ = false := by simp [okValB, h0, h1, h2, h3]
    rw [this] at h
    cases h
end Go.Proofs.YtmapdpcfanecdaaDoor
