/- Walks over package run: what the machine does, kind by kind. -/
import Derived.Test.YtmapdpcfanecdaaDoorKlawrsp08
import Derived.Test.YtmapdpcfanecdaaDoorKlawrsp10
import Derived.Test.YtmapdpcfanecdaaDoorKlawrsp14
namespace Go.Proofs.YtmapdpcfanecdaaDoor
set_option linter.unusedVariables false
set_option linter.unusedSimpArgs false
open Go.RowKit
attribute [local go_sem ↓] Go.wp_at_zero Go.wp_at_succ

theorem made_zero : ∀ f : Nat, f ≤ 8 → (madeCells (Value.agg #[.int .i64 0, .int .i64 0]).cells (f * 2)).toList = valCells (List.replicate f ⟨0, 0⟩)
  | 0, _ => by kernel_rfl
  | 1, _ => by kernel_rfl
  | 2, _ => by kernel_rfl
  | 3, _ => by kernel_rfl
  | 4, _ => by kernel_rfl
  | 5, _ => by kernel_rfl
  | 6, _ => by kernel_rfl
  | 7, _ => by kernel_rfl
  | 8, _ => by kernel_rfl
  | n + 9, h => absurd h (by omega)
theorem info_thg : (Tryd.prog.info? 99).map (fun i => (i.zero, i.size, i.bytes)) = some (some (.agg #[.int .i64 0, .slice none 0 0]), 2, 32) := by kernel_rfl
theorem OwnRun.tform {w : World} {B m : Nat} {s : St} {vv tv lv : Value} {fv : List Value} (h : OwnRun w B m s vv tv lv fv) : ∃ ts tc, tv = .slice ts s.things.length tc := by
  rcases h.things.2 with ⟨hv, hn⟩ | ⟨g, cap, cur, hv, _⟩
  · exact ⟨none, 0, by rw [hv, hn]⟩
  · exact ⟨_, _, hv⟩
set_option maxHeartbeats 1000000 in
set_option maxRecDepth 20000 in
theorem make_full (m B : Nat) (s : St) (vv tv lv : Value) (fv : List Value) (t a b n g : Int) (w : World) (h : OwnRun w B m s vv tv lv fv) (hB : B ≤ w.heap.size) (hT : s.things.length = 100) :
    Calls Tryd.prog 99 #[.pointer (some ⟨m, 0, none⟩), .agg #[.int .i64 11, .int .i64 t, .int .i64 a, .int .i64 b, .int .i64 n, .int .i64 g]] w fun e w' => e = .returned (.int .i64 5) ∧ MStep w w' B m (ownBlocks m vv tv lv fv) s := by
  have hm : m < w.heap.size := h.lt (by simp [ownBlocks])
  obtain ⟨ts, tc, rfl⟩ := h.tform
  have q2 := h.things_
  rw [hT] at q2
  have HW : Below w.heap.size w (w.alloc (.cells #[.int .i64 11, .int .i64 t, .int .i64 a, .int .i64 b, .int .i64 n, .int .i64 g] 71)) := by go_grown
  have hc : ∀ j, (w.alloc (.cells #[.int .i64 11, .int .i64 t, .int .i64 a, .int .i64 b, .int .i64 n, .int .i64 g] 71)).cell? ⟨m, j, none⟩ = w.cell? ⟨m, j, none⟩ := fun j => HW.cell hm
  have HX := hideK (And.intro (h.below HW) (And.intro (HW.mono hB) (And.intro hc HW)))
  have q2' : (w.alloc (.cells #[.int .i64 11, .int .i64 t, .int .i64 a, .int .i64 b, .int .i64 n, .int .i64 g] 71)).cell? ⟨m, 2, none⟩ = some (.slice ts ((100 : Nat)) tc) := by rw [hc]; exact q2
  clear h hc HW q2
  go_enter Tryd.func99, Tryd.ntmps99
  go_wp2
  go_ret
  exact ⟨rfl, ⟨_, _, _, _, HX.out.1⟩, HX.out.2.1, fun j _ => HX.out.2.2.1 j, frame_same HX.out.2.2.2⟩
set_option maxHeartbeats 4000000 in
set_option maxRecDepth 20000 in
theorem make_new (m B t f : Nat) (s : St) (vv tv lv : Value) (fv : List Value) (a b n g : Int) (w : World) (h : OwnRun w B m s vv tv lv fv) (hB : B ≤ w.heap.size) (ht : t < s.vars.length) (hT : s.things.length < 100) (hf : f ≤ 3) (h7 : w.cell? ⟨m, 7, none⟩ = some (.int .i64 f)) :
    Calls Tryd.prog 99 #[.pointer (some ⟨m, 0, none⟩), .agg #[.int .i64 11, .int .i64 t, .int .i64 a, .int .i64 b, .int .i64 n, .int .i64 g]] w fun e w' => e = .returned (.int .i64 0) ∧ MStep w w' B m (ownBlocks m vv tv lv fv) { s with vars := s.vars.set t ⟨3, s.things.length⟩, things := s.things ++ [⟨s.at_, List.replicate f ⟨0, 0⟩⟩] } := by
  have hm : m < w.heap.size := h.lt (by simp [ownBlocks])
  have hBm : B ≤ m := h.low
  have z1 : m < w.heap.size + 1 := by omega
  obtain ⟨ti, hi, hz0, hz1, hz2⟩ := info_parts info_val
  obtain ⟨tj, hj, hy0, hy1, hy2⟩ := info_parts info_thg
  obtain ⟨gb, cap, rfl, hg1, hg2, hcell, hfz⟩ := h.form (by omega)
  obtain ⟨ts, tc, rfl⟩ := h.tform
  have am : m ≠ gb := h.vars_apart rfl m (by simp)
  have q1 := h.vars_
  have q2 := h.things_
  have z2 : gb < w.heap.size + 1 := by omega
  obtain ⟨kt0, kt1⟩ := hcell t ht
  have nt0 : (0 : Int) ≤ (t : Int) := by omega
  have nt1 : (t : Int) < (s.vars.length : Int) := by omega
  have f0 := hfz (t * 2)
  have f1 := hfz (t * 2 + 1)
  have nT : ((s.things.length : Int) == 100) = false := by simp; omega
  have K1 : ∀ wx, Below (w.heap.size + 1) (w.alloc (.cells #[.int .i64 11, .int .i64 t, .int .i64 a, .int .i64 b, .int .i64 n, .int .i64 g] 71)) wx → wx.cell? ⟨m, 1, none⟩ = some (.slice (some ⟨gb, 0, none⟩) s.vars.length cap) ∧ wx.cell? ⟨w.heap.size, 1, none⟩ = some (.int .i64 t) ∧ wx.cell? ⟨m, 2, none⟩ = some (.slice ts s.things.length tc) := by
    intro wx hb
    rw [hb.cell (by simpa using z1), hb.cell (by simp), hb.cell (by simpa using z1)]
    simp [go_sem, hm, q1, q2]
  have q2' : (w.alloc (.cells #[.int .i64 11, .int .i64 t, .int .i64 a, .int .i64 b, .int .i64 n, .int .i64 g] 71)).cell? ⟨m, 2, none⟩ = some (.slice ts s.things.length tc) := (K1 _ (Below.refl _ _)).2.2
  have HW : Below w.heap.size w (w.alloc (.cells #[.int .i64 11, .int .i64 t, .int .i64 a, .int .i64 b, .int .i64 n, .int .i64 g] 71)).drew := by go_grown
  have oL := h.below HW
  have oP := oL.put t ht ⟨3, s.things.length⟩
  have HP : Below B w (((w.alloc (.cells #[.int .i64 11, .int .i64 t, .int .i64 a, .int .i64 b, .int .i64 n, .int .i64 g] 71)).drew.setCell ⟨gb, t * 2, none⟩ (.int .i64 3)).setCell ⟨gb, t * 2 + 1, none⟩ (.int .i64 s.things.length)) := ((HW.mono hB).setCell hg1 _).setCell hg1 _
  have hcm : ∀ j, (((w.alloc (.cells #[.int .i64 11, .int .i64 t, .int .i64 a, .int .i64 b, .int .i64 n, .int .i64 g] 71)).drew.setCell ⟨gb, t * 2, none⟩ (.int .i64 3)).setCell ⟨gb, t * 2 + 1, none⟩ (.int .i64 s.things.length)).cell? ⟨m, j, none⟩ = w.cell? ⟨m, j, none⟩ := fun j => by rw [cell_set2 _ _ _ _ _ _ _ _ am]; exact HW.cell hm
  have HX := hideK (And.intro oP (And.intro HP (And.intro hcm (frame_put (bs := ownBlocks m (.slice (some ⟨gb, 0, none⟩) s.vars.length cap) (.slice ts s.things.length tc) lv fv) HW (g := gb) (by simp only [ownBlocks, List.mem_cons]; right; left; rfl) (t * 2) (t * 2 + 1) (.int .i64 3) (.int .i64 s.things.length)))))
  clear hcell hfz q2 oP HP hcm oL
  go_enter Tryd.func99, Tryd.ntmps99
  go_wp2
  refine wp_region_z (S := (fun wx => wx.cell? ⟨m, 1, none⟩ = some (.slice (some ⟨gb, 0, none⟩) s.vars.length cap) ∧ wx.cell? ⟨w.heap.size, 1, none⟩ = some (.int .i64 t) ∧ wx.cell? ⟨m, 2, none⟩ = some (.slice ts s.things.length tc))) [15] (by kernel_rfl) (K1 _ (Below.refl _ _).drew) (fun hHeld => ?_)
  refine tkZ 0 ?_ ?_ ?_
  rotate_left
  · exact rn
  (try simp only [Act.put, List.getElem_toArray, List.getElem_cons_zero, List.getElem_cons_succ, List.setIfInBounds_toArray, List.set_cons_zero, List.set_cons_succ])
  refine tkZ 1 ?_ ?_ ?_
  rotate_left
  · exact rn
  (try simp only [Act.put, List.getElem_toArray, List.getElem_cons_zero, List.getElem_cons_succ, List.setIfInBounds_toArray, List.set_cons_zero, List.set_cons_succ])
  refine tkZ 2 ?_ ?_ ?_
  rotate_left
  · exact rn
  (try simp only [Act.put, List.getElem_toArray, List.getElem_cons_zero, List.getElem_cons_succ, List.setIfInBounds_toArray, List.set_cons_zero, List.set_cons_succ])
  refine tkZ 3 ?_ ?_ ?_
  rotate_left
  · exact rn
  (try simp only [Act.put, List.getElem_toArray, List.getElem_cons_zero, List.getElem_cons_succ, List.setIfInBounds_toArray, List.set_cons_zero, List.set_cons_succ])
  refine tkZ 4 ?_ ?_ ?_
  rotate_left
  · exact rn
  (try simp only [Act.put, List.getElem_toArray, List.getElem_cons_zero, List.getElem_cons_succ, List.setIfInBounds_toArray, List.set_cons_zero, List.set_cons_succ])
  refine tkZ 5 ?_ ?_ ?_
  rotate_left
  · exact rn
  (try simp only [Act.put, List.getElem_toArray, List.getElem_cons_zero, List.getElem_cons_succ, List.setIfInBounds_toArray, List.set_cons_zero, List.set_cons_succ])
  refine tkZ 6 ?_ ?_ ?_
  rotate_left
  · exact rn
  (try simp only [Act.put, List.getElem_toArray, List.getElem_cons_zero, List.getElem_cons_succ, List.setIfInBounds_toArray, List.set_cons_zero, List.set_cons_succ])
  refine tkZ 7 ?_ ?_ ?_
  rotate_left
  · exact rn
  (try simp only [Act.put, List.getElem_toArray, List.getElem_cons_zero, List.getElem_cons_succ, List.setIfInBounds_toArray, List.set_cons_zero, List.set_cons_succ])
  refine tkZ 8 ?_ ?_ ?_
  rotate_left
  · exact rn
  (try simp only [Act.put, List.getElem_toArray, List.getElem_cons_zero, List.getElem_cons_succ, List.setIfInBounds_toArray, List.set_cons_zero, List.set_cons_succ])
  refine tkZ 9 ?_ ?_ ?_
  rotate_left
  · exact rn
  (try simp only [Act.put, List.getElem_toArray, List.getElem_cons_zero, List.getElem_cons_succ, List.setIfInBounds_toArray, List.set_cons_zero, List.set_cons_succ])
  refine tkZ 10 ?_ ?_ ?_
  rotate_left
  · exact rn
  (try simp only [Act.put, List.getElem_toArray, List.getElem_cons_zero, List.getElem_cons_succ, List.setIfInBounds_toArray, List.set_cons_zero, List.set_cons_succ])
  refine tkZ 11 ?_ ?_ ?_
  rotate_left
  · exact rn
  (try simp only [Act.put, List.getElem_toArray, List.getElem_cons_zero, List.getElem_cons_succ, List.setIfInBounds_toArray, List.set_cons_zero, List.set_cons_succ])
  refine tkZ 12 ?_ ?_ ?_
  rotate_left
  · exact rn
  (try simp only [Act.put, List.getElem_toArray, List.getElem_cons_zero, List.getElem_cons_succ, List.setIfInBounds_toArray, List.set_cons_zero, List.set_cons_succ])
  refine tkZ 13 ?_ ?_ ?_
  rotate_left
  · exact rn
  (try simp only [Act.put, List.getElem_toArray, List.getElem_cons_zero, List.getElem_cons_succ, List.setIfInBounds_toArray, List.set_cons_zero, List.set_cons_succ])
  refine tkZ 14 ?_ ?_ ?_
  rotate_left
  · exact rn
  (try simp only [Act.put, List.getElem_toArray, List.getElem_cons_zero, List.getElem_cons_succ, List.setIfInBounds_toArray, List.set_cons_zero, List.set_cons_succ])
  refine wpAnyZ_last (i := 15) rfl (by kernel_rfl) (by kernel_rfl) (fun K hK => ?_)
  have c0 : (w.alloc (.cells #[.int .i64 11, .int .i64 t, .int .i64 a, .int .i64 b, .int .i64 n, .int .i64 g] 71)).drew.cell? ⟨gb, t * 2, none⟩ = some (.int .i64 s.vars[t].k) := by rw [HW.cell (by simpa using hg2)]; exact kt0
  have c1 : (w.alloc (.cells #[.int .i64 11, .int .i64 t, .int .i64 a, .int .i64 b, .int .i64 n, .int .i64 g] 71)).drew.cell? ⟨gb, t * 2 + 1, none⟩ = some (.int .i64 s.vars[t].n) := by rw [HW.cell (by simpa using hg2)]; exact kt1
  have d0 : (w.alloc (.cells #[.int .i64 11, .int .i64 t, .int .i64 a, .int .i64 b, .int .i64 n, .int .i64 g] 71)).drew.frozen? ⟨gb, t * 2, none⟩ = false := by rw [HW.frozen (by simpa using hg2)]; exact f0
  have d1 : (w.alloc (.cells #[.int .i64 11, .int .i64 t, .int .i64 a, .int .i64 b, .int .i64 n, .int .i64 g] 71)).drew.frozen? ⟨gb, t * 2 + 1, none⟩ = false := by rw [HW.frozen (by simpa using hg2)]; exact f1
  generalize (w.alloc (.cells #[.int .i64 11, .int .i64 t, .int .i64 a, .int .i64 b, .int .i64 n, .int .i64 g] 71)).drew = wl at *
  go_simp
  refine hK.out _ _ ?_
  clear hK K
  (try simp only [Act.put, List.getElem_toArray, List.getElem_cons_zero, List.getElem_cons_succ, List.setIfInBounds_toArray, List.set_cons_zero, List.set_cons_succ])
  refine wpAnyZ_done (by kernel_rfl) ?_ _
  obtain ⟨oP, HP, hcm0, hfr0⟩ := HX.out
  have hcm := hideK hcm0
  have hfr := hideK hfr0
  clear hcm0 hfr0
  clear HX K1 q2' HW c0 c1 d0 d1 hHeld
  generalize (wl.setCell ⟨gb, t * 2, none⟩ (.int .i64 3)).setCell ⟨gb, t * 2 + 1, none⟩ (.int .i64 s.things.length) = w2 at *
  have p2 : w2.cell? ⟨m, 2, none⟩ = some (.slice ts s.things.length tc) := oP.things_
  have p0 : w2.cell? ⟨m, 0, none⟩ = some (.int .i64 s.at_) := oP.at_
  have p7 : w2.cell? ⟨m, 7, none⟩ = some (.int .i64 f) := by rw [hcm.out 7]; exact h7
  have hm2 : m < w2.heap.size := oP.lt (by simp [ownBlocks])
  have KZ : ∀ wx, Below w2.heap.size w2 wx → wx.cell? ⟨m, 2, none⟩ = some (.slice ts s.things.length tc) ∧ wx.cell? ⟨m, 0, none⟩ = some (.int .i64 s.at_) ∧ wx.cell? ⟨m, 7, none⟩ = some (.int .i64 f) := fun wx hx => ⟨by rw [hx.cell (by simpa using hm2)]; exact p2, by rw [hx.cell (by simpa using hm2)]; exact p0, by rw [hx.cell (by simpa using hm2)]; exact p7⟩
  go_wp2
  refine wp_region_z (S := (fun wx => wx.cell? ⟨m, 2, none⟩ = some (.slice ts s.things.length tc) ∧ wx.cell? ⟨m, 0, none⟩ = some (.int .i64 s.at_) ∧ wx.cell? ⟨m, 7, none⟩ = some (.int .i64 f))) [23] (by kernel_rfl) (KZ _ (Below.refl _ _).drew) (fun hHeld => ?_)
  refine tkZ 0 ?_ ?_ ?_
  rotate_left
  · exact rn
  (try simp only [Act.put, List.getElem_toArray, List.getElem_cons_zero, List.getElem_cons_succ, List.setIfInBounds_toArray, List.set_cons_zero, List.set_cons_succ])
  refine tkZ 1 ?_ ?_ ?_
  rotate_left
  · exact rn
  (try simp only [Act.put, List.getElem_toArray, List.getElem_cons_zero, List.getElem_cons_succ, List.setIfInBounds_toArray, List.set_cons_zero, List.set_cons_succ])
  refine tkZ 2 ?_ ?_ ?_
  rotate_left
  · exact rn
  (try simp only [Act.put, List.getElem_toArray, List.getElem_cons_zero, List.getElem_cons_succ, List.setIfInBounds_toArray, List.set_cons_zero, List.set_cons_succ])
  refine tkZ 3 ?_ ?_ ?_
  rotate_left
  · exact rn
  (try simp only [Act.put, List.getElem_toArray, List.getElem_cons_zero, List.getElem_cons_succ, List.setIfInBounds_toArray, List.set_cons_zero, List.set_cons_succ])
  refine tkZ 4 ?_ ?_ ?_
  rotate_left
  · exact rn
  (try simp only [Act.put, List.getElem_toArray, List.getElem_cons_zero, List.getElem_cons_succ, List.setIfInBounds_toArray, List.set_cons_zero, List.set_cons_succ])
  refine tkZ 5 ?_ ?_ ?_
  rotate_left
  · exact rn
  (try simp only [Act.put, List.getElem_toArray, List.getElem_cons_zero, List.getElem_cons_succ, List.setIfInBounds_toArray, List.set_cons_zero, List.set_cons_succ])
  refine tkZ 6 ?_ ?_ ?_
  rotate_left
  · exact rn
  (try simp only [Act.put, List.getElem_toArray, List.getElem_cons_zero, List.getElem_cons_succ, List.setIfInBounds_toArray, List.set_cons_zero, List.set_cons_succ])
  refine tkZ 7 ?_ ?_ ?_
  rotate_left
  · exact rn
  (try simp only [Act.put, List.getElem_toArray, List.getElem_cons_zero, List.getElem_cons_succ, List.setIfInBounds_toArray, List.set_cons_zero, List.set_cons_succ])
  refine tkZ 8 ?_ ?_ ?_
  rotate_left
  · exact rn
  (try simp only [Act.put, List.getElem_toArray, List.getElem_cons_zero, List.getElem_cons_succ, List.setIfInBounds_toArray, List.set_cons_zero, List.set_cons_succ])
  refine tkZ 9 ?_ ?_ ?_
  rotate_left
  · exact rn
  (try simp only [Act.put, List.getElem_toArray, List.getElem_cons_zero, List.getElem_cons_succ, List.setIfInBounds_toArray, List.set_cons_zero, List.set_cons_succ])
  refine tkZ 10 ?_ ?_ ?_
  rotate_left
  · exact rn
  (try simp only [Act.put, List.getElem_toArray, List.getElem_cons_zero, List.getElem_cons_succ, List.setIfInBounds_toArray, List.set_cons_zero, List.set_cons_succ])
  refine tkZ 11 ?_ ?_ ?_
  rotate_left
  · exact rn
  (try simp only [Act.put, List.getElem_toArray, List.getElem_cons_zero, List.getElem_cons_succ, List.setIfInBounds_toArray, List.set_cons_zero, List.set_cons_succ])
  refine tkZ 12 ?_ ?_ ?_
  rotate_left
  · exact rn
  (try simp only [Act.put, List.getElem_toArray, List.getElem_cons_zero, List.getElem_cons_succ, List.setIfInBounds_toArray, List.set_cons_zero, List.set_cons_succ])
  refine tkZ 13 ?_ ?_ ?_
  rotate_left
  · exact rn
  (try simp only [Act.put, List.getElem_toArray, List.getElem_cons_zero, List.getElem_cons_succ, List.setIfInBounds_toArray, List.set_cons_zero, List.set_cons_succ])
  refine tkZ 14 ?_ ?_ ?_
  rotate_left
  · exact rn
  (try simp only [Act.put, List.getElem_toArray, List.getElem_cons_zero, List.getElem_cons_succ, List.setIfInBounds_toArray, List.set_cons_zero, List.set_cons_succ])
  refine tkZ 15 ?_ ?_ ?_
  rotate_left
  · exact rn
  (try simp only [Act.put, List.getElem_toArray, List.getElem_cons_zero, List.getElem_cons_succ, List.setIfInBounds_toArray, List.set_cons_zero, List.set_cons_succ])
  refine wpAnyZ_one (i := 16) rfl (by kernel_rfl) (fun K hK => ?_)
  refine step_make_full rfl _ _ 42 rfl B 94 ti (.agg #[.int .i64 0, .int .i64 0]) 2 Tryd.underlying42 hi hz0 hz1 .i64 .i64 (f : Int) (f : Int) f rfl rfl rfl rfl (by rw [hz2]; omega) (by unfold maxLen; omega) (by simp; omega) ?_
  intro wm hownF hgF
  have HB1 : Below w2.heap.size w2 wm := Below.grown (Below.refl _ _).drew hgF (by simp) (fun k hk => by cases hk)
  rw [made_zero f (by omega)] at hownF
  have zm : w2.heap.size < wm.heap.size := by
    have := ownsRow_block_lt hownF (k := w2.heap.size) rfl
    exact this.1
  refine hK.out _ _ (KZ _ HB1) (fun hHeld => ?_)
  clear hK K
  (try simp only [Act.put, List.getElem_toArray, List.getElem_cons_zero, List.getElem_cons_succ, List.setIfInBounds_toArray, List.set_cons_zero, List.set_cons_succ])
  refine tkZ 17 ?_ ?_ ?_
  rotate_left
  · exact rn
  (try simp only [Act.put, List.getElem_toArray, List.getElem_cons_zero, List.getElem_cons_succ, List.setIfInBounds_toArray, List.set_cons_zero, List.set_cons_succ])
  refine wpAnyZ_one (i := 18) rfl (by kernel_rfl) (fun K hK => ?_)
  go_simp
  have HB2 : Below w2.heap.size w2 (wm.alloc (.cells #[.int .i64 s.at_, .slice (some ⟨w2.heap.size, 0, none⟩) f f] 99)) := HB1.alloc HB1.size _
  refine hK.out _ _ (KZ _ HB2) (fun hHeld => ?_)
  clear hK K
  (try simp only [Act.put, List.getElem_toArray, List.getElem_cons_zero, List.getElem_cons_succ, List.setIfInBounds_toArray, List.set_cons_zero, List.set_cons_succ])
  refine wpAnyZ_one (i := 19) rfl (by kernel_rfl) (fun K hK => ?_)
  have hba : Below wm.heap.size wm (wm.alloc (.cells #[.int .i64 s.at_, .slice (some ⟨w2.heap.size, 0, none⟩) f f] 99)) := by go_grown
  have o2 := oP.below HB2
  have hF2 : ValRow (wm.alloc (.cells #[.int .i64 s.at_, .slice (some ⟨w2.heap.size, 0, none⟩) f f] 99)) B (.slice (some ⟨w2.heap.size, 0, none⟩) f f) (List.replicate f ⟨0, 0⟩) := by
    unfold ValRow
    rw [List.length_replicate]
    exact ownsRow_of_block hownF (fun k hk => hba.block k (ownsRow_block_lt hownF hk).1)
  have hFa : ∀ k, (Value.slice (some ⟨w2.heap.size, 0, none⟩) f f).ownBlock = some k → some k ∉ ownBlocks m (.slice (some ⟨gb, 0, none⟩) s.vars.length cap) (.slice ts s.things.length tc) lv fv := fun k hk hmem => by
    cases hk
    exact Nat.lt_irrefl _ (oP.lt hmem)
  obtain ⟨p1, -, p3, -, -⟩ := o2.parted
  refine step_append_lies _ rfl _ _ 43 rfl B 99 tj (.agg #[.int .i64 0, .slice none 0 0]) 2 32 Tryd.underlying43 hj hy0 hy1 hy2 rfl (by decide) _ _ _ rfl o2.things ⟨wm.heap.size, 0, none⟩ 1 1 [.int .i64 s.at_, .slice (some ⟨w2.heap.size, 0, none⟩) f f] rfl rfl (fun j u hj => World.news_of_block (heap_alloc_new _ _) j u hj) (by simp [Value.oneCell']) (by omega) (by simp only; unfold maxLen; omega) (by simp only; omega) (by have := HP.size; have := HB2.size; omega) _ rfl ?_
  intro gl cl w3 hown hgrow hat hlt
  have nm : some m ≠ (Value.slice ts s.things.length tc).ownBlock := fun e => p1 m (by rw [e]; simp) rfl
  have far : ∀ j, w3.cell? ⟨m, j, none⟩ = w2.cell? ⟨m, j, none⟩ := fun j => by rw [hgrow.cell_far ⟨m, j, none⟩ (by have := HB2.size; simp at this ⊢; omega) nm, HB2.cell (by simpa using hm2)]
  have hS3 : w3.cell? ⟨m, 2, none⟩ = some (.slice ts s.things.length tc) ∧ w3.cell? ⟨m, 0, none⟩ = some (.int .i64 s.at_) ∧ w3.cell? ⟨m, 7, none⟩ = some (.int .i64 f) := ⟨by rw [far]; exact p2, by rw [far]; exact p0, by rw [far]; exact p7⟩
  have hfar := hideK far
  clear far
  refine hK.out _ _ hS3 (fun hHeld => ?_)
  clear hK K
  (try simp only [Act.put, List.getElem_toArray, List.getElem_cons_zero, List.getElem_cons_succ, List.setIfInBounds_toArray, List.set_cons_zero, List.set_cons_succ])
  refine tkZ 20 ?_ ?_ ?_
  rotate_left
  · exact rn
  (try simp only [Act.put, List.getElem_toArray, List.getElem_cons_zero, List.getElem_cons_succ, List.setIfInBounds_toArray, List.set_cons_zero, List.set_cons_succ])
  refine tkZ 21 ?_ ?_ ?_
  rotate_left
  · exact rn
  (try simp only [Act.put, List.getElem_toArray, List.getElem_cons_zero, List.getElem_cons_succ, List.setIfInBounds_toArray, List.set_cons_zero, List.set_cons_succ])
  refine tkZ 22 ?_ ?_ ?_
  rotate_left
  · exact rn
  (try simp only [Act.put, List.getElem_toArray, List.getElem_cons_zero, List.getElem_cons_succ, List.setIfInBounds_toArray, List.set_cons_zero, List.set_cons_succ])
  refine wpAnyZ_last (i := 23) rfl (by kernel_rfl) (by kernel_rfl) (fun K hK => ?_)
  have d4 : w3.frozen? ⟨m, 2, none⟩ = false := by rw [hgrow.frozen_far ⟨m, 2, none⟩ (by have := HB2.size; simp at this ⊢; omega) nm]; exact o2.thaw 2
  have c4 : w3.cell? ⟨m, 2, none⟩ = some (.slice ts s.things.length tc) := hS3.1
  go_simp
  refine hK.out _ _ ?_
  clear hK K
  (try simp only [Act.put, List.getElem_toArray, List.getElem_cons_zero, List.getElem_cons_succ, List.setIfInBounds_toArray, List.set_cons_zero, List.set_cons_succ])
  refine wpAnyZ_done (by kernel_rfl) ?_ _
  go_wp2
  go_ret
  have HW : Below B w w3 := Below.grown (HP.trans (HB2.mono (by have := HP.size; omega))) hgrow (by have := HP.size; have := HB2.size; omega) (fun k hk => (ownsRow_block_lt o2.things hk).2)
  refine ⟨rfl, ⟨_, _, _, _, o2.grow_things hF2 hFa hown hgrow (hat.imp id (fun e => by rw [e]; exact Nat.le_refl _))⟩, HW.setCell hBm _, fun j hj => ?_, frame_trans hfr.out HP.size (frame_trans (frame_same HB2) HB2.size (frame_grow hgrow (fun k hk => by have e : (Value.slice ts s.things.length tc).ownBlock = some k := hk; unfold ownBlocks; rw [e]; simp) (by simp [ownBlocks]) _ _))⟩
  rw [World.cell?_setCell_other _ _ _ _ (by intro e; cases e; omega), hfar.out, hcm.out]
end Go.Proofs.YtmapdpcfanecdaaDoor
