/- Walks over package run: what the machine does, kind by kind. -/
import Derived.Test.YtmapdpcfanecdaaDoorKlawrrp10
import Derived.Test.YtmapdpcfanecdaaDoorKlawrrp23
import Derived.Test.YtmapdpcfanecdaaDoorKlawrrp08
import Derived.Test.YtmapdpcfanecdaaDoorKlawrrp11
import Derived.Test.YtmapdpcfanecdaaDoorKlawrrp13
namespace Go.Proofs.YtmapdpcfanecdaaDoor
set_option linter.unusedVariables false
set_option linter.unusedSimpArgs false
open Go.RowKit
attribute [local go_sem ↓] Go.wp_at_zero Go.wp_at_succ

set_option maxHeartbeats 2000000 in
set_option maxRecDepth 20000 in
theorem doK_17 (m B x : Nat) (s : St) (vv tv lv : Value) (fv : List Value) (t b n g : Int) (w : World) (h : OwnRun w B m s vv tv lv fv) (hB : B ≤ w.heap.size) (hx : x < s.vars.length) (T : Nat) (hv : okVal T s.vars[x]) :
    Calls Tryd.prog 75 #[.pointer (some ⟨m, 0, none⟩), .agg #[.int .i64 17, .int .i64 t, .int .i64 x, .int .i64 b, .int .i64 n, .int .i64 g]] w fun e w' => e = .returned (.int .i64 (if cnt s.vars[x] = true then 0 else 3)) ∧ MStep w w' B m (ownBlocks m vv tv lv fv) s := by
  have hm : m < w.heap.size := h.lt (by simp [ownBlocks])
  have z1 : m < w.heap.size + 1 := by omega
  obtain ⟨gb, cap, rfl, hg1, hg2, hcell, hfz⟩ := h.form (by omega)
  have am : m ≠ gb := h.vars_apart rfl m (by simp)
  have ah : w.heap.size ≠ gb := by omega
  have q1 := h.vars_
  have z2 : gb < w.heap.size + 1 := by omega
  obtain ⟨kx0, kx1⟩ := hcell x hx
  have nx0 : (0 : Int) ≤ (x : Int) := by omega
  have nx1 : (x : Int) < (s.vars.length : Int) := by omega
  have K1 : ∀ wx, Below (w.heap.size + 1) (w.alloc (.cells #[.int .i64 17, .int .i64 t, .int .i64 x, .int .i64 b, .int .i64 n, .int .i64 g] 71)) wx → wx.cell? ⟨m, 1, none⟩ = some (.slice (some ⟨gb, 0, none⟩) s.vars.length cap) ∧ wx.cell? ⟨w.heap.size, 2, none⟩ = some (.int .i64 x) ∧ wx.cell? ⟨gb, x * 2, none⟩ = some (.int .i64 s.vars[x].k) ∧ wx.cell? ⟨gb, x * 2 + 1, none⟩ = some (.int .i64 s.vars[x].n) := by
    intro wx hb
    rw [hb.cell (by simpa using z1), hb.cell (by simp), hb.cell (by simpa using z2), hb.cell (by simpa using z2)]
    simp [go_sem, hm, q1, hg2, kx0, kx1]
  clear hcell hfz
  have HC := hideK (fun wx => counts_any T s.vars[x] wx hv)
  generalize cnt s.vars[x] = cv at *
  go_enter Tryd.func75, Tryd.ntmps75
  go_wp2
  refine wp_region_z (S := (fun wx => wx.cell? ⟨m, 1, none⟩ = some (.slice (some ⟨gb, 0, none⟩) s.vars.length cap) ∧ wx.cell? ⟨w.heap.size, 2, none⟩ = some (.int .i64 x) ∧ wx.cell? ⟨gb, x * 2, none⟩ = some (.int .i64 s.vars[x].k) ∧ wx.cell? ⟨gb, x * 2 + 1, none⟩ = some (.int .i64 s.vars[x].n))) [] (by kernel_rfl) (K1 _ (Below.refl _ _).drew) (fun hHeld => ?_)
  refine wpAnyZ_take (i := 0) (v := ?_) rfl (by kernel_rfl) (by kernel_rfl) (by kernel_rfl) (fun _ _ _ h => h) (Or.inl ⟨?_, ?_⟩) (by assumption) ?_
  rotate_left
  · rfl
  · (intro w hSw; (try dsimp only at hSw); first | (go_simp; done) | (go_simp; with_reducible rfl))
  (try simp only [Act.put, List.getElem_toArray, List.getElem_cons_zero, List.getElem_cons_succ, List.setIfInBounds_toArray, List.set_cons_zero, List.set_cons_succ])
  refine wpAnyZ_take (i := 1) (v := ?_) rfl (by kernel_rfl) (by kernel_rfl) (by kernel_rfl) (fun _ _ _ h => h) (Or.inl ⟨?_, ?_⟩) (by assumption) ?_
  rotate_left
  · rfl
  · (intro w hSw; (try dsimp only at hSw); first | (go_simp; done) | (go_simp; with_reducible rfl))
  (try simp only [Act.put, List.getElem_toArray, List.getElem_cons_zero, List.getElem_cons_succ, List.setIfInBounds_toArray, List.set_cons_zero, List.set_cons_succ])
  refine wpAnyZ_take (i := 2) (v := ?_) rfl (by kernel_rfl) (by kernel_rfl) (by kernel_rfl) (fun _ _ _ h => h) (Or.inl ⟨?_, ?_⟩) (by assumption) ?_
  rotate_left
  · rfl
  · (intro w hSw; (try dsimp only at hSw); first | (go_simp; done) | (go_simp; with_reducible rfl))
  (try simp only [Act.put, List.getElem_toArray, List.getElem_cons_zero, List.getElem_cons_succ, List.setIfInBounds_toArray, List.set_cons_zero, List.set_cons_succ])
  refine wpAnyZ_take (i := 3) (v := ?_) rfl (by kernel_rfl) (by kernel_rfl) (by kernel_rfl) (fun _ _ _ h => h) (Or.inl ⟨?_, ?_⟩) (by assumption) ?_
  rotate_left
  · rfl
  · (intro w hSw; (try dsimp only at hSw); first | (go_simp; done) | (go_simp; with_reducible rfl))
  (try simp only [Act.put, List.getElem_toArray, List.getElem_cons_zero, List.getElem_cons_succ, List.setIfInBounds_toArray, List.set_cons_zero, List.set_cons_succ])
  refine wpAnyZ_take (i := 4) (v := ?_) rfl (by kernel_rfl) (by kernel_rfl) (by kernel_rfl) (fun _ _ _ h => h) (Or.inl ⟨?_, ?_⟩) (by assumption) ?_
  rotate_left
  · rfl
  · (intro w hSw; (try dsimp only at hSw); first | (go_simp; done) | (go_simp; with_reducible rfl))
  (try simp only [Act.put, List.getElem_toArray, List.getElem_cons_zero, List.getElem_cons_succ, List.setIfInBounds_toArray, List.set_cons_zero, List.set_cons_succ])
  refine wpAnyZ_take (i := 5) (v := ?_) rfl (by kernel_rfl) (by kernel_rfl) (by kernel_rfl) (fun _ _ _ h => h) (Or.inl ⟨?_, ?_⟩) (by assumption) ?_
  rotate_left
  · rfl
  · (intro w hSw; (try dsimp only at hSw); first | (go_simp; done) | (go_simp; with_reducible rfl))
  (try simp only [Act.put, List.getElem_toArray, List.getElem_cons_zero, List.getElem_cons_succ, List.setIfInBounds_toArray, List.set_cons_zero, List.set_cons_succ])
  refine wpAnyZ_take (i := 6) (v := ?_) rfl (by kernel_rfl) (by kernel_rfl) (by kernel_rfl) (fun _ _ _ h => h) (Or.inl ⟨?_, ?_⟩) (by assumption) ?_
  rotate_left
  · rfl
  · (intro w hSw; (try dsimp only at hSw); first | (go_simp; done) | (go_simp; with_reducible rfl))
  (try simp only [Act.put, List.getElem_toArray, List.getElem_cons_zero, List.getElem_cons_succ, List.setIfInBounds_toArray, List.set_cons_zero, List.set_cons_succ])
  refine wpAnyZ_take (i := 7) (v := ?_) rfl (by kernel_rfl) (by kernel_rfl) (by kernel_rfl) (fun _ _ _ h => h) (Or.inl ⟨?_, ?_⟩) (by assumption) ?_
  rotate_left
  · rfl
  · (intro w hSw; (try dsimp only at hSw); first | (go_simp; done) | (go_simp; with_reducible rfl))
  (try simp only [Act.put, List.getElem_toArray, List.getElem_cons_zero, List.getElem_cons_succ, List.setIfInBounds_toArray, List.set_cons_zero, List.set_cons_succ])
  refine wpAnyZ_take (i := 8) (v := ?_) rfl (by kernel_rfl) (by kernel_rfl) (by kernel_rfl) (fun _ _ _ h => h) (Or.inl ⟨?_, ?_⟩) (by assumption) ?_
  rotate_left
  · rfl
  · (intro w hSw; (try dsimp only at hSw); first | (go_simp; done) | (go_simp; with_reducible rfl))
  (try simp only [Act.put, List.getElem_toArray, List.getElem_cons_zero, List.getElem_cons_succ, List.setIfInBounds_toArray, List.set_cons_zero, List.set_cons_succ])
  refine wpAnyZ_one (i := 9) rfl (by kernel_rfl) (fun K hK => ?_)
  go_simp
  go_at_call 98
  refine (HC.out _).mono ?_
  rintro e w1 ⟨rfl, hb1⟩
  have HB1 : Below (w.heap.size + 1) (w.alloc (.cells #[.int .i64 17, .int .i64 t, .int .i64 x, .int .i64 b, .int .i64 n, .int .i64 g] 71)) w1 := Below.trans (Below.refl _ _).drew (Below.mono hb1 (by simp))
  go_wp2_with fail
  refine hK.out _ _ (K1 _ HB1) (fun hHeld => ?_)
  clear hK K
  (try simp only [Act.put, List.getElem_toArray, List.getElem_cons_zero, List.getElem_cons_succ, List.setIfInBounds_toArray, List.set_cons_zero, List.set_cons_succ])
  refine wpAnyZ_take (i := 10) (v := ?_) rfl (by kernel_rfl) (by kernel_rfl) (by kernel_rfl) (fun _ _ _ h => h) (Or.inl ⟨?_, ?_⟩) (by assumption) ?_
  rotate_left
  · rfl
  · (intro w hSw; (try dsimp only at hSw); first | (go_simp; done) | (go_simp; with_reducible rfl))
  (try simp only [Act.put, List.getElem_toArray, List.getElem_cons_zero, List.getElem_cons_succ, List.setIfInBounds_toArray, List.set_cons_zero, List.set_cons_succ])
  refine wpAnyZ_done (by kernel_rfl) ?_ _
  have HW : Below w.heap.size w w1 := Below.trans (by go_grown) (HB1.mono (Nat.le_succ _))
  have HO := h.below HW
  have HM := HW.mono hB
  have HE : ∀ j, w1.cell? ⟨m, j, none⟩ = w.cell? ⟨m, j, none⟩ := fun j => HW.cell hm
  have HX := hideK (And.intro HO (And.intro HM (And.intro HE HW)))
  clear HO HM HE h
  cases cv
  all_goals
    go_wp2
    go_ret
    exact ⟨rfl, ⟨_, _, _, _, HX.out.1⟩, HX.out.2.1, fun j _ => HX.out.2.2.1 j, frame_same HX.out.2.2.2⟩

set_option maxHeartbeats 1000000 in
set_option maxRecDepth 20000 in
theorem doK_15 (m B : Nat) (s : St) (vv tv lv : Value) (fv : List Value) (t a b n g : Int) (w : World) (h : OwnRun w B m s vv tv lv fv) (hB : B ≤ w.heap.size) :
    Calls Tryd.prog 75 #[.pointer (some ⟨m, 0, none⟩), .agg #[.int .i64 15, .int .i64 t, .int .i64 a, .int .i64 b, .int .i64 n, .int .i64 g]] w fun e w' => e = .returned (.int .i64 0) ∧ MStep w w' B m (ownBlocks m vv tv lv fv) s := by
  have hm : m < w.heap.size := h.lt (by simp [ownBlocks])
  have HW : Below w.heap.size w (w.alloc (.cells #[.int .i64 15, .int .i64 t, .int .i64 a, .int .i64 b, .int .i64 n, .int .i64 g] 71)) := by go_grown
  have hc : ∀ j, (w.alloc (.cells #[.int .i64 15, .int .i64 t, .int .i64 a, .int .i64 b, .int .i64 n, .int .i64 g] 71)).cell? ⟨m, j, none⟩ = w.cell? ⟨m, j, none⟩ := fun j => HW.cell hm
  have HX := hideK (And.intro (h.below HW) (And.intro (HW.mono hB) (And.intro hc HW)))
  clear h hc HW
  go_enter Tryd.func75, Tryd.ntmps75
  go_wp2
  go_ret
  exact ⟨rfl, ⟨_, _, _, _, HX.out.1⟩, HX.out.2.1, fun j _ => HX.out.2.2.1 j, frame_same HX.out.2.2.2⟩

set_option maxHeartbeats 1000000 in
set_option maxRecDepth 20000 in
theorem doK_16 (m B : Nat) (s : St) (vv tv lv : Value) (fv : List Value) (t a b n g : Int) (w : World) (h : OwnRun w B m s vv tv lv fv) (hB : B ≤ w.heap.size) :
    Calls Tryd.prog 75 #[.pointer (some ⟨m, 0, none⟩), .agg #[.int .i64 16, .int .i64 t, .int .i64 a, .int .i64 b, .int .i64 n, .int .i64 g]] w fun e w' => e = .returned (.int .i64 0) ∧ MStep w w' B m (ownBlocks m vv tv lv fv) s := by
  have hm : m < w.heap.size := h.lt (by simp [ownBlocks])
  have HW : Below w.heap.size w (w.alloc (.cells #[.int .i64 16, .int .i64 t, .int .i64 a, .int .i64 b, .int .i64 n, .int .i64 g] 71)) := by go_grown
  have hc : ∀ j, (w.alloc (.cells #[.int .i64 16, .int .i64 t, .int .i64 a, .int .i64 b, .int .i64 n, .int .i64 g] 71)).cell? ⟨m, j, none⟩ = w.cell? ⟨m, j, none⟩ := fun j => HW.cell hm
  have HX := hideK (And.intro (h.below HW) (And.intro (HW.mono hB) (And.intro hc HW)))
  clear h hc HW
  go_enter Tryd.func75, Tryd.ntmps75
  go_wp2
  go_ret
  exact ⟨rfl, ⟨_, _, _, _, HX.out.1⟩, HX.out.2.1, fun j _ => HX.out.2.2.1 j, frame_same HX.out.2.2.2⟩

set_option maxHeartbeats 1000000 in
set_option maxRecDepth 20000 in
theorem doK_19 (m B : Nat) (s : St) (vv tv lv : Value) (fv : List Value) (t a b n g : Int) (w : World) (h : OwnRun w B m s vv tv lv fv) (hB : B ≤ w.heap.size) :
    Calls Tryd.prog 75 #[.pointer (some ⟨m, 0, none⟩), .agg #[.int .i64 19, .int .i64 t, .int .i64 a, .int .i64 b, .int .i64 n, .int .i64 g]] w fun e w' => e = .returned (.int .i64 1) ∧ MStep w w' B m (ownBlocks m vv tv lv fv) s := by
  have hm : m < w.heap.size := h.lt (by simp [ownBlocks])
  have HW : Below w.heap.size w (w.alloc (.cells #[.int .i64 19, .int .i64 t, .int .i64 a, .int .i64 b, .int .i64 n, .int .i64 g] 71)) := by go_grown
  have hc : ∀ j, (w.alloc (.cells #[.int .i64 19, .int .i64 t, .int .i64 a, .int .i64 b, .int .i64 n, .int .i64 g] 71)).cell? ⟨m, j, none⟩ = w.cell? ⟨m, j, none⟩ := fun j => HW.cell hm
  have HX := hideK (And.intro (h.below HW) (And.intro (HW.mono hB) (And.intro hc HW)))
  clear h hc HW
  go_enter Tryd.func75, Tryd.ntmps75
  go_wp2
  go_ret
  exact ⟨rfl, ⟨_, _, _, _, HX.out.1⟩, HX.out.2.1, fun j _ => HX.out.2.2.1 j, frame_same HX.out.2.2.2⟩
end Go.Proofs.YtmapdpcfanecdaaDoor

namespace Go.Proofs.YtmapdpcfanecdaaDoor
set_option linter.unusedVariables false
set_option linter.unusedSimpArgs false
open Go.RowKit

set_option maxHeartbeats 1000000 in
set_option maxRecDepth 20000 in
theorem text_true (w : World) :
    Calls Tryd.prog 102 #[.agg #[.int .i64 2, .int .i64 1]] w fun e w' => e = .returned (.string ⟨#[116, 114, 117, 101]⟩) ∧ Below w.heap.size w w' := by
  have c0 := cell_regrown (w := (w.alloc (.cells #[.int .i64 2, .int .i64 1] 94))) (a := ⟨w.heap.size, 0, none⟩) (v := .int .i64 2) (by simp [go_sem])
  have c1 := cell_regrown (w := (w.alloc (.cells #[.int .i64 2, .int .i64 1] 94))) (a := ⟨w.heap.size, 1, none⟩) (v := .int .i64 1) (by simp [go_sem])
  have t0 : (truV false).k = 2 := rfl
  have t1 : (truV false).n = 0 := rfl
  have t2 : (truV true).k = 2 := rfl
  have t3 : (truV true).n = 1 := rfl
  have hb0 : Below w.heap.size w (w.alloc (.cells #[.int .i64 2, .int .i64 1] 94)) := by go_grown
  go_enter Tryd.func102, Tryd.ntmps102
  go_wp2
  refine wp_region_quiet_below (by kernel_rfl) (by kernel_rfl) ?_
  repeat (quiet_step (first | exact Calls.regrown_of (truth_any false _) | exact Calls.regrown_of (truth_any true _)))
  refine wpQuiet_nil ?_
  intro _ hw'
  obtain ⟨⟨dq, osq⟩, hw''⟩ := hw'
  subst hw''
  go_wp2
  go_ret
  exact ⟨rfl, Below.trans (by go_grown) ((below_regrown _ dq osq).mono (by go_size))⟩

set_option maxHeartbeats 1000000 in
set_option maxRecDepth 20000 in
theorem text_false (w : World) :
    Calls Tryd.prog 102 #[.agg #[.int .i64 2, .int .i64 0]] w fun e w' => e = .returned (.string ⟨#[102, 97, 108, 115, 101]⟩) ∧ Below w.heap.size w w' := by
  have c0 := cell_regrown (w := (w.alloc (.cells #[.int .i64 2, .int .i64 0] 94))) (a := ⟨w.heap.size, 0, none⟩) (v := .int .i64 2) (by simp [go_sem])
  have c1 := cell_regrown (w := (w.alloc (.cells #[.int .i64 2, .int .i64 0] 94))) (a := ⟨w.heap.size, 1, none⟩) (v := .int .i64 0) (by simp [go_sem])
  have t0 : (truV false).k = 2 := rfl
  have t1 : (truV false).n = 0 := rfl
  have t2 : (truV true).k = 2 := rfl
  have t3 : (truV true).n = 1 := rfl
  have hb0 : Below w.heap.size w (w.alloc (.cells #[.int .i64 2, .int .i64 0] 94)) := by go_grown
  go_enter Tryd.func102, Tryd.ntmps102
  go_wp2
  refine wp_region_quiet_below (by kernel_rfl) (by kernel_rfl) ?_
  repeat (quiet_step (first | exact Calls.regrown_of (truth_any false _) | exact Calls.regrown_of (truth_any true _)))
  refine wpQuiet_nil ?_
  intro _ hw'
  obtain ⟨⟨dq, osq⟩, hw''⟩ := hw'
  subst hw''
  have hb1 := hb0.trans ((below_regrown (w.alloc (.cells #[.int .i64 2, .int .i64 0] 94)) dq osq).mono (by go_size))
  have d0 := c0 dq osq
  have d1 := c1 dq osq
  clear c0 c1
  generalize Go.Sort.grow (redrawn (w.alloc (.cells #[.int .i64 2, .int .i64 0] 94)) dq) osq = w2 at *
  have c0 := cell_regrown d0
  have c1 := cell_regrown d1
  go_wp2
  refine wp_region_quiet_below (by kernel_rfl) (by kernel_rfl) ?_
  repeat (quiet_step (first | exact Calls.regrown_of (truth_any false _) | exact Calls.regrown_of (truth_any true _)))
  refine wpQuiet_nil ?_
  intro _ hw'
  obtain ⟨⟨dq, osq⟩, hw''⟩ := hw'
  subst hw''
  go_wp2
  go_ret
  exact ⟨rfl, hb1.trans ((below_regrown _ dq osq).mono hb1.size)⟩

set_option maxHeartbeats 1000000 in
set_option maxRecDepth 20000 in
theorem text_null (w : World) :
    Calls Tryd.prog 102 #[.agg #[.int .i64 0, .int .i64 0]] w fun e w' => e = .returned (.string ⟨#[110, 117, 108, 108]⟩) ∧ Below w.heap.size w w' := by
  have c0 := cell_regrown (w := (w.alloc (.cells #[.int .i64 0, .int .i64 0] 94))) (a := ⟨w.heap.size, 0, none⟩) (v := .int .i64 0) (by simp [go_sem])
  have c1 := cell_regrown (w := (w.alloc (.cells #[.int .i64 0, .int .i64 0] 94))) (a := ⟨w.heap.size, 1, none⟩) (v := .int .i64 0) (by simp [go_sem])
  have t0 : (truV false).k = 2 := rfl
  have t1 : (truV false).n = 0 := rfl
  have t2 : (truV true).k = 2 := rfl
  have t3 : (truV true).n = 1 := rfl
  have hb0 : Below w.heap.size w (w.alloc (.cells #[.int .i64 0, .int .i64 0] 94)) := by go_grown
  go_enter Tryd.func102, Tryd.ntmps102
  go_wp2
  refine wp_region_quiet_below (by kernel_rfl) (by kernel_rfl) ?_
  repeat (quiet_step (first | exact Calls.regrown_of (truth_any false _) | exact Calls.regrown_of (truth_any true _)))
  refine wpQuiet_nil ?_
  intro _ hw'
  obtain ⟨⟨dq, osq⟩, hw''⟩ := hw'
  subst hw''
  have hb1 := hb0.trans ((below_regrown (w.alloc (.cells #[.int .i64 0, .int .i64 0] 94)) dq osq).mono (by go_size))
  have d0 := c0 dq osq
  have d1 := c1 dq osq
  clear c0 c1
  generalize Go.Sort.grow (redrawn (w.alloc (.cells #[.int .i64 0, .int .i64 0] 94)) dq) osq = w2 at *
  have c0 := cell_regrown d0
  have c1 := cell_regrown d1
  go_wp2
  refine wp_region_quiet_below (by kernel_rfl) (by kernel_rfl) ?_
  repeat (quiet_step (first | exact Calls.regrown_of (truth_any false _) | exact Calls.regrown_of (truth_any true _)))
  refine wpQuiet_nil ?_
  intro _ hw'
  obtain ⟨⟨dq, osq⟩, hw''⟩ := hw'
  subst hw''
  go_wp2
  go_ret
  exact ⟨rfl, hb1.trans ((below_regrown _ dq osq).mono hb1.size)⟩

set_option maxHeartbeats 1000000 in
set_option maxRecDepth 20000 in
theorem text_thing (n : Int) (w : World) :
    Calls Tryd.prog 102 #[.agg #[.int .i64 3, .int .i64 n]] w fun e w' => e = .returned (.string ⟨#[116, 104, 105, 110, 103]⟩) ∧ Below w.heap.size w w' := by
  go_enter Tryd.func102, Tryd.ntmps102
  go_wp2
  go_ret
  exact ⟨rfl, by go_grown⟩
set_option maxHeartbeats 1000000 in
set_option maxRecDepth 20000 in
theorem text_num (n : Int) (w : World) (hf : fits n) (ht : Tab w) :
    Calls Tryd.prog 102 #[.agg #[.int .i64 1, .int .i64 n]] w fun e w' => e = .returned (.string (itoaB n)) ∧ Below w.heap.size w w' := by
  have hb0 : Below w.heap.size w (w.alloc (.cells #[.int .i64 1, .int .i64 n] 94)) := by go_grown
  go_enter Tryd.func102, Tryd.ntmps102
  go_wp2_with (go_at_call 62; fail)
  refine (itoa_any n _ hf (ht.below hb0)).mono ?_
  rintro e w1 ⟨rfl, hb1⟩
  go_wp2
  go_ret
  exact ⟨rfl, hb0.trans (hb1.mono hb0.size)⟩
/-- What a value that is right is shown as. -/
theorem text_any (T : Nat) (k n : Int) (w : World) (h : okValB T ⟨k, n⟩ = true) (ht : Tab w) :
    Calls Tryd.prog 102 #[.agg #[.int .i64 k, .int .i64 n]] w fun e w' => e = .returned (.string (showB ⟨k, n⟩)) ∧ Below w.heap.size w w' := by
  by_cases h1 : k = 1
  · subst h1
    have hb : -2147483648 ≤ n ∧ n ≤ 2147483647 := by simpa [okValB, btw] using h
    have e : showB ⟨1, n⟩ = itoaB n := by simp [showB]
    rw [e]
    exact text_num n w ⟨by omega, by omega⟩ ht
  by_cases h3 : k = 3
  · subst h3
    have e : showB ⟨3, n⟩ = ⟨#[116, 104, 105, 110, 103]⟩ := by simp [showB]
    rw [e]
    exact text_thing n w
  by_cases h2 : k = 2
  · subst h2
    have hb : 0 ≤ n ∧ n ≤ 1 := by simpa [okValB, btw] using h
    by_cases n1 : n = 1
    · subst n1
      exact text_true w
    · obtain rfl : n = 0 := by omega
      exact text_false w
  by_cases h0 : k = 0
  · subst h0
    obtain rfl : n = 0 := by simpa [okValB] using h
    exact text_null w
  · have : okValB T ⟨k, n⟩ = false := by simp [okValB, h0, h1, h2, h3]
    rw [this] at h
    cases h
end Go.Proofs.YtmapdpcfanecdaaDoor

namespace Go.Proofs.YtmapdpcfanecdaaDoor
set_option linter.unusedVariables false
set_option linter.unusedSimpArgs false
open Go.RowKit
attribute [local go_sem ↓] Go.wp_at_zero Go.wp_at_succ

set_option maxHeartbeats 2000000 in
set_option maxRecDepth 20000 in
theorem doK_18 (m B x : Nat) (s : St) (vv tv lv : Value) (fv : List Value) (t b n g : Int) (w : World) (h : OwnRun w B m s vv tv lv fv) (hB : B ≤ w.heap.size) (hx : x < s.vars.length) (T : Nat) (hv : okVal T s.vars[x]) (hT : Tab w) (hln : (s.lines.length + 1) * 16 ≤ 140737488355328) :
    Calls Tryd.prog 75 #[.pointer (some ⟨m, 0, none⟩), .agg #[.int .i64 18, .int .i64 t, .int .i64 x, .int .i64 b, .int .i64 n, .int .i64 g]] w fun e w' => e = .returned (.int .i64 0) ∧ MStep w w' B m (ownBlocks m vv tv lv fv) { s with lines := s.lines ++ [showB s.vars[x]] } := by
  have hm : m < w.heap.size := h.lt (by simp [ownBlocks])
  have z1 : m < w.heap.size + 1 := by omega
  obtain ⟨gb, cap, rfl, hg1, hg2, hcell, hfz⟩ := h.form (by omega)
  have am : m ≠ gb := h.vars_apart rfl m (by simp)
  have ah : w.heap.size ≠ gb := by omega
  have q1 := h.vars_
  have z2 : gb < w.heap.size + 1 := by omega
  obtain ⟨kx0, kx1⟩ := hcell x hx
  have nx0 : (0 : Int) ≤ (x : Int) := by omega
  have nx1 : (x : Int) < (s.vars.length : Int) := by omega
  have q4 := h.lines_
  have K1 : ∀ wx, Below (w.heap.size + 1) (w.alloc (.cells #[.int .i64 18, .int .i64 t, .int .i64 x, .int .i64 b, .int .i64 n, .int .i64 g] 71)) wx → wx.cell? ⟨m, 1, none⟩ = some (.slice (some ⟨gb, 0, none⟩) s.vars.length cap) ∧ wx.cell? ⟨m, 4, none⟩ = some lv ∧ wx.cell? ⟨w.heap.size, 2, none⟩ = some (.int .i64 x) ∧ wx.cell? ⟨gb, x * 2, none⟩ = some (.int .i64 s.vars[x].k) ∧ wx.cell? ⟨gb, x * 2 + 1, none⟩ = some (.int .i64 s.vars[x].n) := by
    intro wx hb
    rw [hb.cell (by simpa using z1), hb.cell (by simpa using z1), hb.cell (by simp), hb.cell (by simpa using z2), hb.cell (by simpa using z2)]
    simp [go_sem, hm, q1, q4, hg2, kx0, kx1]
  obtain ⟨ti, hi, hz0, hz1, hz2⟩ := info_parts info_str
  have hG : Below w.heap.size w (w.alloc (.cells #[.int .i64 18, .int .i64 t, .int .i64 x, .int .i64 b, .int .i64 n, .int .i64 g] 71)).drew := by go_grown
  have HX := hideK (text_any T s.vars[x].k s.vars[x].n (w.alloc (.cells #[.int .i64 18, .int .i64 t, .int .i64 x, .int .i64 b, .int .i64 n, .int .i64 g] 71)).drew (okValB_iff.2 hv) (hT.below hG))
  clear hcell hfz
  generalize showB s.vars[x] = sh at *
  go_enter Tryd.func75, Tryd.ntmps75
  go_wp2
  refine wp_region_z (S := (fun wx => wx.cell? ⟨m, 1, none⟩ = some (.slice (some ⟨gb, 0, none⟩) s.vars.length cap) ∧ wx.cell? ⟨m, 4, none⟩ = some lv ∧ wx.cell? ⟨w.heap.size, 2, none⟩ = some (.int .i64 x) ∧ wx.cell? ⟨gb, x * 2, none⟩ = some (.int .i64 s.vars[x].k) ∧ wx.cell? ⟨gb, x * 2 + 1, none⟩ = some (.int .i64 s.vars[x].n))) [21] (by kernel_rfl) (K1 _ (Below.refl _ _).drew) (fun hHeld => ?_)
  refine wpAnyZ_take (i := 0) (v := ?_) rfl (by kernel_rfl) (by kernel_rfl) (by kernel_rfl) (fun _ _ _ h => h) (Or.inl ⟨?_, ?_⟩) (by assumption) ?_
  rotate_left
  · rfl
  · (intro w hSw; (try dsimp only at hSw); first | (go_simp; done) | (go_simp; with_reducible rfl))
  (try simp only [Act.put, List.getElem_toArray, List.getElem_cons_zero, List.getElem_cons_succ, List.setIfInBounds_toArray, List.set_cons_zero, List.set_cons_succ])
  refine wpAnyZ_take (i := 1) (v := ?_) rfl (by kernel_rfl) (by kernel_rfl) (by kernel_rfl) (fun _ _ _ h => h) (Or.inl ⟨?_, ?_⟩) (by assumption) ?_
  rotate_left
  · rfl
  · (intro w hSw; (try dsimp only at hSw); first | (go_simp; done) | (go_simp; with_reducible rfl))
  (try simp only [Act.put, List.getElem_toArray, List.getElem_cons_zero, List.getElem_cons_succ, List.setIfInBounds_toArray, List.set_cons_zero, List.set_cons_succ])
  refine wpAnyZ_take (i := 2) (v := ?_) rfl (by kernel_rfl) (by kernel_rfl) (by kernel_rfl) (fun _ _ _ h => h) (Or.inl ⟨?_, ?_⟩) (by assumption) ?_
  rotate_left
  · rfl
  · (intro w hSw; (try dsimp only at hSw); first | (go_simp; done) | (go_simp; with_reducible rfl))
  (try simp only [Act.put, List.getElem_toArray, List.getElem_cons_zero, List.getElem_cons_succ, List.setIfInBounds_toArray, List.set_cons_zero, List.set_cons_succ])
  refine wpAnyZ_take (i := 3) (v := ?_) rfl (by kernel_rfl) (by kernel_rfl) (by kernel_rfl) (fun _ _ _ h => h) (Or.inl ⟨?_, ?_⟩) (by assumption) ?_
  rotate_left
  · rfl
  · (intro w hSw; (try dsimp only at hSw); first | (go_simp; done) | (go_simp; with_reducible rfl))
  (try simp only [Act.put, List.getElem_toArray, List.getElem_cons_zero, List.getElem_cons_succ, List.setIfInBounds_toArray, List.set_cons_zero, List.set_cons_succ])
  refine wpAnyZ_take (i := 4) (v := ?_) rfl (by kernel_rfl) (by kernel_rfl) (by kernel_rfl) (fun _ _ _ h => h) (Or.inl ⟨?_, ?_⟩) (by assumption) ?_
  rotate_left
  · rfl
  · (intro w hSw; (try dsimp only at hSw); first | (go_simp; done) | (go_simp; with_reducible rfl))
  (try simp only [Act.put, List.getElem_toArray, List.getElem_cons_zero, List.getElem_cons_succ, List.setIfInBounds_toArray, List.set_cons_zero, List.set_cons_succ])
  refine wpAnyZ_take (i := 5) (v := ?_) rfl (by kernel_rfl) (by kernel_rfl) (by kernel_rfl) (fun _ _ _ h => h) (Or.inl ⟨?_, ?_⟩) (by assumption) ?_
  rotate_left
  · rfl
  · (intro w hSw; (try dsimp only at hSw); first | (go_simp; done) | (go_simp; with_reducible rfl))
  (try simp only [Act.put, List.getElem_toArray, List.getElem_cons_zero, List.getElem_cons_succ, List.setIfInBounds_toArray, List.set_cons_zero, List.set_cons_succ])
  refine wpAnyZ_take (i := 6) (v := ?_) rfl (by kernel_rfl) (by kernel_rfl) (by kernel_rfl) (fun _ _ _ h => h) (Or.inl ⟨?_, ?_⟩) (by assumption) ?_
  rotate_left
  · rfl
  · (intro w hSw; (try dsimp only at hSw); first | (go_simp; done) | (go_simp; with_reducible rfl))
  (try simp only [Act.put, List.getElem_toArray, List.getElem_cons_zero, List.getElem_cons_succ, List.setIfInBounds_toArray, List.set_cons_zero, List.set_cons_succ])
  refine wpAnyZ_take (i := 7) (v := ?_) rfl (by kernel_rfl) (by kernel_rfl) (by kernel_rfl) (fun _ _ _ h => h) (Or.inl ⟨?_, ?_⟩) (by assumption) ?_
  rotate_left
  · rfl
  · (intro w hSw; (try dsimp only at hSw); first | (go_simp; done) | (go_simp; with_reducible rfl))
  (try simp only [Act.put, List.getElem_toArray, List.getElem_cons_zero, List.getElem_cons_succ, List.setIfInBounds_toArray, List.set_cons_zero, List.set_cons_succ])
  refine wpAnyZ_take (i := 8) (v := ?_) rfl (by kernel_rfl) (by kernel_rfl) (by kernel_rfl) (fun _ _ _ h => h) (Or.inl ⟨?_, ?_⟩) (by assumption) ?_
  rotate_left
  · rfl
  · (intro w hSw; (try dsimp only at hSw); first | (go_simp; done) | (go_simp; with_reducible rfl))
  (try simp only [Act.put, List.getElem_toArray, List.getElem_cons_zero, List.getElem_cons_succ, List.setIfInBounds_toArray, List.set_cons_zero, List.set_cons_succ])
  refine wpAnyZ_take (i := 9) (v := ?_) rfl (by kernel_rfl) (by kernel_rfl) (by kernel_rfl) (fun _ _ _ h => h) (Or.inl ⟨?_, ?_⟩) (by assumption) ?_
  rotate_left
  · rfl
  · (intro w hSw; (try dsimp only at hSw); first | (go_simp; done) | (go_simp; with_reducible rfl))
  (try simp only [Act.put, List.getElem_toArray, List.getElem_cons_zero, List.getElem_cons_succ, List.setIfInBounds_toArray, List.set_cons_zero, List.set_cons_succ])
  refine wpAnyZ_take (i := 10) (v := ?_) rfl (by kernel_rfl) (by kernel_rfl) (by kernel_rfl) (fun _ _ _ h => h) (Or.inl ⟨?_, ?_⟩) (by assumption) ?_
  rotate_left
  · rfl
  · (intro w hSw; (try dsimp only at hSw); first | (go_simp; done) | (go_simp; with_reducible rfl))
  (try simp only [Act.put, List.getElem_toArray, List.getElem_cons_zero, List.getElem_cons_succ, List.setIfInBounds_toArray, List.set_cons_zero, List.set_cons_succ])
  refine wpAnyZ_take (i := 11) (v := ?_) rfl (by kernel_rfl) (by kernel_rfl) (by kernel_rfl) (fun _ _ _ h => h) (Or.inl ⟨?_, ?_⟩) (by assumption) ?_
  rotate_left
  · rfl
  · (intro w hSw; (try dsimp only at hSw); first | (go_simp; done) | (go_simp; with_reducible rfl))
  (try simp only [Act.put, List.getElem_toArray, List.getElem_cons_zero, List.getElem_cons_succ, List.setIfInBounds_toArray, List.set_cons_zero, List.set_cons_succ])
  refine wpAnyZ_take (i := 12) (v := ?_) rfl (by kernel_rfl) (by kernel_rfl) (by kernel_rfl) (fun _ _ _ h => h) (Or.inl ⟨?_, ?_⟩) (by assumption) ?_
  rotate_left
  · rfl
  · (intro w hSw; (try dsimp only at hSw); first | (go_simp; done) | (go_simp; with_reducible rfl))
  (try simp only [Act.put, List.getElem_toArray, List.getElem_cons_zero, List.getElem_cons_succ, List.setIfInBounds_toArray, List.set_cons_zero, List.set_cons_succ])
  refine wpAnyZ_take (i := 13) (v := ?_) rfl (by kernel_rfl) (by kernel_rfl) (by kernel_rfl) (fun _ _ _ h => h) (Or.inl ⟨?_, ?_⟩) (by assumption) ?_
  rotate_left
  · rfl
  · (intro w hSw; (try dsimp only at hSw); first | (go_simp; done) | (go_simp; with_reducible rfl))
  (try simp only [Act.put, List.getElem_toArray, List.getElem_cons_zero, List.getElem_cons_succ, List.setIfInBounds_toArray, List.set_cons_zero, List.set_cons_succ])
  refine wpAnyZ_take (i := 14) (v := ?_) rfl (by kernel_rfl) (by kernel_rfl) (by kernel_rfl) (fun _ _ _ h => h) (Or.inl ⟨?_, ?_⟩) (by assumption) ?_
  rotate_left
  · rfl
  · (intro w hSw; (try dsimp only at hSw); first | (go_simp; done) | (go_simp; with_reducible rfl))
  (try simp only [Act.put, List.getElem_toArray, List.getElem_cons_zero, List.getElem_cons_succ, List.setIfInBounds_toArray, List.set_cons_zero, List.set_cons_succ])
  refine wpAnyZ_one (i := 15) rfl (by kernel_rfl) (fun K hK => ?_)
  go_simp
  go_at_call 102
  refine (HX.out).mono ?_
  rintro e w1 ⟨rfl, hb1⟩
  have HB1 : Below (w.heap.size + 1) (w.alloc (.cells #[.int .i64 18, .int .i64 t, .int .i64 x, .int .i64 b, .int .i64 n, .int .i64 g] 71)) w1 := Below.trans (Below.refl _ _).drew (Below.mono hb1 (by simp))
  go_wp2_with fail
  refine hK.out _ _ (K1 _ HB1) (fun hHeld => ?_)
  clear hK K
  (try simp only [Act.put, List.getElem_toArray, List.getElem_cons_zero, List.getElem_cons_succ, List.setIfInBounds_toArray, List.set_cons_zero, List.set_cons_succ])
  refine wpAnyZ_one (i := 16) rfl (by kernel_rfl) (fun K hK => ?_)
  go_simp
  have HB2 : Below (w.heap.size + 1) (w.alloc (.cells #[.int .i64 18, .int .i64 t, .int .i64 x, .int .i64 b, .int .i64 n, .int .i64 g] 71)) (w1.alloc (.cells #[.string sh] 9)) := HB1.alloc (by have := HB1.size; simpa using this) _
  refine hK.out _ _ (K1 _ HB2) (fun hHeld => ?_)
  clear hK K
  (try simp only [Act.put, List.getElem_toArray, List.getElem_cons_zero, List.getElem_cons_succ, List.setIfInBounds_toArray, List.set_cons_zero, List.set_cons_succ])
  refine wpAnyZ_one (i := 17) rfl (by kernel_rfl) (fun K hK => ?_)
  have o1 : OwnRun w1 B m s (.slice (some ⟨gb, 0, none⟩) s.vars.length cap) tv lv fv := h.below (hG.trans (hb1.mono hG.size))
  have hba : Below w1.heap.size w1 (w1.alloc (.cells #[.string sh] 9)) := by go_grown
  have o2 := o1.below hba
  obtain ⟨p1, p2, p3, p4, p5⟩ := o2.parted
  refine step_append_lies _ rfl _ _ 44 rfl B 9 ti (.string ⟨#[]⟩) 1 16 Tryd.underlying44 hi hz0 hz1 hz2 rfl (by decide) _ _ _ rfl o2.lines ⟨w1.heap.size, 0, none⟩ 1 1 [.string sh] rfl rfl (fun j u hj => World.news_of_block (heap_alloc_new _ _) j u hj) (by simp [Value.oneCell']) (by omega) (by unfold maxLen; omega) hln (by have := o2.lt (k := m) (by simp [ownBlocks]); have := h.low; omega) _ rfl ?_
  intro gl cl w3 hown hgrow hat hlt
  have hwz : w.heap.size + 1 ≤ w1.heap.size := by have := HB1.size; simpa using this
  have far : ∀ b j, b < w.heap.size + 1 → some b ≠ lv.ownBlock → w3.cell? ⟨b, j, none⟩ = (w1.alloc (.cells #[.string sh] 9)).cell? ⟨b, j, none⟩ := fun b j h1 h2 => hgrow.cell_far ⟨b, j, none⟩ (by simp; omega) h2
  have nm : some m ≠ lv.ownBlock := fun e => p1 m (by rw [e]; simp) rfl
  have ng : some gb ≠ lv.ownBlock := fun e => p2 gb rfl (by rw [e]; simp)
  have nb : some w.heap.size ≠ lv.ownBlock := fun e => by have := h.lt (k := w.heap.size) (by rw [e]; simp [ownBlocks]); omega
  have hS3 : w3.cell? ⟨m, 1, none⟩ = some (.slice (some ⟨gb, 0, none⟩) s.vars.length cap) ∧ w3.cell? ⟨m, 4, none⟩ = some lv ∧ w3.cell? ⟨w.heap.size, 2, none⟩ = some (.int .i64 x) ∧ w3.cell? ⟨gb, x * 2, none⟩ = some (.int .i64 s.vars[x].k) ∧ w3.cell? ⟨gb, x * 2 + 1, none⟩ = some (.int .i64 s.vars[x].n) := by
    obtain ⟨s1, s2, s3, s4, s5⟩ := K1 _ HB2
    refine ⟨?_, ?_, ?_, ?_, ?_⟩
    · rw [far m _ z1 nm]; exact s1
    · rw [far m _ z1 nm]; exact s2
    · rw [far _ _ (by omega) nb]; exact s3
    · rw [far gb _ z2 ng]; exact s4
    · rw [far gb _ z2 ng]; exact s5
  refine hK.out _ _ hS3 (fun hHeld => ?_)
  clear hK K
  (try simp only [Act.put, List.getElem_toArray, List.getElem_cons_zero, List.getElem_cons_succ, List.setIfInBounds_toArray, List.set_cons_zero, List.set_cons_succ])
  refine wpAnyZ_take (i := 18) (v := ?_) rfl (by kernel_rfl) (by kernel_rfl) (by kernel_rfl) (fun _ _ _ h => h) (Or.inl ⟨?_, ?_⟩) (by assumption) ?_
  rotate_left
  · rfl
  · (intro w hSw; (try dsimp only at hSw); first | (go_simp; done) | (go_simp; with_reducible rfl))
  (try simp only [Act.put, List.getElem_toArray, List.getElem_cons_zero, List.getElem_cons_succ, List.setIfInBounds_toArray, List.set_cons_zero, List.set_cons_succ])
  refine wpAnyZ_take (i := 19) (v := ?_) rfl (by kernel_rfl) (by kernel_rfl) (by kernel_rfl) (fun _ _ _ h => h) (Or.inl ⟨?_, ?_⟩) (by assumption) ?_
  rotate_left
  · rfl
  · (intro w hSw; (try dsimp only at hSw); first | (go_simp; done) | (go_simp; with_reducible rfl))
  (try simp only [Act.put, List.getElem_toArray, List.getElem_cons_zero, List.getElem_cons_succ, List.setIfInBounds_toArray, List.set_cons_zero, List.set_cons_succ])
  refine wpAnyZ_take (i := 20) (v := ?_) rfl (by kernel_rfl) (by kernel_rfl) (by kernel_rfl) (fun _ _ _ h => h) (Or.inl ⟨?_, ?_⟩) (by assumption) ?_
  rotate_left
  · rfl
  · (intro w hSw; (try dsimp only at hSw); first | (go_simp; done) | (go_simp; with_reducible rfl))
  (try simp only [Act.put, List.getElem_toArray, List.getElem_cons_zero, List.getElem_cons_succ, List.setIfInBounds_toArray, List.set_cons_zero, List.set_cons_succ])
  refine wpAnyZ_last (i := 21) rfl (by kernel_rfl) (by kernel_rfl) (fun K hK => ?_)
  have c4 : w3.cell? ⟨m, 4, none⟩ = some lv := hS3.2.1
  have d4 : w3.frozen? ⟨m, 4, none⟩ = false := by rw [hgrow.frozen_far ⟨m, 4, none⟩ (by simp; omega) nm]; exact o2.thaw 4
  go_simp
  refine hK.out _ _ ?_
  clear hK K
  (try simp only [Act.put, List.getElem_toArray, List.getElem_cons_zero, List.getElem_cons_succ, List.setIfInBounds_toArray, List.set_cons_zero, List.set_cons_succ])
  refine wpAnyZ_done (by kernel_rfl) ?_ _
  go_wp2
  go_ret
  have hBm : B ≤ m := h.low
  have HW : Below B w w3 := Below.grown (((hG.mono hB).trans (hb1.mono (by have := hG.size; omega))).trans (hba.mono (by omega))) hgrow (by simp; omega) (fun k hk => (ownsRow_block_lt o2.lines hk).2)
  refine ⟨rfl, ⟨_, _, _, _, o2.grow_lines (by simp; omega) hown hgrow (hat.imp id (fun e => by rw [e]; exact Nat.le_refl _))⟩, HW.setCell hBm _, fun j hj => ?_, frame_trans (frame_same ((hG.trans (hb1.mono hG.size)).trans (hba.mono (by omega)))) (by simp; omega) (frame_grow hgrow (fun k hk => by have e : lv.ownBlock = some k := hk; unfold ownBlocks; rw [e]; simp) (by simp [ownBlocks]) _ _)⟩
  rw [World.cell?_setCell_other _ _ _ _ (by intro e; cases e; omega), far m _ z1 nm, hba.cell (by simp; omega), hb1.cell (by simp; omega), hG.cell (by simpa using hm)]
end Go.Proofs.YtmapdpcfanecdaaDoor
