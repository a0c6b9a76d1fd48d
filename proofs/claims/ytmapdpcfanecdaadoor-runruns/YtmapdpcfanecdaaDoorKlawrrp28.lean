/- Walks over package run: what the machine does, kind by kind. -/
import Derived.Test.YtmapdpcfanecdaaDoorKlawrrp26
import Derived.Test.YtmapdpcfanecdaaDoorKlawrrp21
import Derived.Test.YtmapdpcfanecdaaDoorKlawrrp27
import Derived.Test.YtmapdpcfanecdaaDoorKlawrrp10
namespace Go.Proofs.YtmapdpcfanecdaaDoor
set_option linter.unusedVariables false
set_option linter.unusedSimpArgs false
open Go.RowKit
attribute [local go_sem ↓] Go.wp_at_zero Go.wp_at_succ

set_option maxHeartbeats 1000000 in
set_option maxRecDepth 20000 in
theorem doC_5 (m B t x y : Nat) (s : St) (vv tv lv : Value) (fv : List Value) (n g : Int) (w : World) (h : OwnRun w B m s vv tv lv fv) (hB : B ≤ w.heap.size) (ht : t < s.vars.length) (hx : x < s.vars.length) (hy : y < s.vars.length) :
    Calls Tryd.prog 75 #[.pointer (some ⟨m, 0, none⟩), .agg #[.int .i64 5, .int .i64 t, .int .i64 x, .int .i64 y, .int .i64 n, .int .i64 g]] w fun e w' => e = .returned (.int .i64 (reckEnd s.vars[x] s.vars[y])) ∧ MStep w w' B m (ownBlocks m vv tv lv fv) (reckSt s t 5 s.vars[x] s.vars[y]) := by
  have hm : m < w.heap.size := h.lt (by simp [ownBlocks])
  have HW : Below w.heap.size w (w.alloc (.cells #[.int .i64 5, .int .i64 t, .int .i64 x, .int .i64 y, .int .i64 n, .int .i64 g] 71)) := by go_grown
  have HC := hideK (reckon_any m B t x y s vv tv lv fv 5 n g (w.alloc (.cells #[.int .i64 5, .int .i64 t, .int .i64 x, .int .i64 y, .int .i64 n, .int .i64 g] 71)) (h.below HW) (Nat.le_trans hB HW.size) ht hx hy (by omega))
  clear h
  go_enter Tryd.func75, Tryd.ntmps75
  go_wp2_with (go_at_call 97; fail)
  refine HC.out.mono ?_
  rintro e w1 ⟨rfl, h1, h2, h3, h4⟩
  clear HC
  go_wp2
  go_ret
  exact ⟨rfl, h1, (HW.mono hB).trans h2, fun j hj => by rw [h3 j hj]; exact HW.cell hm, frame_trans (frame_same HW) HW.size h4⟩

set_option maxHeartbeats 1000000 in
set_option maxRecDepth 20000 in
theorem doC_6 (m B t x y : Nat) (s : St) (vv tv lv : Value) (fv : List Value) (n g : Int) (w : World) (h : OwnRun w B m s vv tv lv fv) (hB : B ≤ w.heap.size) (ht : t < s.vars.length) (hx : x < s.vars.length) (hy : y < s.vars.length) :
    Calls Tryd.prog 75 #[.pointer (some ⟨m, 0, none⟩), .agg #[.int .i64 6, .int .i64 t, .int .i64 x, .int .i64 y, .int .i64 n, .int .i64 g]] w fun e w' => e = .returned (.int .i64 (reckEnd s.vars[x] s.vars[y])) ∧ MStep w w' B m (ownBlocks m vv tv lv fv) (reckSt s t 6 s.vars[x] s.vars[y]) := by
  have hm : m < w.heap.size := h.lt (by simp [ownBlocks])
  have HW : Below w.heap.size w (w.alloc (.cells #[.int .i64 6, .int .i64 t, .int .i64 x, .int .i64 y, .int .i64 n, .int .i64 g] 71)) := by go_grown
  have HC := hideK (reckon_any m B t x y s vv tv lv fv 6 n g (w.alloc (.cells #[.int .i64 6, .int .i64 t, .int .i64 x, .int .i64 y, .int .i64 n, .int .i64 g] 71)) (h.below HW) (Nat.le_trans hB HW.size) ht hx hy (by omega))
  clear h
  go_enter Tryd.func75, Tryd.ntmps75
  go_wp2_with (go_at_call 97; fail)
  refine HC.out.mono ?_
  rintro e w1 ⟨rfl, h1, h2, h3, h4⟩
  clear HC
  go_wp2
  go_ret
  exact ⟨rfl, h1, (HW.mono hB).trans h2, fun j hj => by rw [h3 j hj]; exact HW.cell hm, frame_trans (frame_same HW) HW.size h4⟩

set_option maxHeartbeats 1000000 in
set_option maxRecDepth 20000 in
theorem doC_7 (m B t x y : Nat) (s : St) (vv tv lv : Value) (fv : List Value) (n g : Int) (w : World) (h : OwnRun w B m s vv tv lv fv) (hB : B ≤ w.heap.size) (ht : t < s.vars.length) (hx : x < s.vars.length) (hy : y < s.vars.length) :
    Calls Tryd.prog 75 #[.pointer (some ⟨m, 0, none⟩), .agg #[.int .i64 7, .int .i64 t, .int .i64 x, .int .i64 y, .int .i64 n, .int .i64 g]] w fun e w' => e = .returned (.int .i64 (reckEnd s.vars[x] s.vars[y])) ∧ MStep w w' B m (ownBlocks m vv tv lv fv) (reckSt s t 7 s.vars[x] s.vars[y]) := by
  have hm : m < w.heap.size := h.lt (by simp [ownBlocks])
  have HW : Below w.heap.size w (w.alloc (.cells #[.int .i64 7, .int .i64 t, .int .i64 x, .int .i64 y, .int .i64 n, .int .i64 g] 71)) := by go_grown
  have HC := hideK (reckon_any m B t x y s vv tv lv fv 7 n g (w.alloc (.cells #[.int .i64 7, .int .i64 t, .int .i64 x, .int .i64 y, .int .i64 n, .int .i64 g] 71)) (h.below HW) (Nat.le_trans hB HW.size) ht hx hy (by omega))
  clear h
  go_enter Tryd.func75, Tryd.ntmps75
  go_wp2_with (go_at_call 97; fail)
  refine HC.out.mono ?_
  rintro e w1 ⟨rfl, h1, h2, h3, h4⟩
  clear HC
  go_wp2
  go_ret
  exact ⟨rfl, h1, (HW.mono hB).trans h2, fun j hj => by rw [h3 j hj]; exact HW.cell hm, frame_trans (frame_same HW) HW.size h4⟩

set_option maxHeartbeats 1000000 in
set_option maxRecDepth 20000 in
theorem doC_8 (m B t x y : Nat) (s : St) (vv tv lv : Value) (fv : List Value) (n g : Int) (w : World) (h : OwnRun w B m s vv tv lv fv) (hB : B ≤ w.heap.size) (ht : t < s.vars.length) (hx : x < s.vars.length) (hy : y < s.vars.length) :
    Calls Tryd.prog 75 #[.pointer (some ⟨m, 0, none⟩), .agg #[.int .i64 8, .int .i64 t, .int .i64 x, .int .i64 y, .int .i64 n, .int .i64 g]] w fun e w' => e = .returned (.int .i64 (reckEnd s.vars[x] s.vars[y])) ∧ MStep w w' B m (ownBlocks m vv tv lv fv) (reckSt s t 8 s.vars[x] s.vars[y]) := by
  have hm : m < w.heap.size := h.lt (by simp [ownBlocks])
  have HW : Below w.heap.size w (w.alloc (.cells #[.int .i64 8, .int .i64 t, .int .i64 x, .int .i64 y, .int .i64 n, .int .i64 g] 71)) := by go_grown
  have HC := hideK (reckon_any m B t x y s vv tv lv fv 8 n g (w.alloc (.cells #[.int .i64 8, .int .i64 t, .int .i64 x, .int .i64 y, .int .i64 n, .int .i64 g] 71)) (h.below HW) (Nat.le_trans hB HW.size) ht hx hy (by omega))
  clear h
  go_enter Tryd.func75, Tryd.ntmps75
  go_wp2_with (go_at_call 97; fail)
  refine HC.out.mono ?_
  rintro e w1 ⟨rfl, h1, h2, h3, h4⟩
  clear HC
  go_wp2
  go_ret
  exact ⟨rfl, h1, (HW.mono hB).trans h2, fun j hj => by rw [h3 j hj]; exact HW.cell hm, frame_trans (frame_same HW) HW.size h4⟩

set_option maxHeartbeats 1000000 in
set_option maxRecDepth 20000 in
theorem doC_11f (m B : Nat) (s : St) (vv tv lv : Value) (fv : List Value) (t a b n g : Int) (w : World) (h : OwnRun w B m s vv tv lv fv) (hB : B ≤ w.heap.size) (hT : s.things.length = 100) :
    Calls Tryd.prog 75 #[.pointer (some ⟨m, 0, none⟩), .agg #[.int .i64 11, .int .i64 t, .int .i64 a, .int .i64 b, .int .i64 n, .int .i64 g]] w fun e w' => e = .returned (.int .i64 5) ∧ MStep w w' B m (ownBlocks m vv tv lv fv) s := by
  have hm : m < w.heap.size := h.lt (by simp [ownBlocks])
  have HW : Below w.heap.size w (w.alloc (.cells #[.int .i64 11, .int .i64 t, .int .i64 a, .int .i64 b, .int .i64 n, .int .i64 g] 71)) := by go_grown
  have HC := hideK (make_full m B s vv tv lv fv t a b n g (w.alloc (.cells #[.int .i64 11, .int .i64 t, .int .i64 a, .int .i64 b, .int .i64 n, .int .i64 g] 71)) (h.below HW) (Nat.le_trans hB HW.size) hT)
  clear h
  go_enter Tryd.func75, Tryd.ntmps75
  go_wp2_with (go_at_call 99; fail)
  refine HC.out.mono ?_
  rintro e w1 ⟨rfl, h1, h2, h3, h4⟩
  clear HC
  go_wp2
  go_ret
  exact ⟨rfl, h1, (HW.mono hB).trans h2, fun j hj => by rw [h3 j hj]; exact HW.cell hm, frame_trans (frame_same HW) HW.size h4⟩

set_option maxHeartbeats 1000000 in
set_option maxRecDepth 20000 in
theorem doC_11n (m B t f : Nat) (s : St) (vv tv lv : Value) (fv : List Value) (a b n g : Int) (w : World) (h : OwnRun w B m s vv tv lv fv) (hB : B ≤ w.heap.size) (ht : t < s.vars.length) (hT : s.things.length < 100) (hf : f ≤ 3) (h7 : w.cell? ⟨m, 7, none⟩ = some (.int .i64 f)) :
    Calls Tryd.prog 75 #[.pointer (some ⟨m, 0, none⟩), .agg #[.int .i64 11, .int .i64 t, .int .i64 a, .int .i64 b, .int .i64 n, .int .i64 g]] w fun e w' => e = .returned (.int .i64 0) ∧ MStep w w' B m (ownBlocks m vv tv lv fv) { s with vars := s.vars.set t ⟨3, s.things.length⟩, things := s.things ++ [⟨s.at_, List.replicate f ⟨0, 0⟩⟩] } := by
  have hm : m < w.heap.size := h.lt (by simp [ownBlocks])
  have HW : Below w.heap.size w (w.alloc (.cells #[.int .i64 11, .int .i64 t, .int .i64 a, .int .i64 b, .int .i64 n, .int .i64 g] 71)) := by go_grown
  have HC := hideK (make_new m B t f s vv tv lv fv a b n g (w.alloc (.cells #[.int .i64 11, .int .i64 t, .int .i64 a, .int .i64 b, .int .i64 n, .int .i64 g] 71)) (h.below HW) (Nat.le_trans hB HW.size) ht hT hf (by rw [HW.cell (by simpa using hm)]; exact h7))
  clear h
  go_enter Tryd.func75, Tryd.ntmps75
  go_wp2_with (go_at_call 99; fail)
  refine HC.out.mono ?_
  rintro e w1 ⟨rfl, h1, h2, h3, h4⟩
  clear HC
  go_wp2
  go_ret
  exact ⟨rfl, h1, (HW.mono hB).trans h2, fun j hj => by rw [h3 j hj]; exact HW.cell hm, frame_trans (frame_same HW) HW.size h4⟩

set_option maxHeartbeats 1000000 in
set_option maxRecDepth 20000 in
theorem doC_12w (m B x : Nat) (s : St) (vv tv lv : Value) (fv : List Value) (t b n g : Int) (w : World) (h : OwnRun w B m s vv tv lv fv) (hB : B ≤ w.heap.size) (hx : x < s.vars.length) (hv : s.vars[x].k ≠ 3) :
    Calls Tryd.prog 75 #[.pointer (some ⟨m, 0, none⟩), .agg #[.int .i64 12, .int .i64 t, .int .i64 x, .int .i64 b, .int .i64 n, .int .i64 g]] w fun e w' => e = .returned (.int .i64 2) ∧ MStep w w' B m (ownBlocks m vv tv lv fv) s := by
  have hm : m < w.heap.size := h.lt (by simp [ownBlocks])
  have HW : Below w.heap.size w (w.alloc (.cells #[.int .i64 12, .int .i64 t, .int .i64 x, .int .i64 b, .int .i64 n, .int .i64 g] 71)) := by go_grown
  have HC := hideK (field_wrong m B x s vv tv lv fv 12 t b n g (w.alloc (.cells #[.int .i64 12, .int .i64 t, .int .i64 x, .int .i64 b, .int .i64 n, .int .i64 g] 71)) (h.below HW) (Nat.le_trans hB HW.size) hx hv)
  clear h
  go_enter Tryd.func75, Tryd.ntmps75
  go_wp2_with (go_at_call 100; fail)
  refine HC.out.mono ?_
  rintro e w1 ⟨rfl, h1, h2, h3, h4⟩
  clear HC
  go_wp2
  go_ret
  exact ⟨rfl, h1, (HW.mono hB).trans h2, fun j hj => by rw [h3 j hj]; exact HW.cell hm, frame_trans (frame_same HW) HW.size h4⟩

set_option maxHeartbeats 1000000 in
set_option maxRecDepth 20000 in
theorem doC_13w (m B x : Nat) (s : St) (vv tv lv : Value) (fv : List Value) (t b n g : Int) (w : World) (h : OwnRun w B m s vv tv lv fv) (hB : B ≤ w.heap.size) (hx : x < s.vars.length) (hv : s.vars[x].k ≠ 3) :
    Calls Tryd.prog 75 #[.pointer (some ⟨m, 0, none⟩), .agg #[.int .i64 13, .int .i64 t, .int .i64 x, .int .i64 b, .int .i64 n, .int .i64 g]] w fun e w' => e = .returned (.int .i64 2) ∧ MStep w w' B m (ownBlocks m vv tv lv fv) s := by
  have hm : m < w.heap.size := h.lt (by simp [ownBlocks])
  have HW : Below w.heap.size w (w.alloc (.cells #[.int .i64 13, .int .i64 t, .int .i64 x, .int .i64 b, .int .i64 n, .int .i64 g] 71)) := by go_grown
  have HC := hideK (field_wrong m B x s vv tv lv fv 13 t b n g (w.alloc (.cells #[.int .i64 13, .int .i64 t, .int .i64 x, .int .i64 b, .int .i64 n, .int .i64 g] 71)) (h.below HW) (Nat.le_trans hB HW.size) hx hv)
  clear h
  go_enter Tryd.func75, Tryd.ntmps75
  go_wp2_with (go_at_call 100; fail)
  refine HC.out.mono ?_
  rintro e w1 ⟨rfl, h1, h2, h3, h4⟩
  clear HC
  go_wp2
  go_ret
  exact ⟨rfl, h1, (HW.mono hB).trans h2, fun j hj => by rw [h3 j hj]; exact HW.cell hm, frame_trans (frame_same HW) HW.size h4⟩

set_option maxHeartbeats 1000000 in
set_option maxRecDepth 20000 in
theorem doC_12 (m B x q f t : Nat) (s : St) (vv tv lv : Value) (fv : List Value) (b g : Int) (w : World) (h : OwnRun w B m s vv tv lv fv) (hB : B ≤ w.heap.size) (hx : x < s.vars.length) (hv : s.vars[x] = ⟨3, (q : Int)⟩) (hq : q < s.things.length) (hf : f < s.things[q].fs.length) (ht : t < s.vars.length) :
    Calls Tryd.prog 75 #[.pointer (some ⟨m, 0, none⟩), .agg #[.int .i64 12, .int .i64 t, .int .i64 x, .int .i64 b, .int .i64 f, .int .i64 g]] w fun e w' => e = .returned (.int .i64 0) ∧ MStep w w' B m (ownBlocks m vv tv lv fv) { s with vars := s.vars.set t s.things[q].fs[f] } := by
  have hm : m < w.heap.size := h.lt (by simp [ownBlocks])
  have HW : Below w.heap.size w (w.alloc (.cells #[.int .i64 12, .int .i64 t, .int .i64 x, .int .i64 b, .int .i64 f, .int .i64 g] 71)) := by go_grown
  have HC := hideK (field_get m B x q f t s vv tv lv fv b g (w.alloc (.cells #[.int .i64 12, .int .i64 t, .int .i64 x, .int .i64 b, .int .i64 f, .int .i64 g] 71)) (h.below HW) (Nat.le_trans hB HW.size) hx hv hq hf ht)
  clear h hv
  go_enter Tryd.func75, Tryd.ntmps75
  go_wp2_with (go_at_call 100; fail)
  refine HC.out.mono ?_
  rintro e w1 ⟨rfl, h1, h2, h3, h4⟩
  clear HC
  go_wp2
  go_ret
  exact ⟨rfl, h1, (HW.mono hB).trans h2, fun j hj => by rw [h3 j hj]; exact HW.cell hm, frame_trans (frame_same HW) HW.size h4⟩

set_option maxHeartbeats 1000000 in
set_option maxRecDepth 20000 in
theorem doC_13 (m B x q f y : Nat) (s : St) (vv tv lv : Value) (fv : List Value) (t g : Int) (w : World) (h : OwnRun w B m s vv tv lv fv) (hB : B ≤ w.heap.size) (hx : x < s.vars.length) (hv : s.vars[x] = ⟨3, (q : Int)⟩) (hq : q < s.things.length) (hf : f < s.things[q].fs.length) (hy : y < s.vars.length) :
    Calls Tryd.prog 75 #[.pointer (some ⟨m, 0, none⟩), .agg #[.int .i64 13, .int .i64 t, .int .i64 x, .int .i64 y, .int .i64 f, .int .i64 g]] w fun e w' => e = .returned (.int .i64 0) ∧ MStep w w' B m (ownBlocks m vv tv lv fv) (putField s q f s.vars[y]) := by
  have hm : m < w.heap.size := h.lt (by simp [ownBlocks])
  have HW : Below w.heap.size w (w.alloc (.cells #[.int .i64 13, .int .i64 t, .int .i64 x, .int .i64 y, .int .i64 f, .int .i64 g] 71)) := by go_grown
  have HC := hideK (field_put m B x q f y s vv tv lv fv t g (w.alloc (.cells #[.int .i64 13, .int .i64 t, .int .i64 x, .int .i64 y, .int .i64 f, .int .i64 g] 71)) (h.below HW) (Nat.le_trans hB HW.size) hx hv hq hf hy)
  clear h hv
  go_enter Tryd.func75, Tryd.ntmps75
  go_wp2_with (go_at_call 100; fail)
  refine HC.out.mono ?_
  rintro e w1 ⟨rfl, h1, h2, h3, h4⟩
  clear HC
  go_wp2
  go_ret
  exact ⟨rfl, h1, (HW.mono hB).trans h2, fun j hj => by rw [h3 j hj]; exact HW.cell hm, frame_trans (frame_same HW) HW.size h4⟩
end Go.Proofs.YtmapdpcfanecdaaDoor

namespace Go.Proofs.YtmapdpcfanecdaaDoor
set_option linter.unusedVariables false
set_option linter.unusedSimpArgs false
open Go.RowKit
attribute [local go_sem ↓] Go.wp_at_zero Go.wp_at_succ

set_option maxHeartbeats 2000000 in
set_option maxRecDepth 20000 in
theorem doK_1 (m B t : Nat) (s : St) (vv tv lv : Value) (fv : List Value) (a b n g : Int) (w : World) (h : OwnRun w B m s vv tv lv fv) (hB : B ≤ w.heap.size) (ht : t < s.vars.length) (hn : wr n = n) :
    Calls Tryd.prog 75 #[.pointer (some ⟨m, 0, none⟩), .agg #[.int .i64 1, .int .i64 t, .int .i64 a, .int .i64 b, .int .i64 n, .int .i64 g]] w fun e w' => e = .returned (.int .i64 0) ∧ MStep w w' B m (ownBlocks m vv tv lv fv) { s with vars := s.vars.set t ⟨1, n⟩ } := by
  have hm : m < w.heap.size := h.lt (by simp [ownBlocks])
  have z1 : m < w.heap.size + 1 := by omega
  obtain ⟨gb, cap, rfl, hg1, hg2, hcell, hfz⟩ := h.form (by omega)
  have am : m ≠ gb := h.vars_apart rfl m (by simp)
  have ah : w.heap.size ≠ gb := by omega
  have q1 := h.vars_
  have z2 : gb < w.heap.size + 1 := by omega
  obtain ⟨kt0, kt1⟩ := hcell t ht
  have nt0 : (0 : Int) ≤ (t : Int) := by omega
  have nt1 : (t : Int) < (s.vars.length : Int) := by omega
  have f0 := hfz (t * 2)
  have f1 := hfz (t * 2 + 1)
  have K1 : ∀ wx, Below (w.heap.size + 1) (w.alloc (.cells #[.int .i64 1, .int .i64 t, .int .i64 a, .int .i64 b, .int .i64 n, .int .i64 g] 71)) wx → wx.cell? ⟨m, 1, none⟩ = some (.slice (some ⟨gb, 0, none⟩) s.vars.length cap) ∧ wx.cell? ⟨w.heap.size, 1, none⟩ = some (.int .i64 t) ∧ wx.cell? ⟨w.heap.size, 4, none⟩ = some (.int .i64 n) := by
    intro wx hb
    rw [hb.cell (by simpa using z1), hb.cell (by simp), hb.cell (by simp)]
    simp [go_sem, hm, q1]
  clear hcell hfz
  go_enter Tryd.func75, Tryd.ntmps75
  go_wp2
  refine wp_region_z (S := (fun wx => wx.cell? ⟨m, 1, none⟩ = some (.slice (some ⟨gb, 0, none⟩) s.vars.length cap) ∧ wx.cell? ⟨w.heap.size, 1, none⟩ = some (.int .i64 t) ∧ wx.cell? ⟨w.heap.size, 4, none⟩ = some (.int .i64 n))) [11] (by kernel_rfl) (K1 _ (Below.refl _ _).drew) (fun hHeld => ?_)
  refine wpAnyZ_take (i := 0) (v := ?_) rfl (by kernel_rfl) (by kernel_rfl) (by kernel_rfl) (fun _ _ _ h => h) (Or.inl ⟨?_, ?_⟩) (by assumption) ?_
  rotate_left
  · rfl
  · (intro w hSw; (try dsimp only at hSw); first | (go_simp; done) | (go_simp; with_reducible rfl))
  (try simp only [Act.put, List.getElem_toArray, List.getElem_cons_zero, List.getElem_cons_succ, List.setIfInBounds_toArray, List.set_cons_zero, List.set_cons_succ])
  refine wpAnyZ_take (i := 1) (v := ?_) rfl (by kernel_rfl) (by kernel_rfl) (by kernel_rfl) (fun _ _ _ h => h) (Or.inl ⟨?_, ?_⟩) (by assumption) ?_
  rotate_left
  · rfl
  · (intro w hSw; (try dsimp only at hSw); first | (go_simp; done) | (go_simp; with_reducible rfl))
  (try simp only [Act.put, List.getElem_toArray, List.getElem_cons_zero, List.getElem_cons_succ, List.setIfInBounds_toArray, List.set_cons_zero, List.set_cons_succ])
  refine wpAnyZ_take (i := 2) (v := ?_) rfl (by kernel_rfl) (by kernel_rfl) (by kernel_rfl) (fun _ _ _ h => h) (Or.inl ⟨?_, ?_⟩) (by assumption) ?_
  rotate_left
  · rfl
  · (intro w hSw; (try dsimp only at hSw); first | (go_simp; done) | (go_simp; with_reducible rfl))
  (try simp only [Act.put, List.getElem_toArray, List.getElem_cons_zero, List.getElem_cons_succ, List.setIfInBounds_toArray, List.set_cons_zero, List.set_cons_succ])
  refine wpAnyZ_take (i := 3) (v := ?_) rfl (by kernel_rfl) (by kernel_rfl) (by kernel_rfl) (fun _ _ _ h => h) (Or.inl ⟨?_, ?_⟩) (by assumption) ?_
  rotate_left
  · rfl
  · (intro w hSw; (try dsimp only at hSw); first | (go_simp; done) | (go_simp; with_reducible rfl))
  (try simp only [Act.put, List.getElem_toArray, List.getElem_cons_zero, List.getElem_cons_succ, List.setIfInBounds_toArray, List.set_cons_zero, List.set_cons_succ])
  refine wpAnyZ_take (i := 4) (v := ?_) rfl (by kernel_rfl) (by kernel_rfl) (by kernel_rfl) (fun _ _ _ h => h) (Or.inl ⟨?_, ?_⟩) (by assumption) ?_
  rotate_left
  · rfl
  · (intro w hSw; (try dsimp only at hSw); first | (go_simp; done) | (go_simp; with_reducible rfl))
  (try simp only [Act.put, List.getElem_toArray, List.getElem_cons_zero, List.getElem_cons_succ, List.setIfInBounds_toArray, List.set_cons_zero, List.set_cons_succ])
  refine wpAnyZ_take (i := 5) (v := ?_) rfl (by kernel_rfl) (by kernel_rfl) (by kernel_rfl) (fun _ _ _ h => h) (Or.inl ⟨?_, ?_⟩) (by assumption) ?_
  rotate_left
  · rfl
  · (intro w hSw; (try dsimp only at hSw); first | (go_simp; done) | (go_simp; with_reducible rfl))
  (try simp only [Act.put, List.getElem_toArray, List.getElem_cons_zero, List.getElem_cons_succ, List.setIfInBounds_toArray, List.set_cons_zero, List.set_cons_succ])
  refine wpAnyZ_take (i := 6) (v := ?_) rfl (by kernel_rfl) (by kernel_rfl) (by kernel_rfl) (fun _ _ _ h => h) (Or.inl ⟨?_, ?_⟩) (by assumption) ?_
  rotate_left
  · rfl
  · (intro w hSw; (try dsimp only at hSw); first | (go_simp; done) | (go_simp; with_reducible rfl))
  (try simp only [Act.put, List.getElem_toArray, List.getElem_cons_zero, List.getElem_cons_succ, List.setIfInBounds_toArray, List.set_cons_zero, List.set_cons_succ])
  refine wpAnyZ_take (i := 7) (v := ?_) rfl (by kernel_rfl) (by kernel_rfl) (by kernel_rfl) (fun _ _ _ h => h) (Or.inl ⟨?_, ?_⟩) (by assumption) ?_
  rotate_left
  · rfl
  · (intro w hSw; (try dsimp only at hSw); first | (go_simp; done) | (go_simp; with_reducible rfl))
  (try simp only [Act.put, List.getElem_toArray, List.getElem_cons_zero, List.getElem_cons_succ, List.setIfInBounds_toArray, List.set_cons_zero, List.set_cons_succ])
  refine wpAnyZ_take (i := 8) (v := ?_) rfl (by kernel_rfl) (by kernel_rfl) (by kernel_rfl) (fun _ _ _ h => h) (Or.inl ⟨?_, ?_⟩) (by assumption) ?_
  rotate_left
  · rfl
  · (intro w hSw; (try dsimp only at hSw); first | (go_simp; done) | (go_simp; with_reducible rfl))
  (try simp only [Act.put, List.getElem_toArray, List.getElem_cons_zero, List.getElem_cons_succ, List.setIfInBounds_toArray, List.set_cons_zero, List.set_cons_succ])
  refine wpAnyZ_one (i := 9) rfl (by kernel_rfl) (fun K hK => ?_)
  go_simp
  go_at_call 95
  refine (number_any _ _).mono ?_
  rintro e w1 ⟨rfl, hb1⟩
  rw [hn]
  have HB1 : Below (w.heap.size + 1) (w.alloc (.cells #[.int .i64 1, .int .i64 t, .int .i64 a, .int .i64 b, .int .i64 n, .int .i64 g] 71)) w1 := Below.trans (Below.refl _ _).drew (Below.mono hb1 (by simp))
  go_wp2_with fail
  refine hK.out _ _ (K1 _ HB1) (fun hHeld => ?_)
  clear hK K
  (try simp only [Act.put, List.getElem_toArray, List.getElem_cons_zero, List.getElem_cons_succ, List.setIfInBounds_toArray, List.set_cons_zero, List.set_cons_succ])
  refine wpAnyZ_take (i := 10) (v := ?_) rfl (by kernel_rfl) (by kernel_rfl) (by kernel_rfl) (fun _ _ _ h => h) (Or.inl ⟨?_, ?_⟩) (by assumption) ?_
  rotate_left
  · rfl
  · (intro w hSw; (try dsimp only at hSw); first | (go_simp; done) | (go_simp; with_reducible rfl))
  (try simp only [Act.put, List.getElem_toArray, List.getElem_cons_zero, List.getElem_cons_succ, List.setIfInBounds_toArray, List.set_cons_zero, List.set_cons_succ])
  refine wpAnyZ_last (i := 11) rfl (by kernel_rfl) (by kernel_rfl) (fun K hK => ?_)
  have HBL : Below (w.heap.size + 1) (w.alloc (.cells #[.int .i64 1, .int .i64 t, .int .i64 a, .int .i64 b, .int .i64 n, .int .i64 g] 71)) (w1) := HB1
  have c0 : (w1).cell? ⟨gb, t * 2, none⟩ = some (.int .i64 s.vars[t].k) := by rw [HBL.cell (by simpa using z2)]; simp [go_sem, hg2, kt0]
  have c1 : (w1).cell? ⟨gb, t * 2 + 1, none⟩ = some (.int .i64 s.vars[t].n) := by rw [HBL.cell (by simpa using z2)]; simp [go_sem, hg2, kt1]
  have d0 : (w1).frozen? ⟨gb, t * 2, none⟩ = false := by rw [HBL.frozen (by simpa using z2)]; simp [go_sem, hg2, f0]
  have d1 : (w1).frozen? ⟨gb, t * 2 + 1, none⟩ = false := by rw [HBL.frozen (by simpa using z2)]; simp [go_sem, hg2, f1]
  generalize w1 = wl at *
  go_simp
  refine hK.out _ _ ?_
  clear hK K
  (try simp only [Act.put, List.getElem_toArray, List.getElem_cons_zero, List.getElem_cons_succ, List.setIfInBounds_toArray, List.set_cons_zero, List.set_cons_succ])
  refine wpAnyZ_done (by kernel_rfl) ?_ _
  go_wp2
  go_ret
  have HW : Below w.heap.size w wl := Below.trans (by go_grown) (HBL.mono (Nat.le_succ _))
  exact ⟨rfl, ⟨_, _, _, _, (h.below HW).put t ht ⟨1, n⟩⟩, ((HW.mono hB).setCell hg1 _).setCell hg1 _, fun j _ => by rw [cell_set2 _ _ _ _ _ _ _ _ am]; exact HW.cell hm, frame_put HW (by simp [ownBlocks, Value.ownBlock]) _ _ _ _⟩

set_option maxHeartbeats 2000000 in
set_option maxRecDepth 20000 in
theorem doK_2 (m B t : Nat) (s : St) (vv tv lv : Value) (fv : List Value) (a b n g : Int) (w : World) (h : OwnRun w B m s vv tv lv fv) (hB : B ≤ w.heap.size) (ht : t < s.vars.length) :
    Calls Tryd.prog 75 #[.pointer (some ⟨m, 0, none⟩), .agg #[.int .i64 2, .int .i64 t, .int .i64 a, .int .i64 b, .int .i64 n, .int .i64 g]] w fun e w' => e = .returned (.int .i64 0) ∧ MStep w w' B m (ownBlocks m vv tv lv fv) { s with vars := s.vars.set t (truV (n == 1)) } := by
  have hm : m < w.heap.size := h.lt (by simp [ownBlocks])
  have z1 : m < w.heap.size + 1 := by omega
  obtain ⟨gb, cap, rfl, hg1, hg2, hcell, hfz⟩ := h.form (by omega)
  have am : m ≠ gb := h.vars_apart rfl m (by simp)
  have ah : w.heap.size ≠ gb := by omega
  have q1 := h.vars_
  have z2 : gb < w.heap.size + 1 := by omega
  obtain ⟨kt0, kt1⟩ := hcell t ht
  have nt0 : (0 : Int) ≤ (t : Int) := by omega
  have nt1 : (t : Int) < (s.vars.length : Int) := by omega
  have f0 := hfz (t * 2)
  have f1 := hfz (t * 2 + 1)
  have K1 : ∀ wx, Below (w.heap.size + 1) (w.alloc (.cells #[.int .i64 2, .int .i64 t, .int .i64 a, .int .i64 b, .int .i64 n, .int .i64 g] 71)) wx → wx.cell? ⟨m, 1, none⟩ = some (.slice (some ⟨gb, 0, none⟩) s.vars.length cap) ∧ wx.cell? ⟨w.heap.size, 1, none⟩ = some (.int .i64 t) ∧ wx.cell? ⟨w.heap.size, 4, none⟩ = some (.int .i64 n) := by
    intro wx hb
    rw [hb.cell (by simpa using z1), hb.cell (by simp), hb.cell (by simp)]
    simp [go_sem, hm, q1]
  clear hcell hfz
  go_enter Tryd.func75, Tryd.ntmps75
  go_wp2
  refine wp_region_z (S := (fun wx => wx.cell? ⟨m, 1, none⟩ = some (.slice (some ⟨gb, 0, none⟩) s.vars.length cap) ∧ wx.cell? ⟨w.heap.size, 1, none⟩ = some (.int .i64 t) ∧ wx.cell? ⟨w.heap.size, 4, none⟩ = some (.int .i64 n))) [12] (by kernel_rfl) (K1 _ (Below.refl _ _).drew) (fun hHeld => ?_)
  refine wpAnyZ_take (i := 0) (v := ?_) rfl (by kernel_rfl) (by kernel_rfl) (by kernel_rfl) (fun _ _ _ h => h) (Or.inl ⟨?_, ?_⟩) (by assumption) ?_
  rotate_left
  · rfl
  · (intro w hSw; (try dsimp only at hSw); first | (go_simp; done) | (go_simp; with_reducible rfl))
  (try simp only [Act.put, List.getElem_toArray, List.getElem_cons_zero, List.getElem_cons_succ, List.setIfInBounds_toArray, List.set_cons_zero, List.set_cons_succ])
  refine wpAnyZ_take (i := 1) (v := ?_) rfl (by kernel_rfl) (by kernel_rfl) (by kernel_rfl) (fun _ _ _ h => h) (Or.inl ⟨?_, ?_⟩) (by assumption) ?_
  rotate_left
  · rfl
  · (intro w hSw; (try dsimp only at hSw); first | (go_simp; done) | (go_simp; with_reducible rfl))
  (try simp only [Act.put, List.getElem_toArray, List.getElem_cons_zero, List.getElem_cons_succ, List.setIfInBounds_toArray, List.set_cons_zero, List.set_cons_succ])
  refine wpAnyZ_take (i := 2) (v := ?_) rfl (by kernel_rfl) (by kernel_rfl) (by kernel_rfl) (fun _ _ _ h => h) (Or.inl ⟨?_, ?_⟩) (by assumption) ?_
  rotate_left
  · rfl
  · (intro w hSw; (try dsimp only at hSw); first | (go_simp; done) | (go_simp; with_reducible rfl))
  (try simp only [Act.put, List.getElem_toArray, List.getElem_cons_zero, List.getElem_cons_succ, List.setIfInBounds_toArray, List.set_cons_zero, List.set_cons_succ])
  refine wpAnyZ_take (i := 3) (v := ?_) rfl (by kernel_rfl) (by kernel_rfl) (by kernel_rfl) (fun _ _ _ h => h) (Or.inl ⟨?_, ?_⟩) (by assumption) ?_
  rotate_left
  · rfl
  · (intro w hSw; (try dsimp only at hSw); first | (go_simp; done) | (go_simp; with_reducible rfl))
  (try simp only [Act.put, List.getElem_toArray, List.getElem_cons_zero, List.getElem_cons_succ, List.setIfInBounds_toArray, List.set_cons_zero, List.set_cons_succ])
  refine wpAnyZ_take (i := 4) (v := ?_) rfl (by kernel_rfl) (by kernel_rfl) (by kernel_rfl) (fun _ _ _ h => h) (Or.inl ⟨?_, ?_⟩) (by assumption) ?_
  rotate_left
  · rfl
  · (intro w hSw; (try dsimp only at hSw); first | (go_simp; done) | (go_simp; with_reducible rfl))
  (try simp only [Act.put, List.getElem_toArray, List.getElem_cons_zero, List.getElem_cons_succ, List.setIfInBounds_toArray, List.set_cons_zero, List.set_cons_succ])
  refine wpAnyZ_take (i := 5) (v := ?_) rfl (by kernel_rfl) (by kernel_rfl) (by kernel_rfl) (fun _ _ _ h => h) (Or.inl ⟨?_, ?_⟩) (by assumption) ?_
  rotate_left
  · rfl
  · (intro w hSw; (try dsimp only at hSw); first | (go_simp; done) | (go_simp; with_reducible rfl))
  (try simp only [Act.put, List.getElem_toArray, List.getElem_cons_zero, List.getElem_cons_succ, List.setIfInBounds_toArray, List.set_cons_zero, List.set_cons_succ])
  refine wpAnyZ_take (i := 6) (v := ?_) rfl (by kernel_rfl) (by kernel_rfl) (by kernel_rfl) (fun _ _ _ h => h) (Or.inl ⟨?_, ?_⟩) (by assumption) ?_
  rotate_left
  · rfl
  · (intro w hSw; (try dsimp only at hSw); first | (go_simp; done) | (go_simp; with_reducible rfl))
  (try simp only [Act.put, List.getElem_toArray, List.getElem_cons_zero, List.getElem_cons_succ, List.setIfInBounds_toArray, List.set_cons_zero, List.set_cons_succ])
  refine wpAnyZ_take (i := 7) (v := ?_) rfl (by kernel_rfl) (by kernel_rfl) (by kernel_rfl) (fun _ _ _ h => h) (Or.inl ⟨?_, ?_⟩) (by assumption) ?_
  rotate_left
  · rfl
  · (intro w hSw; (try dsimp only at hSw); first | (go_simp; done) | (go_simp; with_reducible rfl))
  (try simp only [Act.put, List.getElem_toArray, List.getElem_cons_zero, List.getElem_cons_succ, List.setIfInBounds_toArray, List.set_cons_zero, List.set_cons_succ])
  refine wpAnyZ_take (i := 8) (v := ?_) rfl (by kernel_rfl) (by kernel_rfl) (by kernel_rfl) (fun _ _ _ h => h) (Or.inl ⟨?_, ?_⟩) (by assumption) ?_
  rotate_left
  · rfl
  · (intro w hSw; (try dsimp only at hSw); first | (go_simp; done) | (go_simp; with_reducible rfl))
  (try simp only [Act.put, List.getElem_toArray, List.getElem_cons_zero, List.getElem_cons_succ, List.setIfInBounds_toArray, List.set_cons_zero, List.set_cons_succ])
  refine wpAnyZ_take (i := 9) (v := ?_) rfl (by kernel_rfl) (by kernel_rfl) (by kernel_rfl) (fun _ _ _ h => h) (Or.inl ⟨?_, ?_⟩) (by assumption) ?_
  rotate_left
  · rfl
  · (intro w hSw; (try dsimp only at hSw); first | (go_simp; done) | (go_simp; with_reducible rfl))
  (try simp only [Act.put, List.getElem_toArray, List.getElem_cons_zero, List.getElem_cons_succ, List.setIfInBounds_toArray, List.set_cons_zero, List.set_cons_succ])
  refine wpAnyZ_one (i := 10) rfl (by kernel_rfl) (fun K hK => ?_)
  go_simp
  go_at_call 96
  refine (truth_any _ _).mono ?_
  rintro e w1 ⟨rfl, hb1⟩
  have HB1 : Below (w.heap.size + 1) (w.alloc (.cells #[.int .i64 2, .int .i64 t, .int .i64 a, .int .i64 b, .int .i64 n, .int .i64 g] 71)) w1 := Below.trans (Below.refl _ _).drew (Below.mono hb1 (by simp))
  go_wp2_with fail
  refine hK.out _ _ (K1 _ HB1) (fun hHeld => ?_)
  clear hK K
  (try simp only [Act.put, List.getElem_toArray, List.getElem_cons_zero, List.getElem_cons_succ, List.setIfInBounds_toArray, List.set_cons_zero, List.set_cons_succ])
  refine wpAnyZ_take (i := 11) (v := ?_) rfl (by kernel_rfl) (by kernel_rfl) (by kernel_rfl) (fun _ _ _ h => h) (Or.inl ⟨?_, ?_⟩) (by assumption) ?_
  rotate_left
  · rfl
  · (intro w hSw; (try dsimp only at hSw); first | (go_simp; done) | (go_simp; with_reducible rfl))
  (try simp only [Act.put, List.getElem_toArray, List.getElem_cons_zero, List.getElem_cons_succ, List.setIfInBounds_toArray, List.set_cons_zero, List.set_cons_succ])
  refine wpAnyZ_last (i := 12) rfl (by kernel_rfl) (by kernel_rfl) (fun K hK => ?_)
  have HBL : Below (w.heap.size + 1) (w.alloc (.cells #[.int .i64 2, .int .i64 t, .int .i64 a, .int .i64 b, .int .i64 n, .int .i64 g] 71)) (w1) := HB1
  have c0 : (w1).cell? ⟨gb, t * 2, none⟩ = some (.int .i64 s.vars[t].k) := by rw [HBL.cell (by simpa using z2)]; simp [go_sem, hg2, kt0]
  have c1 : (w1).cell? ⟨gb, t * 2 + 1, none⟩ = some (.int .i64 s.vars[t].n) := by rw [HBL.cell (by simpa using z2)]; simp [go_sem, hg2, kt1]
  have d0 : (w1).frozen? ⟨gb, t * 2, none⟩ = false := by rw [HBL.frozen (by simpa using z2)]; simp [go_sem, hg2, f0]
  have d1 : (w1).frozen? ⟨gb, t * 2 + 1, none⟩ = false := by rw [HBL.frozen (by simpa using z2)]; simp [go_sem, hg2, f1]
  generalize w1 = wl at *
  go_simp
  refine hK.out _ _ ?_
  clear hK K
  (try simp only [Act.put, List.getElem_toArray, List.getElem_cons_zero, List.getElem_cons_succ, List.setIfInBounds_toArray, List.set_cons_zero, List.set_cons_succ])
  refine wpAnyZ_done (by kernel_rfl) ?_ _
  go_wp2
  go_ret
  have HW : Below w.heap.size w wl := Below.trans (by go_grown) (HBL.mono (Nat.le_succ _))
  exact ⟨rfl, ⟨_, _, _, _, (h.below HW).put t ht (truV (n == 1))⟩, ((HW.mono hB).setCell hg1 _).setCell hg1 _, fun j _ => by rw [cell_set2 _ _ _ _ _ _ _ _ am]; exact HW.cell hm, frame_put HW (by simp [ownBlocks, Value.ownBlock]) _ _ _ _⟩

set_option maxHeartbeats 2000000 in
set_option maxRecDepth 20000 in
theorem doK_3 (m B t : Nat) (s : St) (vv tv lv : Value) (fv : List Value) (a b n g : Int) (w : World) (h : OwnRun w B m s vv tv lv fv) (hB : B ≤ w.heap.size) (ht : t < s.vars.length) :
    Calls Tryd.prog 75 #[.pointer (some ⟨m, 0, none⟩), .agg #[.int .i64 3, .int .i64 t, .int .i64 a, .int .i64 b, .int .i64 n, .int .i64 g]] w fun e w' => e = .returned (.int .i64 0) ∧ MStep w w' B m (ownBlocks m vv tv lv fv) { s with vars := s.vars.set t ⟨0, 0⟩ } := by
  have hm : m < w.heap.size := h.lt (by simp [ownBlocks])
  have z1 : m < w.heap.size + 1 := by omega
  obtain ⟨gb, cap, rfl, hg1, hg2, hcell, hfz⟩ := h.form (by omega)
  have am : m ≠ gb := h.vars_apart rfl m (by simp)
  have ah : w.heap.size ≠ gb := by omega
  have q1 := h.vars_
  have z2 : gb < w.heap.size + 1 := by omega
  obtain ⟨kt0, kt1⟩ := hcell t ht
  have nt0 : (0 : Int) ≤ (t : Int) := by omega
  have nt1 : (t : Int) < (s.vars.length : Int) := by omega
  have f0 := hfz (t * 2)
  have f1 := hfz (t * 2 + 1)
  have K1 : ∀ wx, Below (w.heap.size + 1) (w.alloc (.cells #[.int .i64 3, .int .i64 t, .int .i64 a, .int .i64 b, .int .i64 n, .int .i64 g] 71)) wx → wx.cell? ⟨m, 1, none⟩ = some (.slice (some ⟨gb, 0, none⟩) s.vars.length cap) ∧ wx.cell? ⟨w.heap.size, 1, none⟩ = some (.int .i64 t) := by
    intro wx hb
    rw [hb.cell (by simpa using z1), hb.cell (by simp)]
    simp [go_sem, hm, q1]
  clear hcell hfz
  go_enter Tryd.func75, Tryd.ntmps75
  go_wp2
  refine wp_region_z (S := (fun wx => wx.cell? ⟨m, 1, none⟩ = some (.slice (some ⟨gb, 0, none⟩) s.vars.length cap) ∧ wx.cell? ⟨w.heap.size, 1, none⟩ = some (.int .i64 t))) [9] (by kernel_rfl) (K1 _ (Below.refl _ _).drew) (fun hHeld => ?_)
  refine wpAnyZ_take (i := 0) (v := ?_) rfl (by kernel_rfl) (by kernel_rfl) (by kernel_rfl) (fun _ _ _ h => h) (Or.inl ⟨?_, ?_⟩) (by assumption) ?_
  rotate_left
  · rfl
  · (intro w hSw; (try dsimp only at hSw); first | (go_simp; done) | (go_simp; with_reducible rfl))
  (try simp only [Act.put, List.getElem_toArray, List.getElem_cons_zero, List.getElem_cons_succ, List.setIfInBounds_toArray, List.set_cons_zero, List.set_cons_succ])
  refine wpAnyZ_take (i := 1) (v := ?_) rfl (by kernel_rfl) (by kernel_rfl) (by kernel_rfl) (fun _ _ _ h => h) (Or.inl ⟨?_, ?_⟩) (by assumption) ?_
  rotate_left
  · rfl
  · (intro w hSw; (try dsimp only at hSw); first | (go_simp; done) | (go_simp; with_reducible rfl))
  (try simp only [Act.put, List.getElem_toArray, List.getElem_cons_zero, List.getElem_cons_succ, List.setIfInBounds_toArray, List.set_cons_zero, List.set_cons_succ])
  refine wpAnyZ_take (i := 2) (v := ?_) rfl (by kernel_rfl) (by kernel_rfl) (by kernel_rfl) (fun _ _ _ h => h) (Or.inl ⟨?_, ?_⟩) (by assumption) ?_
  rotate_left
  · rfl
  · (intro w hSw; (try dsimp only at hSw); first | (go_simp; done) | (go_simp; with_reducible rfl))
  (try simp only [Act.put, List.getElem_toArray, List.getElem_cons_zero, List.getElem_cons_succ, List.setIfInBounds_toArray, List.set_cons_zero, List.set_cons_succ])
  refine wpAnyZ_take (i := 3) (v := ?_) rfl (by kernel_rfl) (by kernel_rfl) (by kernel_rfl) (fun _ _ _ h => h) (Or.inl ⟨?_, ?_⟩) (by assumption) ?_
  rotate_left
  · rfl
  · (intro w hSw; (try dsimp only at hSw); first | (go_simp; done) | (go_simp; with_reducible rfl))
  (try simp only [Act.put, List.getElem_toArray, List.getElem_cons_zero, List.getElem_cons_succ, List.setIfInBounds_toArray, List.set_cons_zero, List.set_cons_succ])
  refine wpAnyZ_take (i := 4) (v := ?_) rfl (by kernel_rfl) (by kernel_rfl) (by kernel_rfl) (fun _ _ _ h => h) (Or.inl ⟨?_, ?_⟩) (by assumption) ?_
  rotate_left
  · rfl
  · (intro w hSw; (try dsimp only at hSw); first | (go_simp; done) | (go_simp; with_reducible rfl))
  (try simp only [Act.put, List.getElem_toArray, List.getElem_cons_zero, List.getElem_cons_succ, List.setIfInBounds_toArray, List.set_cons_zero, List.set_cons_succ])
  refine wpAnyZ_take (i := 5) (v := ?_) rfl (by kernel_rfl) (by kernel_rfl) (by kernel_rfl) (fun _ _ _ h => h) (Or.inl ⟨?_, ?_⟩) (by assumption) ?_
  rotate_left
  · rfl
  · (intro w hSw; (try dsimp only at hSw); first | (go_simp; done) | (go_simp; with_reducible rfl))
  (try simp only [Act.put, List.getElem_toArray, List.getElem_cons_zero, List.getElem_cons_succ, List.setIfInBounds_toArray, List.set_cons_zero, List.set_cons_succ])
  refine wpAnyZ_take (i := 6) (v := ?_) rfl (by kernel_rfl) (by kernel_rfl) (by kernel_rfl) (fun _ _ _ h => h) (Or.inl ⟨?_, ?_⟩) (by assumption) ?_
  rotate_left
  · rfl
  · (intro w hSw; (try dsimp only at hSw); first | (go_simp; done) | (go_simp; with_reducible rfl))
  (try simp only [Act.put, List.getElem_toArray, List.getElem_cons_zero, List.getElem_cons_succ, List.setIfInBounds_toArray, List.set_cons_zero, List.set_cons_succ])
  refine wpAnyZ_take (i := 7) (v := ?_) rfl (by kernel_rfl) (by kernel_rfl) (by kernel_rfl) (fun _ _ _ h => h) (Or.inl ⟨?_, ?_⟩) (by assumption) ?_
  rotate_left
  · rfl
  · (intro w hSw; (try dsimp only at hSw); first | (go_simp; done) | (go_simp; with_reducible rfl))
  (try simp only [Act.put, List.getElem_toArray, List.getElem_cons_zero, List.getElem_cons_succ, List.setIfInBounds_toArray, List.set_cons_zero, List.set_cons_succ])
  refine wpAnyZ_take (i := 8) (v := ?_) rfl (by kernel_rfl) (by kernel_rfl) (by kernel_rfl) (fun _ _ _ h => h) (Or.inl ⟨?_, ?_⟩) (by assumption) ?_
  rotate_left
  · rfl
  · (intro w hSw; (try dsimp only at hSw); first | (go_simp; done) | (go_simp; with_reducible rfl))
  (try simp only [Act.put, List.getElem_toArray, List.getElem_cons_zero, List.getElem_cons_succ, List.setIfInBounds_toArray, List.set_cons_zero, List.set_cons_succ])
  refine wpAnyZ_last (i := 9) rfl (by kernel_rfl) (by kernel_rfl) (fun K hK => ?_)
  have HBL : Below (w.heap.size + 1) (w.alloc (.cells #[.int .i64 3, .int .i64 t, .int .i64 a, .int .i64 b, .int .i64 n, .int .i64 g] 71)) ((w.alloc (.cells #[.int .i64 3, .int .i64 t, .int .i64 a, .int .i64 b, .int .i64 n, .int .i64 g] 71)).drew) := (Below.refl _ _).drew
  have c0 : ((w.alloc (.cells #[.int .i64 3, .int .i64 t, .int .i64 a, .int .i64 b, .int .i64 n, .int .i64 g] 71)).drew).cell? ⟨gb, t * 2, none⟩ = some (.int .i64 s.vars[t].k) := by rw [HBL.cell (by simpa using z2)]; simp [go_sem, hg2, kt0]
  have c1 : ((w.alloc (.cells #[.int .i64 3, .int .i64 t, .int .i64 a, .int .i64 b, .int .i64 n, .int .i64 g] 71)).drew).cell? ⟨gb, t * 2 + 1, none⟩ = some (.int .i64 s.vars[t].n) := by rw [HBL.cell (by simpa using z2)]; simp [go_sem, hg2, kt1]
  have d0 : ((w.alloc (.cells #[.int .i64 3, .int .i64 t, .int .i64 a, .int .i64 b, .int .i64 n, .int .i64 g] 71)).drew).frozen? ⟨gb, t * 2, none⟩ = false := by rw [HBL.frozen (by simpa using z2)]; simp [go_sem, hg2, f0]
  have d1 : ((w.alloc (.cells #[.int .i64 3, .int .i64 t, .int .i64 a, .int .i64 b, .int .i64 n, .int .i64 g] 71)).drew).frozen? ⟨gb, t * 2 + 1, none⟩ = false := by rw [HBL.frozen (by simpa using z2)]; simp [go_sem, hg2, f1]
  generalize (w.alloc (.cells #[.int .i64 3, .int .i64 t, .int .i64 a, .int .i64 b, .int .i64 n, .int .i64 g] 71)).drew = wl at *
  go_simp
  refine hK.out _ _ ?_
  clear hK K
  (try simp only [Act.put, List.getElem_toArray, List.getElem_cons_zero, List.getElem_cons_succ, List.setIfInBounds_toArray, List.set_cons_zero, List.set_cons_succ])
  refine wpAnyZ_done (by kernel_rfl) ?_ _
  go_wp2
  go_ret
  have HW : Below w.heap.size w wl := Below.trans (by go_grown) (HBL.mono (Nat.le_succ _))
  exact ⟨rfl, ⟨_, _, _, _, (h.below HW).put t ht ⟨0, 0⟩⟩, ((HW.mono hB).setCell hg1 _).setCell hg1 _, fun j _ => by rw [cell_set2 _ _ _ _ _ _ _ _ am]; exact HW.cell hm, frame_put HW (by simp [ownBlocks, Value.ownBlock]) _ _ _ _⟩
end Go.Proofs.YtmapdpcfanecdaaDoor
