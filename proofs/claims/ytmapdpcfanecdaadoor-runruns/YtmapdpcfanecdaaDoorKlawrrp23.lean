/- Walks over package run: what the machine does, kind by kind. -/
import Derived.Test.YtmapdpcfanecdaaDoorKlawrrp21
import Derived.Test.YtmapdpcfanecdaaDoorKlawrrp16
import Derived.Test.YtmapdpcfanecdaaDoorKlawrrp22
namespace Go.Proofs.YtmapdpcfanecdaaDoor
set_option linter.unusedVariables false
set_option linter.unusedSimpArgs false
open Go.RowKit
attribute [local go_sem ↓] Go.wp_at_zero Go.wp_at_succ

set_option maxHeartbeats 1000000 in
set_option maxRecDepth 20000 in
theorem doC_5 (m B t x y : Nat) (s : St) (vv tv lv : Value) (fv : List Value) (n g : Int) (w : World) (h : OwnRun w B m s vv tv lv fv) (hB : B ≤ w.heap.size) (ht : t < s.vars.length) (hx : x < s.vars.length) (hy : y < s.vars.length) :
    Calls Tryd.prog 75 #[.pointer (some ⟨m, 0, none⟩), .agg #[.int .i64 5, .int .i64 t, .int .i64 x, .int .i64 y, .int .i64 n, .int .i64 g]] w fun e w' => e = .returned (.int .i64 (reckEnd s.vars[x] s.vars[y])) ∧ MStep w w' B m (ownBlocks m vv tv lv fv) (reckSt s t 5 s.vars[x] s.vars[y]) := by
  have hm : m < w.heap.size := h.lt (by simp [ownBlocks])
  have HW : Below w.heap.size w (w.alloc (.cells #[.int .i64 5, .int .i64 t, .int .i64 x, .int .i64 y, .int .i64 n, .int .i64 g] 71)) := by go_grown
  have HC := hideK (reckon_any m B t x y s vv tv lv fv 5 n g (w.alloc (.cells #[.int .i64 5, .int .i64 t, .int .i64 x, .int .i64 y, .int .i64 n, .int .i64 g] 71)) (h.below HW) (Nat.le_trans hB HW.size) ht hx hy (by omega))
  clear h
  go_enter Tryd.func75, Tryd.ntmps75
  go_wp2_with (go_at_call 97; fail)
  refine HC.out.mono ?_
  rintro e w1 ⟨rfl, h1, h2, h3, h4⟩
  clear HC
  go_wp2
  go_ret
  exact ⟨rfl, h1, (HW.mono hB).trans h2, fun j hj => by rw [h3 j hj]; exact HW.cell hm, frame_trans (frame_same HW) HW.size h4⟩

set_option maxHeartbeats 1000000 in
set_option maxRecDepth 20000 in
theorem doC_6 (m B t x y : Nat) (s : St) (vv tv lv : Value) (fv : List Value) (n g : Int) (w : World) (h : OwnRun w B m s vv tv lv fv) (hB : B ≤ w.heap.size) (ht : t < s.vars.length) (hx : x < s.vars.length) (hy : y < s.vars.length) :
    Calls Tryd.prog 75 #[.pointer (some ⟨m, 0, none⟩), .agg #[.int .i64 6, .int .i64 t, .int .i64 x, .int .i64 y, .int .i64 n, .int .i64 g]] w fun e w' => e = .returned (.int .i64 (reckEnd s.vars[x] s.vars[y])) ∧ MStep w w' B m (ownBlocks m vv tv lv fv) (reckSt s t 6 s.vars[x] s.vars[y]) := by
  have hm : m < w.heap.size := h.lt (by simp [ownBlocks])
  have HW : Below w.heap.size w (w.alloc (.cells #[.int .i64 6, .int .i64 t, .int .i64 x, .int .i64 y, .int .i64 n, .int .i64 g] 71)) := by go_grown
  have HC := hideK (reckon_any m B t x y s vv tv lv fv 6 n g (w.alloc (.cells #[.int .i64 6, .int .i64 t, .int .i64 x, .int .i64 y, .int .i64 n, .int .i64 g] 71)) (h.below HW) (Nat.le_trans hB HW.size) ht hx hy (by omega))
  clear h
  go_enter Tryd.func75, Tryd.ntmps75
  go_wp2_with (go_at_call 97; fail)
  refine HC.out.mono ?_
  rintro e w1 ⟨rfl, h1, h2, h3, h4⟩
  clear HC
  go_wp2
  go_ret
  exact ⟨rfl, h1, (HW.mono hB).trans h2, fun j hj => by rw [h3 j hj]; exact HW.cell hm, frame_trans (frame_same HW) HW.size h4⟩

set_option maxHeartbeats 1000000 in
set_option maxRecDepth 20000 in
theorem doC_7 (m B t x y : Nat) (s : St) (vv tv lv : Value) (fv : List Value) (n g : Int) (w : World) (h : OwnRun w B m s vv tv lv fv) (hB : B ≤ w.heap.size) (ht : t < s.vars.length) (hx : x < s.vars.length) (hy : y < s.vars.length) :
    Calls Tryd.prog 75 #[.pointer (some ⟨m, 0, none⟩), .agg #[.int .i64 7, .int .i64 t, .int .i64 x, .int .i64 y, .int .i64 n, .int .i64 g]] w fun e w' => e = .returned (.int .i64 (reckEnd s.vars[x] s.vars[y])) ∧ MStep w w' B m (ownBlocks m vv tv lv fv) (reckSt s t 7 s.vars[x] s.vars[y]) := by
  have hm : m < w.heap.size := h.lt (by simp [ownBlocks])
  have HW : Below w.heap.size w (w.alloc (.cells #[.int .i64 7, .int .i64 t, .int .i64 x, .int .i64 y, .int .i64 n, .int .i64 g] 71)) := by go_grown
  have HC := hideK (reckon_any m B t x y s vv tv lv fv 7 n g (w.alloc (.cells #[.int .i64 7, .int .i64 t, .int .i64 x, .int .i64 y, .int .i64 n, .int .i64 g] 71)) (h.below HW) (Nat.le_trans hB HW.size) ht hx hy (by omega))
  clear h
  go_enter Tryd.func75, Tryd.ntmps75
  go_wp2_with (go_at_call 97; fail)
  refine HC.out.mono ?_
  rintro e w1 ⟨rfl, h1, h2, h3, h4⟩
  clear HC
  go_wp2
  go_ret
  exact ⟨rfl, h1, (HW.mono hB).trans h2, fun j hj => by rw [h3 j hj]; exact HW.cell hm, frame_trans (frame_same HW) HW.size h4⟩

set_option maxHeartbeats 1000000 in
set_option maxRecDepth 20000 in
theorem doC_8 (m B t x y : Nat) (s : St) (vv tv lv : Value) (fv : List Value) (n g : Int) (w : World) (h : OwnRun w B m s vv tv lv fv) (hB : B ≤ w.heap.size) (ht : t < s.vars.length) (hx : x < s.vars.length) (hy : y < s.vars.length) :
    Calls Tryd.prog 75 #[.pointer (some ⟨m, 0, none⟩), .agg #[.int .i64 8, .int .i64 t, .int .i64 x, .int .i64 y, .int .i64 n, .int .i64 g]] w fun e w' => e = .returned (.int .i64 (reckEnd s.vars[x] s.vars[y])) ∧ MStep w w' B m (ownBlocks m vv tv lv fv) (reckSt s t 8 s.vars[x] s.vars[y]) := by
  have hm : m < w.heap.size := h.lt (by simp [ownBlocks])
  have HW : Below w.heap.size w (w.alloc (.cells #[.int .i64 8, .int .i64 t, .int .i64 x, .int .i64 y, .int .i64 n, .int .i64 g] 71)) := by go_grown
  have HC := hideK (reckon_any m B t x y s vv tv lv fv 8 n g (w.alloc (.cells #[.int .i64 8, .int .i64 t, .int .i64 x, .int .i64 y, .int .i64 n, .int .i64 g] 71)) (h.below HW) (Nat.le_trans hB HW.size) ht hx hy (by omega))
  clear h
  go_enter Tryd.func75, Tryd.ntmps75
  go_wp2_with (go_at_call 97; fail)
  refine HC.out.mono ?_
  rintro e w1 ⟨rfl, h1, h2, h3, h4⟩
  clear HC
  go_wp2
  go_ret
  exact ⟨rfl, h1, (HW.mono hB).trans h2, fun j hj => by rw [h3 j hj]; exact HW.cell hm, frame_trans (frame_same HW) HW.size h4⟩

set_option maxHeartbeats 1000000 in
set_option maxRecDepth 20000 in
theorem doC_11f (m B : Nat) (s : St) (vv tv lv : Value) (fv : List Value) (t a b n g : Int) (w : World) (h : OwnRun w B m s vv tv lv fv) (hB : B ≤ w.heap.size) (hT : s.things.length = 100) :
    Calls Tryd.prog 75 #[.pointer (some ⟨m, 0, none⟩), .agg #[.int .i64 11, .int .i64 t, .int .i64 a, .int .i64 b, .int .i64 n, .int .i64 g]] w fun e w' => e = .returned (.int .i64 5) ∧ MStep w w' B m (ownBlocks m vv tv lv fv) s := by
  have hm : m < w.heap.size := h.lt (by simp [ownBlocks])
  have HW : Below w.heap.size w (w.alloc (.cells #[.int .i64 11, .int .i64 t, .int .i64 a, .int .i64 b, .int .i64 n, .int .i64 g] 71)) := by go_grown
  have HC := hideK (make_full m B s vv tv lv fv t a b n g (w.alloc (.cells #[.int .i64 11, .int .i64 t, .int .i64 a, .int .i64 b, .int .i64 n, .int .i64 g] 71)) (h.below HW) (Nat.le_trans hB HW.size) hT)
  clear h
  go_enter Tryd.func75, Tryd.ntmps75
  go_wp2_with (go_at_call 99; fail)
  refine HC.out.mono ?_
  rintro e w1 ⟨rfl, h1, h2, h3, h4⟩
  clear HC
  go_wp2
  go_ret
  exact ⟨rfl, h1, (HW.mono hB).trans h2, fun j hj => by rw [h3 j hj]; exact HW.cell hm, frame_trans (frame_same HW) HW.size h4⟩

set_option maxHeartbeats 1000000 in
set_option maxRecDepth 20000 in
theorem doC_11n (m B t f : Nat) (s : St) (vv tv lv : Value) (fv : List Value) (a b n g : Int) (w : World) (h : OwnRun w B m s vv tv lv fv) (hB : B ≤ w.heap.size) (ht : t < s.vars.length) (hT : s.things.length < 100) (hf : f ≤ 3) (h7 : w.cell? ⟨m, 7, none⟩ = some (.int .i64 f)) :
    Calls Tryd.prog 75 #[.pointer (some ⟨m, 0, none⟩), .agg #[.int .i64 11, .int .i64 t, .int .i64 a, .int .i64 b, .int .i64 n, .int .i64 g]] w fun e w' => e = .returned (.int .i64 0) ∧ MStep w w' B m (ownBlocks m vv tv lv fv) { s with vars := s.vars.set t ⟨3, s.things.length⟩, things := s.things ++ [⟨s.at_, List.replicate f ⟨0, 0⟩⟩] } := by
  have hm : m < w.heap.size := h.lt (by simp [ownBlocks])
  have HW : Below w.heap.size w (w.alloc (.cells #[.int .i64 11, .int .i64 t, .int .i64 a, .int .i64 b, .int .i64 n, .int .i64 g] 71)) := by go_grown
  have HC := hideK (make_new m B t f s vv tv lv fv a b n g (w.alloc (.cells #[.int .i64 11, .int .i64 t, .int .i64 a, .int .i64 b, .int .i64 n, .int .i64 g] 71)) (h.below HW) (Nat.le_trans hB HW.size) ht hT hf (by rw [HW.cell (by simpa using hm)]; exact h7))
  clear h
  go_enter Tryd.func75, Tryd.ntmps75
  go_wp2_with (go_at_call 99; fail)
  refine HC.out.mono ?_
  rintro e w1 ⟨rfl, h1, h2, h3, h4⟩
  clear HC
  go_wp2
  go_ret
  exact ⟨rfl, h1, (HW.mono hB).trans h2, fun j hj => by rw [h3 j hj]; exact HW.cell hm, frame_trans (frame_same HW) HW.size h4⟩

set_option maxHeartbeats 1000000 in
set_option maxRecDepth 20000 in
theorem doC_12w (m B x : Nat) (s : St) (vv tv lv : Value) (fv : List Value) (t b n g : Int) (w : World) (h : OwnRun w B m s vv tv lv fv) (hB : B ≤ w.heap.size) (hx : x < s.vars.length) (hv : s.vars[x].k ≠ 3) :
    Calls Tryd.prog 75 #[.pointer (some ⟨m, 0, none⟩), .agg #[.int .i64 12, .int .i64 t, .int .i64 x, .int .i64 b, .int .i64 n, .int .i64 g]] w fun e w' => e = .returned (.int .i64 2) ∧ MStep w w' B m (ownBlocks m vv tv lv fv) s := by
  have hm : m < w.heap.size := h.lt (by simp [ownBlocks])
  have HW : Below w.heap.size w (w.alloc (.cells #[.int .i64 12, .int .i64 t, .int .i64 x, .int .i64 b, .int .i64 n, .int .i64 g] 71)) := by go_grown
  have HC := hideK (field_wrong m B x s vv tv lv fv 12 t b n g (w.alloc (.cells #[.int .i64 12, .int .i64 t, .int .i64 x, .int .i64 b, .int .i64 n, .int .i64 g] 71)) (h.below HW) (Nat.le_trans hB HW.size) hx hv)
  clear h
  go_enter Tryd.func75, Tryd.ntmps75
  go_wp2_with (go_at_call 100; fail)
  refine HC.out.mono ?_
  rintro e w1 ⟨rfl, h1, h2, h3, h4⟩
  clear HC
  go_wp2
  go_ret
  exact ⟨rfl, h1, (HW.mono hB).trans h2, fun j hj => by rw [h3 j hj]; exact HW.cell hm, frame_trans (frame_same HW) HW.size h4⟩

set_option maxHeartbeats 1000000 in
set_option maxRecDepth 20000 in
theorem doC_13w (m B x : Nat) (s : St) (vv tv lv : Value) (fv : List Value) (t b n g : Int) (w : World) (h : OwnRun w B m s vv tv lv fv) (hB : B ≤ w.heap.size) (hx : x < s.vars.length) (hv : s.vars[x].k ≠ 3) :
    Calls Tryd.prog 75 #[.pointer (some ⟨m, 0, none⟩), .agg #[.int .i64 13, .int .i64 t, .int .i64 x, .int .i64 b, .int .i64 n, .int .i64 g]] w fun e w' => e = .returned (.int .i64 2) ∧ MStep w w' B m (ownBlocks m vv tv lv fv) s := by
  have hm : m < w.heap.size := h.lt (by simp [ownBlocks])
  have HW : Below w.heap.size w (w.alloc (.cells #[.int .i64 13, .int .i64 t, .int .i64 x, .int .i64 b, .int .i64 n, .int .i64 g] 71)) := by go_grown
  have HC := hideK (field_wrong m B x s vv tv lv fv 13 t b n g (w.alloc (.cells #[.int .i64 13, .int .i64 t, .int .i64 x, .int .i64 b, .int .i64 n, .int .i64 g] 71)) (h.below HW) (Nat.le_trans hB HW.size) hx hv)
  clear h
  go_enter Tryd.func75, Tryd.ntmps75
  go_wp2_with (go_at_call 100; fail)
  refine HC.out.mono ?_
  rintro e w1 ⟨rfl, h1, h2, h3, h4⟩
  clear HC
  go_wp2
  go_ret
  exact ⟨rfl, h1, (HW.mono hB).trans h2, fun j hj => by rw [h3 j hj]; exact HW.cell hm, frame_trans (frame_same HW) HW.size h4⟩

set_option maxHeartbeats 1000000 in
set_option maxRecDepth 20000 in
theorem doC_12 (m B x q f t : Nat) (s : St) (vv tv lv : Value) (fv : List Value) (b g : Int) (w : World) (h : OwnRun w B m s vv tv lv fv) (hB : B ≤ w.heap.size) (hx : x < s.vars.length) (hv : s.vars[x] = ⟨3, (q : Int)⟩) (hq : q < s.things.length) (hf : f < s.things[q].fs.length) (ht : t < s.vars.length) :
    Calls Tryd.prog 75 #[.pointer (some ⟨m, 0, none⟩), .agg #[.int .i64 12, .int .i64 t, .int .i64 x, .int .i64 b, .int .i64 f, .int .i64 g]] w fun e w' => e = .returned (.int .i64 0) ∧ MStep w w' B m (ownBlocks m vv tv lv fv) { s with vars := s.vars.set t s.things[q].fs[f] } := by
  have hm : m < w.heap.size := h.lt (by simp [ownBlocks])
  have HW : Below w.heap.size w (w.alloc (.cells #[.int .i64 12, .int .i64 t, .int .i64 x, .int .i64 b, .int .i64 f, .int .i64 g] 71)) := by go_grown
  have HC := hideK (field_get m B x q f t s vv tv lv fv b g (w.alloc (.cells #[.int .i64 12, .int .i64 t, .int .i64 x, .int .i64 b, .int .i64 f, .int .i64 g] 71)) (h.below HW) (Nat.le_trans hB HW.size) hx hv hq hf ht)
  clear h hv
  go_enter Tryd.func75, Tryd.ntmps75
  go_wp2_with (go_at_call 100; fail)
  refine HC.out.mono ?_
  rintro e w1 ⟨rfl, h1, h2, h3, h4⟩
  clear HC
  go_wp2
  go_ret
  exact ⟨rfl, h1, (HW.mono hB).trans h2, fun j hj => by rw [h3 j hj]; exact HW.cell hm, frame_trans (frame_same HW) HW.size h4⟩

set_option maxHeartbeats 1000000 in
set_option maxRecDepth 20000 in
theorem doC_13 (m B x q f y : Nat) (s : St) (vv tv lv : Value) (fv : List Value) (t g : Int) (w : World) (h : OwnRun w B m s vv tv lv fv) (hB : B ≤ w.heap.size) (hx : x < s.vars.length) (hv : s.vars[x] = ⟨3, (q : Int)⟩) (hq : q < s.things.length) (hf : f < s.things[q].fs.length) (hy : y < s.vars.length) :
    Calls Tryd.prog 75 #[.pointer (some ⟨m, 0, none⟩), .agg #[.int .i64 13, .int .i64 t, .int .i64 x, .int .i64 y, .int .i64 f, .int .i64 g]] w fun e w' => e = .returned (.int .i64 0) ∧ MStep w w' B m (ownBlocks m vv tv lv fv) (putField s q f s.vars[y]) := by
  have hm : m < w.heap.size := h.lt (by simp [ownBlocks])
  have HW : Below w.heap.size w (w.alloc (.cells #[.int .i64 13, .int .i64 t, .int .i64 x, .int .i64 y, .int .i64 f, .int .i64 g] 71)) := by go_grown
  have HC := hideK (field_put m B x q f y s vv tv lv fv t g (w.alloc (.cells #[.int .i64 13, .int .i64 t, .int .i64 x, .int .i64 y, .int .i64 f, .int .i64 g] 71)) (h.below HW) (Nat.le_trans hB HW.size) hx hv hq hf hy)
  clear h hv
  go_enter Tryd.func75, Tryd.ntmps75
  go_wp2_with (go_at_call 100; fail)
  refine HC.out.mono ?_
  rintro e w1 ⟨rfl, h1, h2, h3, h4⟩
  clear HC
  go_wp2
  go_ret
  exact ⟨rfl, h1, (HW.mono hB).trans h2, fun j hj => by rw [h3 j hj]; exact HW.cell hm, frame_trans (frame_same HW) HW.size h4⟩
end Go.Proofs.YtmapdpcfanecdaaDoor
