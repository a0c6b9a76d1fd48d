/- A step's parts, by the document's words: what an instruction does but for where it goes on. No program in sight. -/
import Derived.Test.YtmapdpcfanecdaaDoorKlawrsp19
import Derived.Test.YtmapdpcfanecdaaDoorKlawrsp15
import Derived.Test.YtmapdpcfanecdaaDoorKlawrsp20
import Derived.Test.YtmapdpcfanecdaaDoorKlawrsp09
namespace Go.Proofs.YtmapdpcfanecdaaDoor
set_option linter.unusedVariables false
set_option linter.unusedSimpArgs false
open Go.RowKit
attribute [local go_sem ↓] Go.wp_at_zero Go.wp_at_succ

set_option maxHeartbeats 1000000 in
set_option maxRecDepth 20000 in
theorem doC_5 (m B t x y : Nat) (s : St) (vv tv lv : Value) (fv : List Value) (n g : Int) (w : World) (h : OwnRun w B m s vv tv lv fv) (hB : B ≤ w.heap.size) (ht : t < s.vars.length) (hx : x < s.vars.length) (hy : y < s.vars.length) :
    Calls Tryd.prog 75 #[.pointer (some ⟨m, 0, none⟩), .agg #[.int .i64 5, .int .i64 t, .int .i64 x, .int .i64 y, .int .i64 n, .int .i64 g]] w fun e w' => e = .returned (.int .i64 (reckEnd s.vars[x] s.vars[y])) ∧ MStep w w' B m (ownBlocks m vv tv lv fv) (reckSt s t 5 s.vars[x] s.vars[y]) := by
  have hm : m < w.heap.size := h.lt (by simp [ownBlocks])
  have HW : Below w.heap.size w (w.alloc (.cells #[.int .i64 5, .int .i64 t, .int .i64 x, .int .i64 y, .int .i64 n, .int .i64 g] 71)) := by go_grown
  have HC := hideK (reckon_any m B t x y s vv tv lv fv 5 n g (w.alloc (.cells #[.int .i64 5, .int .i64 t, .int .i64 x, .int .i64 y, .int .i64 n, .int .i64 g] 71)) (h.below HW) (Nat.le_trans hB HW.size) ht hx hy (by omega))
  clear h
  go_enter Tryd.func75, Tryd.ntmps75
  go_wp2_with (go_at_call 97; fail)
  refine HC.out.mono ?_
  rintro e w1 ⟨rfl, h1, h2, h3, h4⟩
  clear HC
  go_wp2
  go_ret
  exact ⟨rfl, h1, (HW.mono hB).trans h2, fun j hj => by rw [h3 j hj]; exact HW.cell hm, frame_trans (frame_same HW) HW.size h4⟩

set_option maxHeartbeats 1000000 in
set_option maxRecDepth 20000 in
theorem doC_6 (m B t x y : Nat) (s : St) (vv tv lv : Value) (fv : List Value) (n g : Int) (w : World) (h : OwnRun w B m s vv tv lv fv) (hB : B ≤ w.heap.size) (ht : t < s.vars.length) (hx : x < s.vars.length) (hy : y < s.vars.length) :
    Calls Tryd.prog 75 #[.pointer (some ⟨m, 0, none⟩), .agg #[.int .i64 6, .int .i64 t, .int .i64 x, .int .i64 y, .int .i64 n, .int .i64 g]] w fun e w' => e = .returned (.int .i64 (reckEnd s.vars[x] s.vars[y])) ∧ MStep w w' B m (ownBlocks m vv tv lv fv) (reckSt s t 6 s.vars[x] s.vars[y]) := by
  have hm : m < w.heap.size := h.lt (by simp [ownBlocks])
  have HW : Below w.heap.size w (w.alloc (.cells #[.int .i64 6, .int .i64 t, .int .i64 x, .int .i64 y, .int .i64 n, .int .i64 g] 71)) := by go_grown
  have HC := hideK (reckon_any m B t x y s vv tv lv fv 6 n g (w.alloc (.cells #[.int .i64 6, .int .i64 t, .int .i64 x, .int .i64 y, .int .i64 n, .int .i64 g] 71)) (h.below HW) (Nat.le_trans hB HW.size) ht hx hy (by omega))
  clear h
  go_enter Tryd.func75, Tryd.ntmps75
  go_wp2_with (go_at_call 97; fail)
  refine HC.out.mono ?_
  rintro e w1 ⟨rfl, h1, h2, h3, h4⟩
  clear HC
  go_wp2
  go_ret
  exact ⟨rfl, h1, (HW.mono hB).trans h2, fun j hj => by rw [h3 j hj]; exact HW.cell hm, frame_trans (frame_same HW) HW.size h4⟩

set_option maxHeartbeats 1000000 in
set_option maxRecDepth 20000 in
theorem doC_7 (m B t x y : Nat) (s : St) (vv tv lv : Value) (fv : List Value) (n g : Int) (w : World) (h : OwnRun w B m s vv tv lv fv) (hB : B ≤ w.heap.size) (ht : t < s.vars.length) (hx : x < s.vars.length) (hy : y < s.vars.length) :
    Calls Tryd.prog 75 #[.pointer (some ⟨m, 0, none⟩), .agg #[.int .i64 7, .int .i64 t, .int .i64 x, .int .i64 y, .int .i64 n, .int .i64 g]] w fun e w' => e = .returned (.int .i64 (reckEnd s.vars[x] s.vars[y])) ∧ MStep w w' B m (ownBlocks m vv tv lv fv) (reckSt s t 7 s.vars[x] s.vars[y]) := by
  have hm : m < w.heap.size := h.lt (by simp [ownBlocks])
  have HW : Below w.heap.size w (w.alloc (.cells #[.int .i64 7, .int .i64 t, .int .i64 x, .int .i64 y, .int .i64 n, .int .i64 g] 71)) := by go_grown
  have HC := hideK (reckon_any m B t x y s vv tv lv fv 7 n g (w.alloc (.cells #[.int .i64 7, .int .i64 t, .int .i64 x, .int .i64 y, .int .i64 n, .int .i64 g] 71)) (h.below HW) (Nat.le_trans hB HW.size) ht hx hy (by omega))
  clear h
  go_enter Tryd.func75, Tryd.ntmps75
  go_wp2_with (go_at_call 97; fail)
  refine HC.out.mono ?_
  rintro e w1 ⟨rfl, h1, h2, h3, h4⟩
  clear HC
  go_wp2
  go_ret
  exact ⟨rfl, h1, (HW.mono hB).trans h2, fun j hj => by rw [h3 j hj]; exact HW.cell hm, frame_trans (frame_same HW) HW.size h4⟩

set_option maxHeartbeats 1000000 in
set_option maxRecDepth 20000 in
theorem doC_8 (m B t x y : Nat) (s : St) (vv tv lv : Value) (fv : List Value) (n g : Int) (w : World) (h : OwnRun w B m s vv tv lv fv) (hB : B ≤ w.heap.size) (ht : t < s.vars.length) (hx : x < s.vars.length) (hy : y < s.vars.length) :
    Calls Tryd.prog 75 #[.pointer (some ⟨m, 0, none⟩), .agg #[.int .i64 8, .int .i64 t, .int .i64 x, .int .i64 y, .int .i64 n, .int .i64 g]] w fun e w' => e = .returned (.int .i64 (reckEnd s.vars[x] s.vars[y])) ∧ MStep w w' B m (ownBlocks m vv tv lv fv) (reckSt s t 8 s.vars[x] s.vars[y]) := by
  have hm : m < w.heap.size := h.lt (by simp [ownBlocks])
  have HW : Below w.heap.size w (w.alloc (.cells #[.int .i64 8, .int .i64 t, .int .i64 x, .int .i64 y, .int .i64 n, .int .i64 g] 71)) := by go_grown
  have HC := hideK (reckon_any m B t x y s vv tv lv fv 8 n g (w.alloc (.cells #[.int .i64 8, .int .i64 t, .int .i64 x, .int .i64 y, .int .i64 n, .int .i64 g] 71)) (h.below HW) (Nat.le_trans hB HW.size) ht hx hy (by omega))
  clear h
  go_enter Tryd.func75, Tryd.ntmps75
  go_wp2_with (go_at_call 97; fail)
  refine HC.out.mono ?_
  rintro e w1 ⟨rfl, h1, h2, h3, h4⟩
  clear HC
  go_wp2
  go_ret
  exact ⟨rfl, h1, (HW.mono hB).trans h2, fun j hj => by rw [h3 j hj]; exact HW.cell hm, frame_trans (frame_same HW) HW.size h4⟩

set_option maxHeartbeats 1000000 in
set_option maxRecDepth 20000 in
theorem doC_11f (m B : Nat) (s : St) (vv tv lv : Value) (fv : List Value) (t a b n g : Int) (w : World) (h : OwnRun w B m s vv tv lv fv) (hB : B ≤ w.heap.size) (hT : s.things.length = 100) :
    Calls Tryd.prog 75 #[.pointer (some ⟨m, 0, none⟩), .agg #[.int .i64 11, .int .i64 t, .int .i64 a, .int .i64 b, .int .i64 n, .int .i64 g]] w fun e w' => e = .returned (.int .i64 5) ∧ MStep w w' B m (ownBlocks m vv tv lv fv) s := by
  have hm : m < w.heap.size := h.lt (by simp [ownBlocks])
  have HW : Below w.heap.size w (w.alloc (.cells #[.int .i64 11, .int .i64 t, .int .i64 a, .int .i64 b, .int .i64 n, .int .i64 g] 71)) := by go_grown
  have HC := hideK (make_full m B s vv tv lv fv t a b n g (w.alloc (.cells #[.int .i64 11, .int .i64 t, .int .i64 a, .int .i64 b, .int .i64 n, .int .i64 g] 71)) (h.below HW) (Nat.le_trans hB HW.size) hT)
  clear h
  go_enter Tryd.func75, Tryd.ntmps75
  go_wp2_with (go_at_call 99; fail)
  refine HC.out.mono ?_
  rintro e w1 ⟨rfl, h1, h2, h3, h4⟩
  clear HC
  go_wp2
  go_ret
  exact ⟨rfl, h1, (HW.mono hB).trans h2, fun j hj => by rw [h3 j hj]; exact HW.cell hm, frame_trans (frame_same HW) HW.size h4⟩

set_option maxHeartbeats 1000000 in
set_option maxRecDepth 20000 in
theorem doC_11n (m B t f : Nat) (s : St) (vv tv lv : Value) (fv : List Value) (a b n g : Int) (w : World) (h : OwnRun w B m s vv tv lv fv) (hB : B ≤ w.heap.size) (ht : t < s.vars.length) (hT : s.things.length < 100) (hf : f ≤ 3) (h7 : w.cell? ⟨m, 7, none⟩ = some (.int .i64 f)) :
    Calls Tryd.prog 75 #[.pointer (some ⟨m, 0, none⟩), .agg #[.int .i64 11, .int .i64 t, .int .i64 a, .int .i64 b, .int .i64 n, .int .i64 g]] w fun e w' => e = .returned (.int .i64 0) ∧ MStep w w' B m (ownBlocks m vv tv lv fv) { s with vars := s.vars.set t ⟨3, s.things.length⟩, things := s.things ++ [⟨s.at_, List.replicate f ⟨0, 0⟩⟩] } := by
  have hm : m < w.heap.size := h.lt (by simp [ownBlocks])
  have HW : Below w.heap.size w (w.alloc (.cells #[.int .i64 11, .int .i64 t, .int .i64 a, .int .i64 b, .int .i64 n, .int .i64 g] 71)) := by go_grown
  have HC := hideK (make_new m B t f s vv tv lv fv a b n g (w.alloc (.cells #[.int .i64 11, .int .i64 t, .int .i64 a, .int .i64 b, .int .i64 n, .int .i64 g] 71)) (h.below HW) (Nat.le_trans hB HW.size) ht hT hf (by rw [HW.cell (by simpa using hm)]; exact h7))
  clear h
  go_enter Tryd.func75, Tryd.ntmps75
  go_wp2_with (go_at_call 99; fail)
  refine HC.out.mono ?_
  rintro e w1 ⟨rfl, h1, h2, h3, h4⟩
  clear HC
  go_wp2
  go_ret
  exact ⟨rfl, h1, (HW.mono hB).trans h2, fun j hj => by rw [h3 j hj]; exact HW.cell hm, frame_trans (frame_same HW) HW.size h4⟩

set_option maxHeartbeats 1000000 in
set_option maxRecDepth 20000 in
theorem doC_12w (m B x : Nat) (s : St) (vv tv lv : Value) (fv : List Value) (t b n g : Int) (w : World) (h : OwnRun w B m s vv tv lv fv) (hB : B ≤ w.heap.size) (hx : x < s.vars.length) (hv : s.vars[x].k ≠ 3) :
    Calls Tryd.prog 75 #[.pointer (some ⟨m, 0, none⟩), .agg #[.int .i64 12, .int .i64 t, .int .i64 x, .int .i64 b, .int .i64 n, .int .i64 g]] w fun e w' => e = .returned (.int .i64 2) ∧ MStep w w' B m (ownBlocks m vv tv lv fv) s := by
  have hm : m < w.heap.size := h.lt (by simp [ownBlocks])
  have HW : Below w.heap.size w (w.alloc (.cells #[.int .i64 12, .int .i64 t, .int .i64 x, .int .i64 b, .int .i64 n, .int .i64 g] 71)) := by go_grown
  have HC := hideK (field_wrong m B x s vv tv lv fv 12 t b n g (w.alloc (.cells #[.int .i64 12, .int .i64 t, .int .i64 x, .int .i64 b, .int .i64 n, .int .i64 g] 71)) (h.below HW) (Nat.le_trans hB HW.size) hx hv)
  clear h
  go_enter Tryd.func75, Tryd.ntmps75
  go_wp2_with (go_at_call 100; fail)
  refine HC.out.mono ?_
  rintro e w1 ⟨rfl, h1, h2, h3, h4⟩
  clear HC
  go_wp2
  go_ret
  exact ⟨rfl, h1, (HW.mono hB).trans h2, fun j hj => by rw [h3 j hj]; exact HW.cell hm, frame_trans (frame_same HW) HW.size h4⟩

set_option maxHeartbeats 1000000 in
set_option maxRecDepth 20000 in
theorem doC_13w (m B x : Nat) (s : St) (vv tv lv : Value) (fv : List Value) (t b n g : Int) (w : World) (h : OwnRun w B m s vv tv lv fv) (hB : B ≤ w.heap.size) (hx : x < s.vars.length) (hv : s.vars[x].k ≠ 3) :
    Calls Tryd.prog 75 #[.pointer (some ⟨m, 0, none⟩), .agg #[.int .i64 13, .int .i64 t, .int .i64 x, .int .i64 b, .int .i64 n, .int .i64 g]] w fun e w' => e = .returned (.int .i64 2) ∧ MStep w w' B m (ownBlocks m vv tv lv fv) s := by
  have hm : m < w.heap.size := h.lt (by simp [ownBlocks])
  have HW : Below w.heap.size w (w.alloc (.cells #[.int .i64 13, .int .i64 t, .int .i64 x, .int .i64 b, .int .i64 n, .int .i64 g] 71)) := by go_grown
  have HC := hideK (field_wrong m B x s vv tv lv fv 13 t b n g (w.alloc (.cells #[.int .i64 13, .int .i64 t, .int .i64 x, .int .i64 b, .int .i64 n, .int .i64 g] 71)) (h.below HW) (Nat.le_trans hB HW.size) hx hv)
  clear h
  go_enter Tryd.func75, Tryd.ntmps75
  go_wp2_with (go_at_call 100; fail)
  refine HC.out.mono ?_
  rintro e w1 ⟨rfl, h1, h2, h3, h4⟩
  clear HC
  go_wp2
  go_ret
  exact ⟨rfl, h1, (HW.mono hB).trans h2, fun j hj => by rw [h3 j hj]; exact HW.cell hm, frame_trans (frame_same HW) HW.size h4⟩

set_option maxHeartbeats 1000000 in
set_option maxRecDepth 20000 in
theorem doC_12 (m B x q f t : Nat) (s : St) (vv tv lv : Value) (fv : List Value) (b g : Int) (w : World) (h : OwnRun w B m s vv tv lv fv) (hB : B ≤ w.heap.size) (hx : x < s.vars.length) (hv : s.vars[x] = ⟨3, (q : Int)⟩) (hq : q < s.things.length) (hf : f < s.things[q].fs.length) (ht : t < s.vars.length) :
    Calls Tryd.prog 75 #[.pointer (some ⟨m, 0, none⟩), .agg #[.int .i64 12, .int .i64 t, .int .i64 x, .int .i64 b, .int .i64 f, .int .i64 g]] w fun e w' => e = .returned (.int .i64 0) ∧ MStep w w' B m (ownBlocks m vv tv lv fv) { s with vars := s.vars.set t s.things[q].fs[f] } := by
  have hm : m < w.heap.size := h.lt (by simp [ownBlocks])
  have HW : Below w.heap.size w (w.alloc (.cells #[.int .i64 12, .int .i64 t, .int .i64 x, .int .i64 b, .int .i64 f, .int .i64 g] 71)) := by go_grown
  have HC := hideK (field_get m B x q f t s vv tv lv fv b g (w.alloc (.cells #[.int .i64 12, .int .i64 t, .int .i64 x, .int .i64 b, .int .i64 f, .int .i64 g] 71)) (h.below HW) (Nat.le_trans hB HW.size) hx hv hq hf ht)
  clear h hv
  go_enter Tryd.func75, Tryd.ntmps75
  go_wp2_with (go_at_call 100; fail)
  refine HC.out.mono ?_
  rintro e w1 ⟨rfl, h1, h2, h3, h4⟩
  clear HC
  go_wp2
  go_ret
  exact ⟨rfl, h1, (HW.mono hB).trans h2, fun j hj => by rw [h3 j hj]; exact HW.cell hm, frame_trans (frame_same HW) HW.size h4⟩

set_option maxHeartbeats 1000000 in
set_option maxRecDepth 20000 in
theorem doC_13 (m B x q f y : Nat) (s : St) (vv tv lv : Value) (fv : List Value) (t g : Int) (w : World) (h : OwnRun w B m s vv tv lv fv) (hB : B ≤ w.heap.size) (hx : x < s.vars.length) (hv : s.vars[x] = ⟨3, (q : Int)⟩) (hq : q < s.things.length) (hf : f < s.things[q].fs.length) (hy : y < s.vars.length) :
    Calls Tryd.prog 75 #[.pointer (some ⟨m, 0, none⟩), .agg #[.int .i64 13, .int .i64 t, .int .i64 x, .int .i64 y, .int .i64 f, .int .i64 g]] w fun e w' => e = .returned (.int .i64 0) ∧ MStep w w' B m (ownBlocks m vv tv lv fv) (putField s q f s.vars[y]) := by
  have hm : m < w.heap.size := h.lt (by simp [ownBlocks])
  have HW : Below w.heap.size w (w.alloc (.cells #[.int .i64 13, .int .i64 t, .int .i64 x, .int .i64 y, .int .i64 f, .int .i64 g] 71)) := by go_grown
  have HC := hideK (field_put m B x q f y s vv tv lv fv t g (w.alloc (.cells #[.int .i64 13, .int .i64 t, .int .i64 x, .int .i64 y, .int .i64 f, .int .i64 g] 71)) (h.below HW) (Nat.le_trans hB HW.size) hx hv hq hf hy)
  clear h hv
  go_enter Tryd.func75, Tryd.ntmps75
  go_wp2_with (go_at_call 100; fail)
  refine HC.out.mono ?_
  rintro e w1 ⟨rfl, h1, h2, h3, h4⟩
  clear HC
  go_wp2
  go_ret
  exact ⟨rfl, h1, (HW.mono hB).trans h2, fun j hj => by rw [h3 j hj]; exact HW.cell hm, frame_trans (frame_same HW) HW.size h4⟩
end Go.Proofs.YtmapdpcfanecdaaDoor

namespace Go.Proofs.YtmapdpcfanecdaaDoor
set_option linter.unusedVariables false
set_option linter.unusedSimpArgs false

def effSt (F : Int) (ins : List Int) (r : St) (i : Ins) (a b : Val) : St :=
  let v := makes r ins i a b
  let r1 : St := if i.k = 11 then { r with things := r.things ++ [⟨r.at_, List.replicate F.toNat ⟨0, 0⟩⟩] } else if i.k = 13 then putField r a.n i.n b
    else if i.k = 14 then { r with taken := w64 (r.taken + 1) } else if i.k = 18 then { r with lines := r.lines ++ [showB a] } else r
  if nTo i.k then putVar r1 i.to v else r1
def nextAt (r : St) (i : Ins) (a : Val) : Int := if i.k = 16 ∨ (i.k = 15 ∧ cnt a = true) then i.g else r.at_ + 1
/-- How an instruction ends a run, and what it makes of it. -/
def endI (r : St) (i : Ins) : Int := endOf r.things.length i (aOf r i) (bOf r i)
def doneI (F : Int) (ins : List Int) (r : St) (i : Ins) : St := if endI r i = 0 then effSt F ins r i (aOf r i) (bOf r i) else r
theorem stepSt_eq (F : Int) (c : List Ins) (ins : List Int) (r : St) : stepSt F c ins r = if r.fin ≠ 0 then r else if r.at_ = c.length then { r with fin := 1 } else if endI r (insAt c r.at_) ≠ 0 then { r with fin := endI r (insAt c r.at_) } else { effSt F ins r (insAt c r.at_) (aOf r (insAt c r.at_)) (bOf r (insAt c r.at_)) with at_ := nextAt r (insAt c r.at_) (aOf r (insAt c r.at_)) } := rfl

theorem effSt_at (F : Int) (ins : List Int) (r : St) (i : Ins) (a b : Val) : (effSt F ins r i a b).at_ = r.at_ := by
  have h : ∀ q : St, q.at_ = r.at_ → (if nTo i.k then putVar q i.to (makes r ins i a b) else q).at_ = r.at_ := fun q h => by split <;> exact h
  unfold effSt
  simp only
  apply h
  split
  · rfl
  split
  · rfl
  split
  · rfl
  split <;> rfl
theorem effSt_fin (F : Int) (ins : List Int) (r : St) (i : Ins) (a b : Val) : (effSt F ins r i a b).fin = r.fin := by
  have h : ∀ q : St, q.fin = r.fin → (if nTo i.k then putVar q i.to (makes r ins i a b) else q).fin = r.fin := fun q h => by split <;> exact h
  unfold effSt
  simp only
  apply h
  split
  · rfl
  split
  · rfl
  split
  · rfl
  split <;> rfl

section
variable {F : Int} {ins : List Int} {r : St} {t a b n g : Int} {A C : Val}
theorem eff_1 : effSt F ins r ⟨1, t, a, b, n, g⟩ A C = { r with vars := r.vars.set t.toNat ⟨1, n⟩ } := rfl
theorem eff_2 : effSt F ins r ⟨2, t, a, b, n, g⟩ A C = { r with vars := r.vars.set t.toNat ⟨2, n⟩ } := rfl
theorem eff_3 : effSt F ins r ⟨3, t, a, b, n, g⟩ A C = { r with vars := r.vars.set t.toNat ⟨0, 0⟩ } := rfl
theorem eff_4 : effSt F ins r ⟨4, t, a, b, n, g⟩ A C = { r with vars := r.vars.set t.toNat A } := rfl
theorem eff_5 : effSt F ins r ⟨5, t, a, b, n, g⟩ A C = { r with vars := r.vars.set t.toNat ⟨1, wr (A.n + C.n)⟩ } := rfl
theorem eff_6 : effSt F ins r ⟨6, t, a, b, n, g⟩ A C = { r with vars := r.vars.set t.toNat ⟨1, wr (A.n - C.n)⟩ } := rfl
theorem eff_7 : effSt F ins r ⟨7, t, a, b, n, g⟩ A C = { r with vars := r.vars.set t.toNat ⟨1, wr (A.n * C.n)⟩ } := rfl
theorem eff_8 : effSt F ins r ⟨8, t, a, b, n, g⟩ A C = { r with vars := r.vars.set t.toNat (truV (decide (A.n < C.n))) } := rfl
theorem eff_9 : effSt F ins r ⟨9, t, a, b, n, g⟩ A C = { r with vars := r.vars.set t.toNat (truV (decide (A.k = C.k) && decide (A.n = C.n))) } := rfl
theorem eff_10 : effSt F ins r ⟨10, t, a, b, n, g⟩ A C = { r with vars := r.vars.set t.toNat (truV (!cnt A)) } := rfl
theorem eff_11 : effSt F ins r ⟨11, t, a, b, n, g⟩ A C = { r with vars := r.vars.set t.toNat ⟨3, r.things.length⟩, things := r.things ++ [⟨r.at_, List.replicate F.toNat ⟨0, 0⟩⟩] } := rfl
theorem eff_12 : effSt F ins r ⟨12, t, a, b, n, g⟩ A C = { r with vars := r.vars.set t.toNat (fieldAt r A.n n) } := rfl
theorem eff_13 : effSt F ins r ⟨13, t, a, b, n, g⟩ A C = putField r A.n n C := rfl
theorem eff_14 : effSt F ins r ⟨14, t, a, b, n, g⟩ A C = { r with vars := r.vars.set t.toNat ⟨1, if r.taken < ins.length then clamp n (ins.getD r.taken.toNat 0) else 0⟩, taken := w64 (r.taken + 1) } := rfl
theorem eff_18 : effSt F ins r ⟨18, t, a, b, n, g⟩ A C = { r with lines := r.lines ++ [showB A] } := rfl
theorem eff_flat (k : Int) (h : k = 15 ∨ k = 16 ∨ k = 17 ∨ k = 19) : effSt F ins r ⟨k, t, a, b, n, g⟩ A C = r := by rcases h with rfl | rfl | rfl | rfl <;> rfl
theorem end_none (T : Nat) (k : Int) (h : k = 1 ∨ k = 2 ∨ k = 3 ∨ k = 4 ∨ k = 9 ∨ k = 10 ∨ k = 14 ∨ k = 15 ∨ k = 16 ∨ k = 18) : endOf T ⟨k, t, a, b, n, g⟩ A C = 0 := by rcases h with rfl | rfl | rfl | rfl | rfl | rfl | rfl | rfl | rfl | rfl <;> rfl
theorem end_17 (T : Nat) : endOf T ⟨17, t, a, b, n, g⟩ A C = if cnt A = true then 0 else 3 := by cases h : cnt A <;> simp [endOf, btw, h]
theorem end_19 (T : Nat) : endOf T ⟨19, t, a, b, n, g⟩ A C = 1 := rfl
theorem end_11 (T : Nat) : endOf T ⟨11, t, a, b, n, g⟩ A C = if T = 100 then 5 else 0 := by by_cases h : T = 100 <;> simp [endOf, btw, h]
theorem end_12 (T : Nat) (k : Int) (h : k = 12 ∨ k = 13) : endOf T ⟨k, t, a, b, n, g⟩ A C = if A.k = 3 then 0 else 2 := by rcases h with rfl | rfl <;> by_cases h : A.k = 3 <;> simp [endOf, btw, h]
theorem end_5 (T : Nat) (k : Int) (h : k = 5 ∨ k = 6 ∨ k = 7 ∨ k = 8) : endOf T ⟨k, t, a, b, n, g⟩ A C = if (decide (A.k ≠ 1) || decide (C.k ≠ 1)) = true then 2 else 0 := by
  rcases h with rfl | rfl | rfl | rfl <;> by_cases h1 : A.k = 1 <;> by_cases h2 : C.k = 1 <;> simp [endOf, btw, h1, h2]
end
end Go.Proofs.YtmapdpcfanecdaaDoor
