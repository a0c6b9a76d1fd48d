/- What is known within the document's own step: the copied run, the program, the instruction, two values. -/
import Derived.Test.YtmapdpcfanecdaaDoorKlawrrp09
import Derived.Test.YtmapdpcfanecdaaDoorKlawrrp11
import Derived.Test.YtmapdpcfanecdaaDoorKlawrrp26
import Derived.Test.YtmapdpcfanecdaaDoorKlawrrp20
import Derived.Test.YtmapdpcfanecdaaDoorKlawrrp19
namespace Go.Proofs.YtmapdpcfanecdaaDoor
set_option linter.unusedVariables false
set_option linter.unusedSimpArgs false
open Go.RowKit
attribute [local go_sem ↓] Go.wp_at_zero Go.wp_at_succ

set_option maxHeartbeats 2000000 in
set_option maxRecDepth 20000 in
theorem next_flat (m B : Nat) (s : St) (vv tv lv : Value) (fv : List Value) (k t a b n g : Int) (w : World) (h : OwnRun w B m s vv tv lv fv) (h15 : k ≠ 15) (h16 : k ≠ 16) (h0 : 0 ≤ s.at_) (h60 : s.at_ ≤ 60) :
    Calls Tryd.prog 76 #[.pointer (some ⟨m, 0, none⟩), .agg #[.int .i64 k, .int .i64 t, .int .i64 a, .int .i64 b, .int .i64 n, .int .i64 g]] w fun e w' => e = .returned (.int .i64 (s.at_ + 1)) ∧ Below w.heap.size w w' := by
  have hm : m < w.heap.size := h.lt (by simp [ownBlocks])
  have q0 := h.at_
  have b15 : (k == 15) = false := by simpa using h15
  have b16 : (k == 16) = false := by simpa using h16
  have HW : Below w.heap.size w (w.alloc (.cells #[.int .i64 k, .int .i64 t, .int .i64 a, .int .i64 b, .int .i64 n, .int .i64 g] 71)) := by go_grown
  have q0' : (w.alloc (.cells #[.int .i64 k, .int .i64 t, .int .i64 a, .int .i64 b, .int .i64 n, .int .i64 g] 71)).cell? ⟨m, 0, none⟩ = some (.int .i64 s.at_) := by rw [HW.cell (by simpa using hm)]; exact q0
  have x0 : (w.alloc (.cells #[.int .i64 k, .int .i64 t, .int .i64 a, .int .i64 b, .int .i64 n, .int .i64 g] 71)).cell? ⟨w.heap.size, 0, none⟩ = some (.int .i64 k) := by simp [go_sem]
  clear h
  go_enter Tryd.func76, Tryd.ntmps76
  go_wp2
  go_quiet (fail)
  go_wp2
  go_ret
  exact ⟨rfl, HW.trans (below_drewN (Below.refl _ _) _)⟩
set_option maxHeartbeats 2000000 in
set_option maxRecDepth 20000 in
theorem next_goto (m : Nat) (t a b n g : Int) (w : World) :
    Calls Tryd.prog 76 #[.pointer (some ⟨m, 0, none⟩), .agg #[.int .i64 16, .int .i64 t, .int .i64 a, .int .i64 b, .int .i64 n, .int .i64 g]] w fun e w' => e = .returned (.int .i64 g) ∧ Below w.heap.size w w' := by
  have HW : Below w.heap.size w (w.alloc (.cells #[.int .i64 16, .int .i64 t, .int .i64 a, .int .i64 b, .int .i64 n, .int .i64 g] 71)) := by go_grown
  have x0 : (w.alloc (.cells #[.int .i64 16, .int .i64 t, .int .i64 a, .int .i64 b, .int .i64 n, .int .i64 g] 71)).cell? ⟨w.heap.size, 0, none⟩ = some (.int .i64 16) := by simp [go_sem]
  go_enter Tryd.func76, Tryd.ntmps76
  go_wp2
  go_quiet (fail)
  go_wp2
  go_ret
  exact ⟨rfl, HW.trans (below_drewN (Below.refl _ _) _)⟩
set_option maxHeartbeats 2000000 in
set_option maxRecDepth 20000 in
theorem next_if (m B x : Nat) (s : St) (vv tv lv : Value) (fv : List Value) (t b n g : Int) (w : World) (h : OwnRun w B m s vv tv lv fv) (hx : x < s.vars.length) (T : Nat) (hv : okVal T s.vars[x]) (h0 : 0 ≤ s.at_) (h60 : s.at_ ≤ 60) :
    Calls Tryd.prog 76 #[.pointer (some ⟨m, 0, none⟩), .agg #[.int .i64 15, .int .i64 t, .int .i64 x, .int .i64 b, .int .i64 n, .int .i64 g]] w fun e w' => e = .returned (.int .i64 (bif cnt s.vars[x] then g else s.at_ + 1)) ∧ Below w.heap.size w w' := by
  have hm : m < w.heap.size := h.lt (by simp [ownBlocks])
  have q0 := h.at_
  have q1 := h.vars_
  obtain ⟨gb, cap, rfl, hg1, hg2, hcell, hfz⟩ := h.form (by omega)
  obtain ⟨kx0, kx1⟩ := hcell x hx
  have nx0 : (0 : Int) ≤ (x : Int) := by omega
  have nx1 : (x : Int) < (s.vars.length : Int) := by omega
  have HW : Below w.heap.size w (w.alloc (.cells #[.int .i64 15, .int .i64 t, .int .i64 x, .int .i64 b, .int .i64 n, .int .i64 g] 71)) := by go_grown
  have KZ : ∀ wx, Below (w.heap.size + 1) (w.alloc (.cells #[.int .i64 15, .int .i64 t, .int .i64 x, .int .i64 b, .int .i64 n, .int .i64 g] 71)) wx → wx.cell? ⟨m, 1, none⟩ = some (.slice (some ⟨gb, 0, none⟩) s.vars.length cap) ∧ wx.cell? ⟨w.heap.size, 0, none⟩ = some (.int .i64 15) ∧ wx.cell? ⟨w.heap.size, 2, none⟩ = some (.int .i64 x) ∧ wx.cell? ⟨gb, x * 2, none⟩ = some (.int .i64 s.vars[x].k) ∧ wx.cell? ⟨gb, x * 2 + 1, none⟩ = some (.int .i64 s.vars[x].n) := by
    intro wx hb
    rw [hb.cell (by simp; omega), hb.cell (by simp), hb.cell (by simp), hb.cell (by simp; omega), hb.cell (by simp; omega)]
    simp [go_sem, hm, q1, hg2, kx0, kx1]
  have q0' : (w.alloc (.cells #[.int .i64 15, .int .i64 t, .int .i64 x, .int .i64 b, .int .i64 n, .int .i64 g] 71)).cell? ⟨m, 0, none⟩ = some (.int .i64 s.at_) := by rw [HW.cell (by simpa using hm)]; exact q0
  have HC := hideK (fun wx => counts_any T s.vars[x] wx hv)
  clear h hcell hfz q1
  generalize cnt s.vars[x] = cv at *
  go_enter Tryd.func76, Tryd.ntmps76
  go_wp2
  refine wp_region_z (S := (fun wx => wx.cell? ⟨m, 1, none⟩ = some (.slice (some ⟨gb, 0, none⟩) s.vars.length cap) ∧ wx.cell? ⟨w.heap.size, 0, none⟩ = some (.int .i64 15) ∧ wx.cell? ⟨w.heap.size, 2, none⟩ = some (.int .i64 x) ∧ wx.cell? ⟨gb, x * 2, none⟩ = some (.int .i64 s.vars[x].k) ∧ wx.cell? ⟨gb, x * 2 + 1, none⟩ = some (.int .i64 s.vars[x].n))) [] (by kernel_rfl) (KZ _ (Below.refl _ _).drew) (fun hHeld => ?_)
  refine tkZ 0 ?_ ?_ ?_
  rotate_left
  · exact rn
  (try simp only [Act.put, List.getElem_toArray, List.getElem_cons_zero, List.getElem_cons_succ, List.setIfInBounds_toArray, List.set_cons_zero, List.set_cons_succ])
  refine tkZ 1 ?_ ?_ ?_
  rotate_left
  · exact rn
  (try simp only [Act.put, List.getElem_toArray, List.getElem_cons_zero, List.getElem_cons_succ, List.setIfInBounds_toArray, List.set_cons_zero, List.set_cons_succ])
  refine tkZ 2 ?_ ?_ ?_
  rotate_left
  · exact rn
  (try simp only [Act.put, List.getElem_toArray, List.getElem_cons_zero, List.getElem_cons_succ, List.setIfInBounds_toArray, List.set_cons_zero, List.set_cons_succ])
  refine tkZ 3 ?_ ?_ ?_
  rotate_left
  · exact rn
  (try simp only [Act.put, List.getElem_toArray, List.getElem_cons_zero, List.getElem_cons_succ, List.setIfInBounds_toArray, List.set_cons_zero, List.set_cons_succ])
  refine tkZ 4 ?_ ?_ ?_
  rotate_left
  · exact rn
  (try simp only [Act.put, List.getElem_toArray, List.getElem_cons_zero, List.getElem_cons_succ, List.setIfInBounds_toArray, List.set_cons_zero, List.set_cons_succ])
  refine tkZ 5 ?_ ?_ ?_
  rotate_left
  · exact rn
  (try simp only [Act.put, List.getElem_toArray, List.getElem_cons_zero, List.getElem_cons_succ, List.setIfInBounds_toArray, List.set_cons_zero, List.set_cons_succ])
  refine tkZ 6 ?_ ?_ ?_
  rotate_left
  · exact rn
  (try simp only [Act.put, List.getElem_toArray, List.getElem_cons_zero, List.getElem_cons_succ, List.setIfInBounds_toArray, List.set_cons_zero, List.set_cons_succ])
  refine tkZ 7 ?_ ?_ ?_
  rotate_left
  · exact rn
  (try simp only [Act.put, List.getElem_toArray, List.getElem_cons_zero, List.getElem_cons_succ, List.setIfInBounds_toArray, List.set_cons_zero, List.set_cons_succ])
  refine tkZ 8 ?_ ?_ ?_
  rotate_left
  · exact rn
  (try simp only [Act.put, List.getElem_toArray, List.getElem_cons_zero, List.getElem_cons_succ, List.setIfInBounds_toArray, List.set_cons_zero, List.set_cons_succ])
  refine tkZ 9 ?_ ?_ ?_
  rotate_left
  · exact rn
  (try simp only [Act.put, List.getElem_toArray, List.getElem_cons_zero, List.getElem_cons_succ, List.setIfInBounds_toArray, List.set_cons_zero, List.set_cons_succ])
  refine tkZ 10 ?_ ?_ ?_
  rotate_left
  · exact rn
  (try simp only [Act.put, List.getElem_toArray, List.getElem_cons_zero, List.getElem_cons_succ, List.setIfInBounds_toArray, List.set_cons_zero, List.set_cons_succ])
  refine tkZ 11 ?_ ?_ ?_
  rotate_left
  · exact rn
  (try simp only [Act.put, List.getElem_toArray, List.getElem_cons_zero, List.getElem_cons_succ, List.setIfInBounds_toArray, List.set_cons_zero, List.set_cons_succ])
  refine tkZ 12 ?_ ?_ ?_
  rotate_left
  · exact rn
  (try simp only [Act.put, List.getElem_toArray, List.getElem_cons_zero, List.getElem_cons_succ, List.setIfInBounds_toArray, List.set_cons_zero, List.set_cons_succ])
  refine tkZ 13 ?_ ?_ ?_
  rotate_left
  · exact rn
  (try simp only [Act.put, List.getElem_toArray, List.getElem_cons_zero, List.getElem_cons_succ, List.setIfInBounds_toArray, List.set_cons_zero, List.set_cons_succ])
  refine tkZ 14 ?_ ?_ ?_
  rotate_left
  · exact rn
  (try simp only [Act.put, List.getElem_toArray, List.getElem_cons_zero, List.getElem_cons_succ, List.setIfInBounds_toArray, List.set_cons_zero, List.set_cons_succ])
  refine tkZ 15 ?_ ?_ ?_
  rotate_left
  · exact rn
  (try simp only [Act.put, List.getElem_toArray, List.getElem_cons_zero, List.getElem_cons_succ, List.setIfInBounds_toArray, List.set_cons_zero, List.set_cons_succ])
  refine tkZ 16 ?_ ?_ ?_
  rotate_left
  · exact rn
  (try simp only [Act.put, List.getElem_toArray, List.getElem_cons_zero, List.getElem_cons_succ, List.setIfInBounds_toArray, List.set_cons_zero, List.set_cons_succ])
  refine wpAnyZ_one (i := 17) rfl (by kernel_rfl) (fun K hK => ?_)
  go_simp
  go_at_call 98
  refine (HC.out _).mono ?_
  rintro e w1 ⟨rfl, hb1⟩
  have HB1 : Below (w.heap.size + 1) (w.alloc (.cells #[.int .i64 15, .int .i64 t, .int .i64 x, .int .i64 b, .int .i64 n, .int .i64 g] 71)) w1 := Below.trans (Below.refl _ _).drew (Below.mono hb1 (by simp))
  go_wp2_with fail
  refine hK.out _ _ (KZ _ HB1) (fun hHeld => ?_)
  clear hK K
  (try simp only [Act.put, List.getElem_toArray, List.getElem_cons_zero, List.getElem_cons_succ, List.setIfInBounds_toArray, List.set_cons_zero, List.set_cons_succ])
  refine tkZ 18 ?_ ?_ ?_
  rotate_left
  · exact rn
  (try simp only [Act.put, List.getElem_toArray, List.getElem_cons_zero, List.getElem_cons_succ, List.setIfInBounds_toArray, List.set_cons_zero, List.set_cons_succ])
  refine tkZ 19 ?_ ?_ ?_
  rotate_left
  · exact rn
  (try simp only [Act.put, List.getElem_toArray, List.getElem_cons_zero, List.getElem_cons_succ, List.setIfInBounds_toArray, List.set_cons_zero, List.set_cons_succ])
  refine wpAnyZ_done (by kernel_rfl) ?_ _
  have q0'' : w1.cell? ⟨m, 0, none⟩ = some (.int .i64 s.at_) := by rw [HB1.cell (by simp; omega)]; exact q0'
  have x5 : w1.cell? ⟨w.heap.size, 5, none⟩ = some (.int .i64 g) := by rw [HB1.cell (by simp)]; simp [go_sem]
  have HF : Below w.heap.size w w1 := HW.trans (HB1.mono (Nat.le_succ _))
  cases cv
  all_goals
    go_wp2
    go_ret
    exact ⟨rfl, HF⟩
end Go.Proofs.YtmapdpcfanecdaaDoor

namespace Go.Proofs.YtmapdpcfanecdaaDoor
set_option linter.unusedVariables false
set_option linter.unusedSimpArgs false
open Go.RowKit
attribute [local go_sem ↓] Go.wp_at_zero Go.wp_at_succ

theorem next_any (V : Int) (f : Nat) (c : List Ins) (s : St) (hp : ProgOk V f c) (hr : RunOk V f c s) (i : Ins) (hi : ckOne V f c.length i = 0) (s' : St) (ha : s'.at_ = s.at_) (hvs : i.k = 15 → s'.vars = s.vars) (m B : Nat) (vv tv lv : Value) (fv : List Value) (w : World) (h : OwnRun w B m s' vv tv lv fv) :
    Calls Tryd.prog 76 #[.pointer (some ⟨m, 0, none⟩), .agg #[.int .i64 i.k, .int .i64 i.to, .int .i64 i.a, .int .i64 i.b, .int .i64 i.n, .int .i64 i.g]] w fun e w' => e = .returned (.int .i64 (nextAt s i (aOf s i))) ∧ Below w.heap.size w w' := by
  have hA := aOf_ok hr hi
  have h0 := hr.at0
  have h1 := hr.at1
  have hl := hp.len
  obtain ⟨p1, p2, p3, p4, p5, p6, p7, p8, p9⟩ := ckOne_parts hi
  by_cases k16 : i.k = 16
  · have e : nextAt s i (aOf s i) = i.g := by unfold nextAt; rw [if_pos (.inl k16)]
    rw [e, k16]
    exact next_goto m _ _ _ _ _ w
  by_cases k15 : i.k = 15
  · have hn : nA i.k = true := by rw [k15]; rfl
    obtain ⟨x, hx⟩ := Int.eq_ofNat_of_zero_le (p3 hn).1
    have hv := hr.vars
    have hxl : x < s.vars.length := by have := (p3 hn).2; omega
    have hvx := hvs k15
    have hxl' : x < s'.vars.length := by rw [hvx]; exact hxl
    have ea : aOf s i = s.vars[x] := by unfold aOf; rw [hn, if_pos rfl, hx]; exact varAt_eq hxl
    have ev : s'.vars[x] = s.vars[x] := by simp only [hvx]
    rw [ea] at hA ⊢
    have e : nextAt s i s.vars[x] = bif cnt s.vars[x] then i.g else s.at_ + 1 := by
      unfold nextAt
      cases hc : cnt s.vars[x] <;> simp [k15, k16, hc]
    rw [e, k15, hx]
    have := next_if m B x s' vv tv lv fv i.to i.b i.n i.g w h hxl' _ (by rw [ev]; exact hA) (by omega) (by omega)
    rw [ev, ha] at this
    exact this
  · have e : nextAt s i (aOf s i) = s.at_ + 1 := by unfold nextAt; rw [if_neg (by omega)]
    rw [e, ← ha]
    exact next_flat m B s' vv tv lv fv _ _ _ _ _ _ w h k15 k16 (by omega) (by omega)

theorem OwnRun.withAt {w : World} {B m : Nat} {s : St} {vv tv lv : Value} {fv : List Value} (h : OwnRun w B m s vv tv lv fv) (x : Int) : OwnRun (w.setCell ⟨m, 0, none⟩ (.int .i64 x)) B m { s with at_ := x } vv tv lv fv := by
  simpa using h.setM 0 x (by omega)
theorem OwnRun.withFin {w : World} {B m : Nat} {s : St} {vv tv lv : Value} {fv : List Value} (h : OwnRun w B m s vv tv lv fv) (x : Int) : OwnRun (w.setCell ⟨m, 5, none⟩ (.int .i64 x)) B m { s with fin := x } vv tv lv fv := by
  simpa using h.setM 5 x (by omega)
theorem eff_vars15 (F : Int) (ins : List Int) (s : St) (i : Ins) (A C : Val) (h : i.k = 15) : effSt F ins s i A C = s := by
  obtain ⟨k, t, a, b, n, g⟩ := i
  simp only at h
  subst h
  rfl
end Go.Proofs.YtmapdpcfanecdaaDoor

namespace Go.Proofs.YtmapdpcfanecdaaDoor
set_option linter.unusedVariables false
set_option linter.unusedSimpArgs false
open Go.RowKit

structure SInv (w wx : World) (r : St) (v f : Int) (s : Option Addr) (n cap bi : Nat) (i : Ins) (A C : Val) (vv tv lv : Value) (fv : List Value) : Prop where
  own : OwnRun wx (w.heap.size + 1) (w.heap.size + 1) r vv tv lv fv
  prg : P3 wx w.heap.size v f s n cap
  res : R6 wx (w.heap.size + 1 + 1) (.int .i64 0) (.slice none 0 0) (.slice none 0 0) (.int .i64 0) (.slice none 0 0) (.int .i64 0)
  low : Below w.heap.size w wx
  ins : R6 wx bi (.int .i64 i.k) (.int .i64 i.to) (.int .i64 i.a) (.int .i64 i.b) (.int .i64 i.n) (.int .i64 i.g)
  va : VAt wx (bi + 1) A
  vb : VAt wx (bi + 1 + 1) C
  lt : ∀ k, some k ∈ ownBlocks (w.heap.size + 1) vv tv lv fv → k < bi
  biz : w.heap.size + 1 + 1 < bi
  nres : some (w.heap.size + 1 + 1) ∉ ownBlocks (w.heap.size + 1) vv tv lv fv
section
variable {w wx wy : World} {r r' : St} {v f : Int} {s : Option Addr} {n cap bi : Nat} {i : Ins} {A C : Val} {vv tv lv : Value} {fv : List Value}
theorem P3.far {w : World} {b : Nat} {V F : Int} {s : Option Addr} {n cap : Nat} (h : P3 w b V F s n cap) {a : Addr} (ha : a.block ≠ b) (y : Value) : P3 (w.setCell a y) b V F s n cap := by
  obtain ⟨⟨h0, h1, h2⟩, hz⟩ := h
  refine ⟨⟨?_, ?_, ?_⟩, by simpa [World.setCell] using hz⟩
  · rw [World.cell?_setCell_far _ _ _ _ ha]; exact h0
  · rw [World.cell?_setCell_far _ _ _ _ ha]; exact h1
  · rw [World.cell?_setCell_far _ _ _ _ ha]; exact h2
theorem OwnRun.far {w : World} {B m : Nat} {s : St} {vv tv lv : Value} {fv : List Value} (h : OwnRun w B m s vv tv lv fv) {a : Addr} (ha : ∀ k, some k ∈ ownBlocks m vv tv lv fv → k ≠ a.block) (y : Value) : OwnRun (w.setCell a y) B m s vv tv lv fv := h.same fun k hk => Below.heap_setCell _ _ _ _ (ha k hk)
theorem SInv.new (own : OwnRun wx (w.heap.size + 1) (w.heap.size + 1) r vv tv lv fv) (prg : P3 wx w.heap.size v f s n cap) (res : R6 wx (w.heap.size + 1 + 1) (.int .i64 0) (.slice none 0 0) (.slice none 0 0) (.int .i64 0) (.slice none 0 0) (.int .i64 0)) (low : Below w.heap.size w wx) (hz : w.heap.size + 1 + 1 + 1 ≤ wx.heap.size) (nres : some (w.heap.size + 1 + 1) ∉ ownBlocks (w.heap.size + 1) vv tv lv fv) (i : Ins) :
    SInv w (((wx.alloc (.cells #[.int .i64 i.k, .int .i64 i.to, .int .i64 i.a, .int .i64 i.b, .int .i64 i.n, .int .i64 i.g] 71)).alloc (.cells #[.int .i64 0, .int .i64 0] 94)).alloc (.cells #[.int .i64 0, .int .i64 0] 94)) r v f s n cap wx.heap.size i ⟨0, 0⟩ ⟨0, 0⟩ vv tv lv fv := by
  have hb : Below wx.heap.size wx (((wx.alloc (.cells #[.int .i64 i.k, .int .i64 i.to, .int .i64 i.a, .int .i64 i.b, .int .i64 i.n, .int .i64 i.g] 71)).alloc (.cells #[.int .i64 0, .int .i64 0] 94)).alloc (.cells #[.int .i64 0, .int .i64 0] 94)) := by go_grown
  have h1 := (R6.new wx 71 (.int .i64 i.k) (.int .i64 i.to) (.int .i64 i.a) (.int .i64 i.b) (.int .i64 i.n) (.int .i64 i.g)).call (w' := ((wx.alloc (.cells #[.int .i64 i.k, .int .i64 i.to, .int .i64 i.a, .int .i64 i.b, .int .i64 i.n, .int .i64 i.g] 71)).alloc (.cells #[.int .i64 0, .int .i64 0] 94)).alloc (.cells #[.int .i64 0, .int .i64 0] 94)) (by go_grown)
  have h2 := (VAt.new (wx.alloc (.cells #[.int .i64 i.k, .int .i64 i.to, .int .i64 i.a, .int .i64 i.b, .int .i64 i.n, .int .i64 i.g] 71)) ⟨0, 0⟩).call (w' := ((wx.alloc (.cells #[.int .i64 i.k, .int .i64 i.to, .int .i64 i.a, .int .i64 i.b, .int .i64 i.n, .int .i64 i.g] 71)).alloc (.cells #[.int .i64 0, .int .i64 0] 94)).alloc (.cells #[.int .i64 0, .int .i64 0] 94)) (by go_grown)
  have h3 := VAt.new ((wx.alloc (.cells #[.int .i64 i.k, .int .i64 i.to, .int .i64 i.a, .int .i64 i.b, .int .i64 i.n, .int .i64 i.g] 71)).alloc (.cells #[.int .i64 0, .int .i64 0] 94)) ⟨0, 0⟩
  rw [World.size_alloc] at h2
  rw [World.size_alloc, World.size_alloc] at h3
  exact ⟨own.below hb, prg.call hb, res.call hb, low.trans (hb.mono low.size), h1, h2, h3, fun k hk => own.lt hk, by omega, nres⟩
theorem SInv.call (h : SInv w wx r v f s n cap bi i A C vv tv lv fv) (hb : Below wx.heap.size wx wy) : SInv w wy r v f s n cap bi i A C vv tv lv fv :=
  ⟨h.own.below hb, h.prg.call hb, h.res.call hb, h.low.trans (hb.mono h.low.size), h.ins.call hb, h.va.call hb, h.vb.call hb, h.lt, h.biz, h.nres⟩
/-- A store into a block from the instruction's on, that is none of the three. -/
theorem SInv.far (h : SInv w wx r v f s n cap bi i A C vv tv lv fv) {a : Addr} (ha : bi + 1 + 1 < a.block) (y : Value) : SInv w (wx.setCell a y) r v f s n cap bi i A C vv tv lv fv := by
  have hb := h.biz
  exact ⟨h.own.far (fun k hk => by have := h.lt k hk; omega) y, h.prg.far (by omega) y, h.res.far (by omega) y, h.low.setCell (by omega) y, h.ins.far (by omega) y, h.va.set (by omega) y, h.vb.set (by omega) y, h.lt, h.biz, h.nres⟩
theorem SInv.putA (h : SInv w wx r v f s n cap bi i A C vv tv lv fv) (u : Val) : SInv w ((wx.setCell ⟨bi + 1, 0, none⟩ (.int .i64 u.k)).setCell ⟨bi + 1, 1, none⟩ (.int .i64 u.n)) r v f s n cap bi i u C vv tv lv fv := by
  have hb := h.biz
  have hl : ∀ k, some k ∈ ownBlocks (w.heap.size + 1) vv tv lv fv → k ≠ bi + 1 := fun k hk => by have := h.lt k hk; omega
  exact ⟨(h.own.far (a := ⟨bi + 1, 0, none⟩) hl _).far (a := ⟨bi + 1, 1, none⟩) hl _, (h.prg.far (a := ⟨bi + 1, 0, none⟩) (by simp only; omega) _).far (a := ⟨bi + 1, 1, none⟩) (by simp only; omega) _, (h.res.far (a := ⟨bi + 1, 0, none⟩) (by simp only; omega) _).far (a := ⟨bi + 1, 1, none⟩) (by simp only; omega) _, (h.low.setCell (by simp only; omega) _).setCell (by simp only; omega) _, (h.ins.far (a := ⟨bi + 1, 0, none⟩) (by simp) _).far (a := ⟨bi + 1, 1, none⟩) (by simp) _, h.va.put u, (h.vb.set (a := ⟨bi + 1, 0, none⟩) (by simp) _).set (a := ⟨bi + 1, 1, none⟩) (by simp) _, h.lt, h.biz, h.nres⟩
theorem SInv.putB (h : SInv w wx r v f s n cap bi i A C vv tv lv fv) (u : Val) : SInv w ((wx.setCell ⟨bi + 1 + 1, 0, none⟩ (.int .i64 u.k)).setCell ⟨bi + 1 + 1, 1, none⟩ (.int .i64 u.n)) r v f s n cap bi i A u vv tv lv fv := by
  have hb := h.biz
  have hl : ∀ k, some k ∈ ownBlocks (w.heap.size + 1) vv tv lv fv → k ≠ bi + 1 + 1 := fun k hk => by have := h.lt k hk; omega
  exact ⟨(h.own.far (a := ⟨bi + 1 + 1, 0, none⟩) hl _).far (a := ⟨bi + 1 + 1, 1, none⟩) hl _, (h.prg.far (a := ⟨bi + 1 + 1, 0, none⟩) (by simp only; omega) _).far (a := ⟨bi + 1 + 1, 1, none⟩) (by simp only; omega) _, (h.res.far (a := ⟨bi + 1 + 1, 0, none⟩) (by simp only; omega) _).far (a := ⟨bi + 1 + 1, 1, none⟩) (by simp only; omega) _, (h.low.setCell (by simp only; omega) _).setCell (by simp only; omega) _, (h.ins.far (a := ⟨bi + 1 + 1, 0, none⟩) (by simp only; omega) _).far (a := ⟨bi + 1 + 1, 1, none⟩) (by simp only; omega) _, (h.va.set (a := ⟨bi + 1 + 1, 0, none⟩) (by simp) _).set (a := ⟨bi + 1 + 1, 1, none⟩) (by simp) _, h.vb.put u, h.lt, h.biz, h.nres⟩
/-- The run is handed back: its six cells are laid into the result's block. -/
theorem own_back {st : St} (h : OwnRun wx (w.heap.size + 1) (w.heap.size + 1) st vv tv lv fv) (hz : some (w.heap.size + 1 + 1) ∉ ownBlocks (w.heap.size + 1) vv tv lv fv) (low : Below w.heap.size w wx) :
    OwnRows (set6 wx (w.heap.size + 1 + 1) (.int .i64 st.at_) vv tv (.int .i64 st.taken) lv (.int .i64 st.fin)) w.heap.size st vv tv lv fv ∧ Below w.heap.size w (set6 wx (w.heap.size + 1 + 1) (.int .i64 st.at_) vv tv (.int .i64 st.taken) lv (.int .i64 st.fin)) := by
  refine ⟨(OwnRows.same h.rows (fun k hk => set6_far _ _ _ _ _ _ _ _ k (fun e => hz ?_))).down (by omega), below_set6 low (by omega) _ _ _ _ _ _⟩
  rw [← e]
  unfold ownBlocks
  exact List.mem_cons_of_mem _ hk
/-- One block behind the three has turned, and no other. -/
theorem SInv.only (h : SInv w wx r v f s n cap bi i A C vv tv lv fv) {q : Nat} (hq : bi + 1 + 1 < q) (hf : ∀ k, k ≠ q → wy.heap[k]? = wx.heap[k]?) (hb : Below q wx wy) : SInv w wy r v f s n cap bi i A C vv tv lv fv := by
  have hz := h.biz
  have hsz := hb.size
  refine ⟨h.own.same fun k hk => hf k (by have := h.lt k hk; omega), ?_, h.res.same (hf _ (by omega)) hsz, h.low.trans (hb.mono (by omega)), h.ins.same (hf _ (by omega)) hsz, h.va.same (hf _ (by omega)) hsz, h.vb.same (hf _ (by omega)) hsz, h.lt, h.biz, h.nres⟩
  exact h.prg.below hb (by omega)
theorem stepSt_at {F : Int} {c : List Ins} {ins : List Int} {r : St} {k : Nat} {i : Ins} (hf : r.fin = 0) (ha : r.at_ = (k : Int)) (hk : k < c.length) (hc : c[k] = i) : stepSt F c ins r = if endI r i ≠ 0 then { r with fin := endI r i } else { effSt F ins r i (aOf r i) (bOf r i) with at_ := nextAt r i (aOf r i) } := by
  rw [stepSt_eq, if_neg (by omega), if_neg (by omega), ha, insAt_eq hk, hc, ← ha]
/-- Behind a store into one of the run's own blocks. -/
theorem R6.own {m : Nat} {x0 x1 x2 x3 x4 x5 : Value} (h : R6 wx m x0 x1 x2 x3 x4 x5) {bs : List (Option Nat)} (hf : ∀ k, k < wx.heap.size → some k ∉ bs → wy.heap[k]? = wx.heap[k]?) (hz : wx.heap.size ≤ wy.heap.size) (hm : some m ∉ bs) : R6 wy m x0 x1 x2 x3 x4 x5 := h.same (hf m h.2.1 hm) hz
end
end Go.Proofs.YtmapdpcfanecdaaDoor
