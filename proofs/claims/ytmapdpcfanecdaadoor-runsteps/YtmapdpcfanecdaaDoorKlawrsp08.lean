/- A run in memory of the call's own: a line more, a thing more, a field put. -/
import Derived.Test.YtmapdpcfanecdaaDoorKlawrsp07
import Derived.Deep.RegionHeld
import Derived.WalkKit
import Derived.WalkSpells
import Derived.WalkLawsBesides
import Derived.Handy
import Derived.Deep.RegionHeld3
import Derived.Lib.QuietBelow
import Derived.BigQuiet
import Derived.Deep.DrawnRows
import Derived.BigRegion
namespace Go.Proofs.YtmapdpcfanecdaaDoor
set_option linter.unusedVariables false
set_option linter.unusedSimpArgs false
open Go

/-- What is shown by running one operation. -/
theorem rn {p : Prop} (h : p := by (intro w hSw; (try dsimp only at hSw); first | (go_simp; done) | (go_simp; with_reducible rfl))) : p := h
section
variable {P : Program} {ops : Array Oper} {Q : Exit → Act → World → Prop} {md : Region.Mode} {S : World → Prop} {zs : List Nat}
theorem tkZ (i : Nat) {oi : Oper} (v : Value) {fuel : Nat} {listed : Array Bool} {a : Act} {w : World} (hy : ∀ w, S w → (execOp a.eval oi).run P w = .ok (.value v) w)
    (h : wpAnyZ P md ops Q S zs fuel (listed.setIfInBounds i true) (a.put oi.dst v) w) (hi : ops[i]? = some oi := by rfl)
    (hs : Region.noSelect ops = true := by kernel_rfl) (hf : (Region.free md ops listed i && zOk md ops listed i zs) = true := by kernel_rfl) (hr : (Region.ready md ops listed).contains i = true := by kernel_rfl)
    (hQ : ∀ c a w, Q (.panic c) (a.put oi.dst v) w → Q (.panic c) a w := by exact fun _ _ _ h => h) (hw : Region.wanted oi (yielded ops a.tmps) = true := by rfl) (hS : S w := by assumption) : wpAnyZ P md ops Q S zs (fuel + 1) listed a w :=
  wpAnyZ_take hi hs hf hr hQ (.inl ⟨hw, hy⟩) hS h
theorem tkH (i : Nat) {oi : Oper} (v : Value) {fuel : Nat} {listed : Array Bool} {a : Act} {w : World} (hy : ∀ w, S w → (execOp a.eval oi).run P w = .ok (.value v) w)
    (h : wpAnyH P md ops Q S fuel (listed.setIfInBounds i true) (a.put oi.dst v) w) (hi : ops[i]? = some oi := by rfl)
    (hs : Region.noSelect ops = true := by kernel_rfl) (hf : Region.free md ops listed i = true := by kernel_rfl) (hr : (Region.ready md ops listed).contains i = true := by kernel_rfl)
    (hQ : ∀ c a w, Q (.panic c) (a.put oi.dst v) w → Q (.panic c) a w := by exact fun _ _ _ h => h) (hw : Region.wanted oi (yielded ops a.tmps) = true := by rfl) (hS : S w := by assumption) : wpAnyH P md ops Q S (fuel + 1) listed a w :=
  wpAnyH_take hi hs hf hr hQ (.inl ⟨hw, hy⟩) hS h
end
end Go.Proofs.YtmapdpcfanecdaaDoor

namespace Go.Proofs.YtmapdpcfanecdaaDoor
set_option linter.unusedVariables false
set_option linter.unusedSimpArgs false
open Go.RowKit

theorem wrap32_wr (n : Int) : wrap32 n = wr n := by unfold wrap32 wr; omega

theorem wrap64_wrap32 (n : Int) : wrap64 (wrap32 n) = wrap32 n := by unfold wrap64 wrap32; omega

theorem ret_agg2 {a b c d : Value} (h : a = c) (h' : b = d) : Ending.returned (.agg #[a, b]) = .returned (.agg #[c, d]) := by rw [h, h']

set_option maxHeartbeats 400000 in
theorem number_any (n : Int) (w : World) :
    Calls Tryd.prog 95 #[.int .i64 n] w fun e w' => e = .returned (.agg #[.int .i64 1, .int .i64 (wr n)]) ∧ Below w.heap.size w w' := by
  go_enter Tryd.func95, Tryd.ntmps95
  go_wp2
  go_returns
  exact ⟨ret_agg2 rfl (by rw [← wrap32_wr, wrap64_wrap32]), by go_grown⟩

set_option maxHeartbeats 400000 in
theorem truth_any (b : Bool) (w : World) :
    Calls Tryd.prog 96 #[.bool b] w fun e w' => e = .returned (.agg #[.int .i64 (truV b).k, .int .i64 (truV b).n]) ∧ Below w.heap.size w w' := by
  cases b
  all_goals
    go_enter Tryd.func96, Tryd.ntmps96
    go_wp2
    go_returns
    exact ⟨rfl, by go_grown⟩

set_option maxHeartbeats 1000000 in
theorem counts_null (w : World) :
    Calls Tryd.prog 98 #[.agg #[.int .i64 0, .int .i64 0]] w fun e w' => e = .returned (.bool false) ∧ Below w.heap.size w w' := by
  have c0 := cell_regrown (w := w.alloc (.cells #[.int .i64 0, .int .i64 0] 94)) (a := ⟨w.heap.size, 0, none⟩) (v := .int .i64 0) (by simp [go_sem])
  have c1 := cell_regrown (w := w.alloc (.cells #[.int .i64 0, .int .i64 0] 94)) (a := ⟨w.heap.size, 1, none⟩) (v := .int .i64 0) (by simp [go_sem])
  have t0 : (truV false).k = 2 := rfl
  have t1 : (truV false).n = 0 := rfl
  have t2 : wr 0 = 0 := rfl
  go_enter Tryd.func98, Tryd.ntmps98
  go_wp2
  refine wp_region_quiet_below (by kernel_rfl) (by kernel_rfl) ?_
  repeat (quiet_step (first | exact Calls.regrown_of (truth_any false _) | exact Calls.regrown_of (number_any 0 _)))
  refine wpQuiet_nil ?_
  intro _ hw'
  obtain ⟨⟨dq, osq⟩, hw''⟩ := hw'
  subst hw''
  go_wp2
  go_ret
  exact ⟨rfl, Below.trans (by go_grown) ((below_regrown _ dq osq).mono (by go_size))⟩

set_option maxHeartbeats 1000000 in
theorem counts_num (n : Int) (w : World) (h : (n == 0) = false) :
    Calls Tryd.prog 98 #[.agg #[.int .i64 1, .int .i64 n]] w fun e w' => e = .returned (.bool true) ∧ Below w.heap.size w w' := by
  have c0 := cell_regrown (w := w.alloc (.cells #[.int .i64 1, .int .i64 n] 94)) (a := ⟨w.heap.size, 0, none⟩) (v := .int .i64 1) (by simp [go_sem])
  have c1 := cell_regrown (w := w.alloc (.cells #[.int .i64 1, .int .i64 n] 94)) (a := ⟨w.heap.size, 1, none⟩) (v := .int .i64 n) (by simp [go_sem])
  have t0 : (truV false).k = 2 := rfl
  have t1 : (truV false).n = 0 := rfl
  have t2 : wr 0 = 0 := rfl
  go_enter Tryd.func98, Tryd.ntmps98
  go_wp2
  refine wp_region_quiet_below (by kernel_rfl) (by kernel_rfl) ?_
  repeat (quiet_step (first | exact Calls.regrown_of (truth_any false _) | exact Calls.regrown_of (number_any 0 _)))
  refine wpQuiet_nil ?_
  intro _ hw'
  obtain ⟨⟨dq, osq⟩, hw''⟩ := hw'
  subst hw''
  go_wp2
  go_ret
  exact ⟨rfl, Below.trans (by go_grown) ((below_regrown _ dq osq).mono (by go_size))⟩

set_option maxHeartbeats 1000000 in
theorem counts_zero (w : World) :
    Calls Tryd.prog 98 #[.agg #[.int .i64 1, .int .i64 0]] w fun e w' => e = .returned (.bool false) ∧ Below w.heap.size w w' := by
  have c0 := cell_regrown (w := w.alloc (.cells #[.int .i64 1, .int .i64 0] 94)) (a := ⟨w.heap.size, 0, none⟩) (v := .int .i64 1) (by simp [go_sem])
  have c1 := cell_regrown (w := w.alloc (.cells #[.int .i64 1, .int .i64 0] 94)) (a := ⟨w.heap.size, 1, none⟩) (v := .int .i64 0) (by simp [go_sem])
  have t0 : (truV false).k = 2 := rfl
  have t1 : (truV false).n = 0 := rfl
  have t2 : wr 0 = 0 := rfl
  go_enter Tryd.func98, Tryd.ntmps98
  go_wp2
  refine wp_region_quiet_below (by kernel_rfl) (by kernel_rfl) ?_
  repeat (quiet_step (first | exact Calls.regrown_of (truth_any false _) | exact Calls.regrown_of (number_any 0 _)))
  refine wpQuiet_nil ?_
  intro _ hw'
  obtain ⟨⟨dq, osq⟩, hw''⟩ := hw'
  subst hw''
  go_wp2
  go_ret
  exact ⟨rfl, Below.trans (by go_grown) ((below_regrown _ dq osq).mono (by go_size))⟩

set_option maxHeartbeats 1000000 in
theorem counts_true (w : World) :
    Calls Tryd.prog 98 #[.agg #[.int .i64 2, .int .i64 1]] w fun e w' => e = .returned (.bool true) ∧ Below w.heap.size w w' := by
  have c0 := cell_regrown (w := w.alloc (.cells #[.int .i64 2, .int .i64 1] 94)) (a := ⟨w.heap.size, 0, none⟩) (v := .int .i64 2) (by simp [go_sem])
  have c1 := cell_regrown (w := w.alloc (.cells #[.int .i64 2, .int .i64 1] 94)) (a := ⟨w.heap.size, 1, none⟩) (v := .int .i64 1) (by simp [go_sem])
  have t0 : (truV false).k = 2 := rfl
  have t1 : (truV false).n = 0 := rfl
  have t2 : wr 0 = 0 := rfl
  go_enter Tryd.func98, Tryd.ntmps98
  go_wp2
  refine wp_region_quiet_below (by kernel_rfl) (by kernel_rfl) ?_
  repeat (quiet_step (first | exact Calls.regrown_of (truth_any false _) | exact Calls.regrown_of (number_any 0 _)))
  refine wpQuiet_nil ?_
  intro _ hw'
  obtain ⟨⟨dq, osq⟩, hw''⟩ := hw'
  subst hw''
  go_wp2
  go_ret
  exact ⟨rfl, Below.trans (by go_grown) ((below_regrown _ dq osq).mono (by go_size))⟩

set_option maxHeartbeats 1000000 in
theorem counts_false (w : World) :
    Calls Tryd.prog 98 #[.agg #[.int .i64 2, .int .i64 0]] w fun e w' => e = .returned (.bool false) ∧ Below w.heap.size w w' := by
  have c0 := cell_regrown (w := w.alloc (.cells #[.int .i64 2, .int .i64 0] 94)) (a := ⟨w.heap.size, 0, none⟩) (v := .int .i64 2) (by simp [go_sem])
  have c1 := cell_regrown (w := w.alloc (.cells #[.int .i64 2, .int .i64 0] 94)) (a := ⟨w.heap.size, 1, none⟩) (v := .int .i64 0) (by simp [go_sem])
  have t0 : (truV false).k = 2 := rfl
  have t1 : (truV false).n = 0 := rfl
  have t2 : wr 0 = 0 := rfl
  go_enter Tryd.func98, Tryd.ntmps98
  go_wp2
  refine wp_region_quiet_below (by kernel_rfl) (by kernel_rfl) ?_
  repeat (quiet_step (first | exact Calls.regrown_of (truth_any false _) | exact Calls.regrown_of (number_any 0 _)))
  refine wpQuiet_nil ?_
  intro _ hw'
  obtain ⟨⟨dq, osq⟩, hw''⟩ := hw'
  subst hw''
  go_wp2
  go_ret
  exact ⟨rfl, Below.trans (by go_grown) ((below_regrown _ dq osq).mono (by go_size))⟩

set_option maxHeartbeats 1000000 in
theorem counts_thing (n : Int) (w : World) :
    Calls Tryd.prog 98 #[.agg #[.int .i64 3, .int .i64 n]] w fun e w' => e = .returned (.bool true) ∧ Below w.heap.size w w' := by
  have c0 := cell_regrown (w := w.alloc (.cells #[.int .i64 3, .int .i64 n] 94)) (a := ⟨w.heap.size, 0, none⟩) (v := .int .i64 3) (by simp [go_sem])
  have c1 := cell_regrown (w := w.alloc (.cells #[.int .i64 3, .int .i64 n] 94)) (a := ⟨w.heap.size, 1, none⟩) (v := .int .i64 n) (by simp [go_sem])
  have t0 : (truV false).k = 2 := rfl
  have t1 : (truV false).n = 0 := rfl
  have t2 : wr 0 = 0 := rfl
  go_enter Tryd.func98, Tryd.ntmps98
  go_wp2
  refine wp_region_quiet_below (by kernel_rfl) (by kernel_rfl) ?_
  repeat (quiet_step (first | exact Calls.regrown_of (truth_any false _) | exact Calls.regrown_of (number_any 0 _)))
  refine wpQuiet_nil ?_
  intro _ hw'
  obtain ⟨⟨dq, osq⟩, hw''⟩ := hw'
  subst hw''
  go_wp2
  go_ret
  exact ⟨rfl, Below.trans (by go_grown) ((below_regrown _ dq osq).mono (by go_size))⟩

theorem counts_any (T : Nat) (v : Val) (w : World) (h : okVal T v) :
    Calls Tryd.prog 98 #[.agg #[.int .i64 v.k, .int .i64 v.n]] w fun e w' => e = .returned (.bool (cnt v)) ∧ Below w.heap.size w w' := by
  obtain ⟨k, n⟩ := v
  simp only [okVal] at h
  rcases h with ⟨rfl, rfl⟩ | ⟨rfl, _⟩ | ⟨rfl, rfl | rfl⟩ | ⟨rfl, _⟩
  · exact counts_null w
  · by_cases hn : n = 0
    · subst hn; exact counts_zero w
    · simpa [cnt, hn] using counts_num n w (by simpa using hn)
  · exact counts_false w
  · exact counts_true w
  · exact counts_thing n w
end Go.Proofs.YtmapdpcfanecdaaDoor

namespace Go.Proofs.YtmapdpcfanecdaaDoor
set_option linter.unusedVariables false
set_option linter.unusedSimpArgs false
open Go.RowKit

section
variable {w w' : World} {B m : Nat} {s : St} {vv tv lv : Value} {fv : List Value}

theorem heap_set2 (w : World) (g j j' : Nat) (u u' : Value) (k : Nat) (h : k ≠ g) : ((w.setCell ⟨g, j, none⟩ u).setCell ⟨g, j', none⟩ u').heap[k]? = w.heap[k]? := by
  rw [Below.heap_setCell _ _ _ _ h, Below.heap_setCell _ _ _ _ h]

theorem OwnRun.vars_apart (h : OwnRun w B m s vv tv lv fv) {g : Nat} (hg : vv.ownBlock = some g) : ∀ k, some k ∈ (some m :: tv.ownBlock :: lv.ownBlock :: fv.map Value.ownBlock) → k ≠ g := by
  have ha := h.apart
  simp only [List.pairwise_cons, List.mem_cons] at ha
  obtain ⟨h1, h2, _⟩ := ha
  intro k hk e
  subst e
  rcases List.mem_cons.1 hk with hk | hk
  · cases hk
    exact h1 _ (.inl rfl) _ rfl hg
  · exact h2 (some k) (by simpa [or_assoc] using hk) k hg rfl

theorem OwnRun.m_apart (h : OwnRun w B m s vv tv lv fv) : ∀ k, some k ∈ (vv.ownBlock :: tv.ownBlock :: lv.ownBlock :: fv.map Value.ownBlock) → k ≠ m := by
  have ha := h.apart
  simp only [List.pairwise_cons] at ha
  intro k hk e
  subst e
  exact ha.1 (some k) hk k rfl rfl

theorem ownsRow_len {e : TypeId} {z : Nat} {a : Option Addr} {n n' cap : Nat} {xs : List Value} (h : w.ownsRow B e z (.slice a n cap) n' xs) : n = n' := by
  rcases h.2 with ⟨hv, hn⟩ | ⟨g, c, cur, hv, _⟩
  · cases hv; exact hn.symm
  · cases hv; rfl

/-- A value stored into a variable. -/
theorem OwnRun.put {g n cap : Nat} (h : OwnRun w B m s (.slice (some ⟨g, 0, none⟩) n cap) tv lv fv) (i : Nat) (hi : i < s.vars.length) (v : Val) :
    OwnRun ((w.setCell ⟨g, i * 2, none⟩ (.int .i64 v.k)).setCell ⟨g, i * 2 + 1, none⟩ (.int .i64 v.n)) B m { s with vars := s.vars.set i v } (.slice (some ⟨g, 0, none⟩) n cap) tv lv fv := by
  have ap := h.vars_apart (g := g) rfl
  have hb := heap_set2 w g (i * 2) (i * 2 + 1) (.int .i64 v.k) (.int .i64 v.n)
  have hm := hb m (ap m (by simp))
  have c : ∀ j, ((w.setCell ⟨g, i * 2, none⟩ (.int .i64 v.k)).setCell ⟨g, i * 2 + 1, none⟩ (.int .i64 v.n)).cell? ⟨m, j, none⟩ = w.cell? ⟨m, j, none⟩ := fun j => World.cell?_of_block (a := ⟨m, j, none⟩) hm
  have fz : ∀ j, ((w.setCell ⟨g, i * 2, none⟩ (.int .i64 v.k)).setCell ⟨g, i * 2 + 1, none⟩ (.int .i64 v.n)).frozen? ⟨m, j, none⟩ = w.frozen? ⟨m, j, none⟩ := fun j => World.frozen?_of_block (a := ⟨m, j, none⟩) hm
  have hn : n = s.vars.length := ownsRow_len h.vars
  have hv0 : w.ownsRow B 94 2 (.slice (some ⟨g, 0, none⟩) n cap) n (valCells s.vars) := by have := h.vars; unfold ValRow at this; rw [← hn] at this; exact this
  have hv1 := (((hv0.stored (i * 2) (.int .i64 v.k)).1).stored (i * 2 + 1) (.int .i64 v.n)).1
  rw [valCells_set s.vars v i hi] at hv1
  refine ⟨h.low, by rw [c]; exact h.at_, by rw [c]; exact h.vars_, by rw [c]; exact h.things_, by rw [c]; exact h.taken_, by rw [c]; exact h.lines_, by rw [c]; exact h.fin_, fun j => by rw [fz]; exact h.thaw j,
    ?_, ownsRow_of_block h.things (fun k hk => hb k (ap k (by simp [hk]))), h.count, fun j hj => ownsRow_of_block (h.fields j hj) (fun k hk => hb k (ap k (by
      simp only [List.mem_cons]; right; right; right
      exact List.mem_map.2 ⟨_, List.getElem_mem _, hk⟩))), ownsRow_of_block h.lines (fun k hk => hb k (ap k (by simp [hk]))), h.apart⟩
  unfold ValRow
  simp only [List.length_set]
  rw [← hn]
  exact hv1

/-- A number stored into one of the six fields: At, Taken or End. -/
theorem OwnRun.setM (h : OwnRun w B m s vv tv lv fv) (j : Nat) (x : Int) (hj : j = 0 ∨ j = 3 ∨ j = 5) :
    OwnRun (w.setCell ⟨m, j, none⟩ (.int .i64 x)) B m { s with at_ := if j = 0 then x else s.at_, taken := if j = 3 then x else s.taken, fin := if j = 5 then x else s.fin } vv tv lv fv := by
  have ap := h.m_apart
  have hb : ∀ k, k ≠ m → (w.setCell ⟨m, j, none⟩ (.int .i64 x)).heap[k]? = w.heap[k]? := fun k hk => Below.heap_setCell _ _ _ _ hk
  have hold : ∃ u, w.cell? ⟨m, j, none⟩ = some u := by
    rcases hj with rfl | rfl | rfl
    · exact ⟨_, h.at_⟩
    · exact ⟨_, h.taken_⟩
    · exact ⟨_, h.fin_⟩
  obtain ⟨u, hu⟩ := hold
  have cs : (w.setCell ⟨m, j, none⟩ (.int .i64 x)).cell? ⟨m, j, none⟩ = some (.int .i64 x) := World.cell?_setCell_same _ _ _ hu
  have co : ∀ i, i ≠ j → (w.setCell ⟨m, j, none⟩ (.int .i64 x)).cell? ⟨m, i, none⟩ = w.cell? ⟨m, i, none⟩ := fun i hi => World.cell?_setCell_other _ _ _ _ (by intro e; cases e; exact hi rfl)
  refine ⟨h.low, ?_, by rw [co 1 (by omega)]; exact h.vars_, by rw [co 2 (by omega)]; exact h.things_, ?_, by rw [co 4 (by omega)]; exact h.lines_, ?_, fun i => by rw [World.frozen?_setCell]; exact h.thaw i,
    ownsRow_of_block h.vars (fun k hk => hb k (ap k (by simp [hk]))), ownsRow_of_block h.things (fun k hk => hb k (ap k (by simp [hk]))), h.count, fun i hi => ownsRow_of_block (h.fields i hi) (fun k hk => hb k (ap k (by
      simp only [List.mem_cons]; right; right; right
      exact List.mem_map.2 ⟨_, List.getElem_mem _, hk⟩))), ownsRow_of_block h.lines (fun k hk => hb k (ap k (by simp [hk]))), h.apart⟩
  · rcases hj with rfl | rfl | rfl
    · simpa using cs
    · rw [co 0 (by omega)]; simpa using h.at_
    · rw [co 0 (by omega)]; simpa using h.at_
  · rcases hj with rfl | rfl | rfl
    · rw [co 3 (by omega)]; simpa using h.taken_
    · simpa using cs
    · rw [co 3 (by omega)]; simpa using h.taken_
  · rcases hj with rfl | rfl | rfl
    · rw [co 5 (by omega)]; simpa using h.fin_
    · rw [co 5 (by omega)]; simpa using h.fin_
    · simpa using cs
end
end Go.Proofs.YtmapdpcfanecdaaDoor

namespace Go.Proofs.YtmapdpcfanecdaaDoor
set_option linter.unusedVariables false
set_option linter.unusedSimpArgs false
open Go.RowKit
attribute [local go_sem ↓] Go.wp_at_zero Go.wp_at_succ

/-- What is told of the variables' row: its address, its cells, that they may be written. -/
theorem OwnRun.form {w : World} {B m : Nat} {s : St} {vv tv lv : Value} {fv : List Value} (h : OwnRun w B m s vv tv lv fv) (hn : 0 < s.vars.length) :
    ∃ g cap, vv = .slice (some ⟨g, 0, none⟩) s.vars.length cap ∧ B ≤ g ∧ g < w.heap.size ∧ (∀ i (hi : i < s.vars.length), w.cell? ⟨g, i * 2, none⟩ = some (.int .i64 s.vars[i].k) ∧ w.cell? ⟨g, i * 2 + 1, none⟩ = some (.int .i64 s.vars[i].n)) ∧ (∀ j, w.frozen? ⟨g, j, none⟩ = false) := by
  obtain ⟨g, cap, rfl, hb, hlt⟩ := h.vars.form hn
  have hv : w.ownsRow B 94 2 (.slice (some ⟨g, 0, none⟩) s.vars.length cap) s.vars.length (valCells s.vars) := h.vars
  refine ⟨g, cap, rfl, hb, hlt, fun i hi => ⟨?_, ?_⟩, fun j => hv.frozenAt j⟩
  · rw [hv.cellAt (i * 2) (by omega)]; exact valCells_k _ i hi
  · rw [hv.cellAt (i * 2 + 1) (by omega)]; exact valCells_n _ i hi


theorem cell_set2 (w : World) (g j j' : Nat) (u u' : Value) (k i : Nat) (h : k ≠ g) : ((w.setCell ⟨g, j, none⟩ u).setCell ⟨g, j', none⟩ u').cell? ⟨k, i, none⟩ = w.cell? ⟨k, i, none⟩ :=
  World.cell?_of_block (a := ⟨k, i, none⟩) (heap_set2 w g j j' u u' k h)

end Go.Proofs.YtmapdpcfanecdaaDoor

namespace Go.Proofs.YtmapdpcfanecdaaDoor
set_option linter.unusedVariables false
set_option linter.unusedSimpArgs false
open Go.RowKit

section
variable {w w' w1 : World} {B m : Nat} {s : St} {vv tv lv : Value} {fv : List Value}

theorem OwnRun.parted (h : OwnRun w B m s vv tv lv fv) : (∀ x, some x ∈ (vv.ownBlock :: tv.ownBlock :: lv.ownBlock :: fv.map Value.ownBlock) → x ≠ m) ∧ (∀ x, vv.ownBlock = some x → some x ∉ (tv.ownBlock :: lv.ownBlock :: fv.map Value.ownBlock)) ∧ (∀ x, tv.ownBlock = some x → some x ∉ (lv.ownBlock :: fv.map Value.ownBlock)) ∧ (∀ x, lv.ownBlock = some x → some x ∉ fv.map Value.ownBlock) ∧ (fv.map Value.ownBlock).Pairwise (fun a b => ∀ x, a = some x → b ≠ some x) := by
  have ha := h.apart
  simp only [List.pairwise_cons] at ha
  obtain ⟨h1, h2, h3, h4, h5⟩ := ha
  exact ⟨fun x hx e => h1 _ hx m rfl (by rw [e]), fun x hx hm => h2 _ hm x hx rfl, fun x hx hm => h3 _ hm x hx rfl, fun x hx hm => h4 _ hm x hx rfl, h5⟩

theorem apart_of (h1 : ∀ x, some x ∈ (vv.ownBlock :: tv.ownBlock :: lv.ownBlock :: fv.map Value.ownBlock) → x ≠ m) (h2 : ∀ x, vv.ownBlock = some x → some x ∉ (tv.ownBlock :: lv.ownBlock :: fv.map Value.ownBlock)) (h3 : ∀ x, tv.ownBlock = some x → some x ∉ (lv.ownBlock :: fv.map Value.ownBlock)) (h4 : ∀ x, lv.ownBlock = some x → some x ∉ fv.map Value.ownBlock) (h5 : (fv.map Value.ownBlock).Pairwise (fun a b => ∀ x, a = some x → b ≠ some x)) :
    (some m :: vv.ownBlock :: tv.ownBlock :: lv.ownBlock :: fv.map Value.ownBlock).Pairwise fun a b => ∀ x, a = some x → b ≠ some x := by
  simp only [List.pairwise_cons]
  refine ⟨fun b hb x hx e => ?_, fun b hb x hx e => ?_, fun b hb x hx e => ?_, fun b hb x hx e => ?_, h5⟩
  · cases hx; subst e; exact h1 _ hb rfl
  · subst e; exact h2 x hx hb
  · subst e; exact h3 x hx hb
  · subst e; exact h4 x hx hb

/-- The lines' row has grown by one. -/
theorem OwnRun.grow_lines (h : OwnRun w B m s vv tv lv fv) {g cap : Nat} {t : ByteArray} (hB : B ≤ w.heap.size)
    (hown : w1.ownsRow B 9 1 (.slice (some ⟨g, 0, none⟩) (s.lines.length + 1) cap) (s.lines.length + 1) (s.lines.map .string ++ [.string t])) (hgrow : w.grownBy w1 lv.ownBlock) (hat : lv.ownBlock = some g ∨ w.heap.size ≤ g) :
    OwnRun (w1.setCell ⟨m, 4, none⟩ (.slice (some ⟨g, 0, none⟩) (s.lines.length + 1) cap)) B m { s with lines := s.lines ++ [t] } vv tv (.slice (some ⟨g, 0, none⟩) (s.lines.length + 1) cap) fv := by
  obtain ⟨p1, p2, p3, p4, p5⟩ := h.parted
  have lt : ∀ {k : Nat}, some k ∈ ownBlocks m vv tv lv fv → k < w.heap.size := fun hk => h.lt hk
  have hm : m < w.heap.size := lt (by simp [ownBlocks])
  have hlm : some m ≠ lv.ownBlock := fun e => p1 m (by rw [e]; simp) rfl
  have hgm : g ≠ m := by
    rcases hat with e | e
    · exact p1 g (by rw [← e]; simp)
    · omega
  have bm := hgrow.block m hm hlm
  have c : ∀ j, w1.cell? ⟨m, j, none⟩ = w.cell? ⟨m, j, none⟩ := fun j => World.cell?_of_block (a := ⟨m, j, none⟩) bm
  have fz : ∀ j, w1.frozen? ⟨m, j, none⟩ = w.frozen? ⟨m, j, none⟩ := fun j => World.frozen?_of_block (a := ⟨m, j, none⟩) bm
  have co : ∀ i, i ≠ 4 → (w1.setCell ⟨m, 4, none⟩ (.slice (some ⟨g, 0, none⟩) (s.lines.length + 1) cap)).cell? ⟨m, i, none⟩ = w.cell? ⟨m, i, none⟩ := fun i hi => by rw [World.cell?_setCell_other _ _ _ _ (by intro e; cases e; exact hi rfl), c]
  have cs : (w1.setCell ⟨m, 4, none⟩ (.slice (some ⟨g, 0, none⟩) (s.lines.length + 1) cap)).cell? ⟨m, 4, none⟩ = some (.slice (some ⟨g, 0, none⟩) (s.lines.length + 1) cap) := World.cell?_setCell_same _ _ _ (by rw [c]; exact h.lines_)
  have hb : ∀ k, k < w.heap.size → k ≠ m → some k ≠ lv.ownBlock → (w1.setCell ⟨m, 4, none⟩ (.slice (some ⟨g, 0, none⟩) (s.lines.length + 1) cap)).heap[k]? = w.heap[k]? := fun k h1 h2 h3 => by rw [Below.heap_setCell _ _ _ _ h2, hgrow.block k h1 h3]
  have hv : ∀ k, vv.ownBlock = some k → k < w.heap.size ∧ k ≠ m ∧ some k ≠ lv.ownBlock := fun k hk => ⟨lt (by simp [ownBlocks, hk]), p1 k (by simp [hk]), fun e => p2 k hk (by simp [e])⟩
  have ht : ∀ k, tv.ownBlock = some k → k < w.heap.size ∧ k ≠ m ∧ some k ≠ lv.ownBlock := fun k hk => ⟨lt (by simp [ownBlocks, hk]), p1 k (by simp [hk]), fun e => p3 k hk (by simp [e])⟩
  have hf : ∀ k, some k ∈ fv.map Value.ownBlock → k < w.heap.size ∧ k ≠ m ∧ some k ≠ lv.ownBlock := fun k hk => ⟨lt (by simp only [ownBlocks, List.mem_cons]; simp only [hk, or_true]), p1 k (by simp only [List.mem_cons]; simp only [hk, or_true]), fun e => p4 k e.symm hk⟩
  have hg : ∀ k, k < w.heap.size → some k ≠ lv.ownBlock → k ≠ g := fun k h1 h2 e => by
    rcases hat with e' | e'
    · exact h2 (by rw [e', e])
    · omega
  refine ⟨h.low, by rw [co 0 (by omega)]; exact h.at_, by rw [co 1 (by omega)]; exact h.vars_, by rw [co 2 (by omega)]; exact h.things_, by rw [co 3 (by omega)]; exact h.taken_, cs, by rw [co 5 (by omega)]; exact h.fin_,
    fun j => by rw [World.frozen?_setCell, fz]; exact h.thaw j, ownsRow_of_block h.vars (fun k hk => hb k (hv k hk).1 (hv k hk).2.1 (hv k hk).2.2), ownsRow_of_block h.things (fun k hk => hb k (ht k hk).1 (ht k hk).2.1 (ht k hk).2.2), h.count,
    fun i hi => ownsRow_of_block (h.fields i hi) (fun k hk => ?_), ?_, ?_⟩
  · have q := hf k (List.mem_map.2 ⟨_, List.getElem_mem _, hk⟩)
    exact hb k q.1 q.2.1 q.2.2
  · simp only [List.length_append, List.length_cons, List.length_nil, List.map_append, List.map_cons, List.map_nil]
    exact ownsRow_of_block hown (fun k hk => by cases hk; exact Below.heap_setCell _ _ _ _ hgm)
  · refine apart_of (fun x hx => ?_) (fun x hx hm' => ?_) (fun x hx hm' => ?_) (fun x hx hm' => ?_) p5
    · rcases List.mem_cons.1 hx with hx | hx
      · exact p1 x (by simp [hx])
      · rcases List.mem_cons.1 hx with hx | hx
        · exact p1 x (by simp [hx])
        · rcases List.mem_cons.1 hx with hx | hx
          · cases hx; exact hgm
          · exact p1 x (by simp only [List.mem_cons]; simp only [hx, or_true])
    · rcases List.mem_cons.1 hm' with hm' | hm'
      · exact p2 x hx (by simp [hm'])
      · rcases List.mem_cons.1 hm' with hm' | hm'
        · cases hm'; exact hg g (hv g hx).1 (hv g hx).2.2 rfl
        · exact p2 x hx (by simp only [List.mem_cons]; simp only [hm', or_true])
    · rcases List.mem_cons.1 hm' with hm' | hm'
      · cases hm'; exact hg g (ht g hx).1 (ht g hx).2.2 rfl
      · exact p3 x hx (by simp only [List.mem_cons]; simp only [hm', or_true])
    · cases hx
      have q := hf g hm'
      exact hg g q.1 q.2.2 rfl

theorem thgCells_snoc : ∀ (ss : List Int) (fs : List Value) (_ : fs.length = ss.length) (x : Int) (f : Value), thgCells (ss ++ [x]) (fs ++ [f]) = thgCells ss fs ++ [.int .i64 x, f]
  | [], [], _, _, _ => rfl
  | [], _ :: _, h, _, _ => by simp at h
  | _ :: _, [], h, _, _ => by simp at h
  | a :: ss, b :: fs, h, x, f => by
    have := thgCells_snoc ss fs (by simpa using h) x f
    simp only [List.cons_append, thgCells, this]
theorem thgCells_length : ∀ (ss : List Int) (fs : List Value) (_ : fs.length = ss.length), (thgCells ss fs).length = ss.length * 2
  | [], _, _ => by simp [thgCells]
  | _ :: _, [], h => by simp at h
  | _ :: ss, _ :: fs, h => by
    have := thgCells_length ss fs (by simpa using h)
    simp only [thgCells, List.length_cons, this]; omega
theorem thgCells_site : ∀ (ss : List Int) (fs : List Value) (_ : fs.length = ss.length) (i : Nat) (h : i < ss.length), (thgCells ss fs)[i * 2]? = some (.int .i64 ss[i])
  | [], _, _, _, h => by simp at h
  | _ :: _, [], h, _, _ => by simp at h
  | _ :: _, _ :: _, _, 0, _ => rfl
  | _ :: ss, _ :: fs, h, i + 1, hi => by
    rw [show (i + 1) * 2 = i * 2 + 1 + 1 by omega]
    simpa [thgCells] using thgCells_site ss fs (by simpa using h) i (by simpa using hi)
theorem thgCells_field : ∀ (ss : List Int) (fs : List Value) (_ : fs.length = ss.length) (i : Nat) (h : i < fs.length), (thgCells ss fs)[i * 2 + 1]? = some fs[i]
  | [], [], _, _, h => by simp at h
  | [], _ :: _, h, _, _ => by simp at h
  | _ :: _, [], h, _, _ => by simp at h
  | _ :: _, _ :: _, _, 0, _ => rfl
  | _ :: ss, _ :: fs, h, i + 1, hi => by
    rw [show (i + 1) * 2 + 1 = (i * 2 + 1) + 1 + 1 by omega]
    simpa [thgCells] using thgCells_field ss fs (by simpa using h) i (by simpa using hi)

/-- The things' row has grown by one, whose fields lie in a row apart. -/
theorem OwnRun.grow_things (h : OwnRun w B m s vv tv lv fv) {g cap : Nat} {x : Int} {l : List Val} {fn : Value} (hf0 : ValRow w B fn l) (hfa : ∀ k, fn.ownBlock = some k → some k ∉ ownBlocks m vv tv lv fv)
    (hown : w1.ownsRow B 99 2 (.slice (some ⟨g, 0, none⟩) (s.things.length + 1) cap) (s.things.length + 1) (thgCells (s.things.map (·.site)) fv ++ [.int .i64 x, fn])) (hgrow : w.grownBy w1 tv.ownBlock) (hat : tv.ownBlock = some g ∨ w.heap.size ≤ g) :
    OwnRun (w1.setCell ⟨m, 2, none⟩ (.slice (some ⟨g, 0, none⟩) (s.things.length + 1) cap)) B m { s with things := s.things ++ [⟨x, l⟩] } vv (.slice (some ⟨g, 0, none⟩) (s.things.length + 1) cap) lv (fv ++ [fn]) := by
  obtain ⟨p1, p2, p3, p4, p5⟩ := h.parted
  have lt : ∀ {k : Nat}, some k ∈ ownBlocks m vv tv lv fv → k < w.heap.size := fun hk => h.lt hk
  have hm : m < w.heap.size := lt (by simp [ownBlocks])
  have hlm : some m ≠ tv.ownBlock := fun e => p1 m (by rw [e]; simp) rfl
  have hgm : g ≠ m := by
    rcases hat with e | e
    · exact p1 g (by rw [← e]; simp)
    · omega
  have bm := hgrow.block m hm hlm
  have c : ∀ j, w1.cell? ⟨m, j, none⟩ = w.cell? ⟨m, j, none⟩ := fun j => World.cell?_of_block (a := ⟨m, j, none⟩) bm
  have fz : ∀ j, w1.frozen? ⟨m, j, none⟩ = w.frozen? ⟨m, j, none⟩ := fun j => World.frozen?_of_block (a := ⟨m, j, none⟩) bm
  have co : ∀ i, i ≠ 2 → (w1.setCell ⟨m, 2, none⟩ (.slice (some ⟨g, 0, none⟩) (s.things.length + 1) cap)).cell? ⟨m, i, none⟩ = w.cell? ⟨m, i, none⟩ := fun i hi => by rw [World.cell?_setCell_other _ _ _ _ (by intro e; cases e; exact hi rfl), c]
  have cs : (w1.setCell ⟨m, 2, none⟩ (.slice (some ⟨g, 0, none⟩) (s.things.length + 1) cap)).cell? ⟨m, 2, none⟩ = some (.slice (some ⟨g, 0, none⟩) (s.things.length + 1) cap) := World.cell?_setCell_same _ _ _ (by rw [c]; exact h.things_)
  have hb : ∀ k, k < w.heap.size → k ≠ m → some k ≠ tv.ownBlock → (w1.setCell ⟨m, 2, none⟩ (.slice (some ⟨g, 0, none⟩) (s.things.length + 1) cap)).heap[k]? = w.heap[k]? := fun k h1 h2 h3 => by rw [Below.heap_setCell _ _ _ _ h2, hgrow.block k h1 h3]
  have hv : ∀ k, vv.ownBlock = some k → k < w.heap.size ∧ k ≠ m ∧ some k ≠ tv.ownBlock := fun k hk => ⟨lt (by simp [ownBlocks, hk]), p1 k (by simp [hk]), fun e => p2 k hk (by simp [e])⟩
  have ht : ∀ k, lv.ownBlock = some k → k < w.heap.size ∧ k ≠ m ∧ some k ≠ tv.ownBlock := fun k hk => ⟨lt (by simp [ownBlocks, hk]), p1 k (by simp [hk]), fun e => p3 k e.symm (by simp [hk])⟩
  have hf : ∀ k, some k ∈ fv.map Value.ownBlock → k < w.heap.size ∧ k ≠ m ∧ some k ≠ tv.ownBlock := fun k hk => ⟨lt (by simp only [ownBlocks, List.mem_cons]; simp only [hk, or_true]), p1 k (by simp only [List.mem_cons]; simp only [hk, or_true]), fun e => p3 k e.symm (by simp only [List.mem_cons]; simp only [hk, or_true])⟩
  have hn : ∀ k, fn.ownBlock = some k → k < w.heap.size ∧ k ≠ m ∧ some k ≠ tv.ownBlock := fun k hk => ⟨(ownsRow_block_lt hf0 hk).1, fun e => hfa k hk (by simp [ownBlocks, e]), fun e => hfa k hk (by simp [ownBlocks, e])⟩
  have hg : ∀ k, k < w.heap.size → some k ≠ tv.ownBlock → k ≠ g := fun k h1 h2 e => by
    rcases hat with e' | e'
    · exact h2 (by rw [e', e])
    · omega
  have hfn : ∀ k, fn.ownBlock = some k → vv.ownBlock ≠ some k ∧ lv.ownBlock ≠ some k ∧ some k ∉ fv.map Value.ownBlock := fun k hk => ⟨fun e => hfa k hk (by simp [ownBlocks, e]), fun e => hfa k hk (by simp [ownBlocks, e]), fun e => hfa k hk (by simp only [ownBlocks, List.mem_cons]; simp only [e, or_true])⟩
  refine ⟨h.low, by rw [co 0 (by omega)]; exact h.at_, by rw [co 1 (by omega)]; exact h.vars_, cs, by rw [co 3 (by omega)]; exact h.taken_, by rw [co 4 (by omega)]; exact h.lines_, by rw [co 5 (by omega)]; exact h.fin_,
    fun j => by rw [World.frozen?_setCell, fz]; exact h.thaw j, ownsRow_of_block h.vars (fun k hk => hb k (hv k hk).1 (hv k hk).2.1 (hv k hk).2.2), ?_, by simp [h.count],
    fun i hi => ?_, ownsRow_of_block h.lines (fun k hk => hb k (ht k hk).1 (ht k hk).2.1 (ht k hk).2.2), ?_⟩
  · simp only [List.length_append, List.length_cons, List.length_nil, List.map_append, List.map_cons, List.map_nil]
    rw [thgCells_snoc _ _ (by simp [h.count])]
    exact ownsRow_of_block hown (fun k hk => by cases hk; exact Below.heap_setCell _ _ _ _ hgm)
  · by_cases hi' : i < s.things.length
    · have e1 : (fv ++ [fn])[i]'(by simp [h.count]; omega) = fv[i]'(by rw [h.count]; exact hi') := List.getElem_append_left _
      have e2 : (s.things ++ [(⟨x, l⟩ : Thg)])[i] = s.things[i] := List.getElem_append_left hi'
      rw [e1, e2]
      refine ownsRow_of_block (h.fields i hi') (fun k hk => ?_)
      have q := hf k (List.mem_map.2 ⟨_, List.getElem_mem _, hk⟩)
      exact hb k q.1 q.2.1 q.2.2
    · have hi2 : i = s.things.length := by simp at hi; omega
      subst hi2
      have e1 : (fv ++ [fn])[s.things.length]'(by simp [h.count]) = fn := by simp [← h.count]
      have e2 : (s.things ++ [(⟨x, l⟩ : Thg)])[s.things.length] = ⟨x, l⟩ := by simp
      rw [e1, e2]
      exact ownsRow_of_block hf0 (fun k hk => hb k (hn k hk).1 (hn k hk).2.1 (hn k hk).2.2)
  · have memS : ∀ x, some x ∈ (fv ++ [fn]).map Value.ownBlock → some x ∈ fv.map Value.ownBlock ∨ fn.ownBlock = some x := fun x hx => by
      simp only [List.map_append, List.map_cons, List.map_nil, List.mem_append, List.mem_singleton] at hx
      exact hx.imp id Eq.symm
    refine apart_of (fun x hx => ?_) (fun x hx hm' => ?_) (fun x hx hm' => ?_) (fun x hx hm' => ?_) ?_
    · rcases List.mem_cons.1 hx with hx | hx
      · exact p1 x (by simp [hx])
      · rcases List.mem_cons.1 hx with hx | hx
        · cases hx; exact hgm
        · rcases List.mem_cons.1 hx with hx | hx
          · exact p1 x (by simp [hx])
          · rcases memS x hx with hx | hx
            · exact p1 x (by simp only [List.mem_cons]; simp only [hx, or_true])
            · exact (hn x hx).2.1
    · rcases List.mem_cons.1 hm' with hm' | hm'
      · cases hm'; exact hg g (hv g hx).1 (hv g hx).2.2 rfl
      · rcases List.mem_cons.1 hm' with hm' | hm'
        · exact p2 x hx (by simp [hm'])
        · rcases memS x hm' with hm' | hm'
          · exact p2 x hx (by simp only [List.mem_cons]; simp only [hm', or_true])
          · exact (hfn x hm').1 hx
    · cases hx
      rcases List.mem_cons.1 hm' with hm' | hm'
      · exact hg g (ht g hm'.symm).1 (ht g hm'.symm).2.2 rfl
      · rcases memS g hm' with hm' | hm'
        · exact hg g (hf g hm').1 (hf g hm').2.2 rfl
        · exact hg g (hn g hm').1 (hn g hm').2.2 rfl
    · rcases memS x hm' with hm' | hm'
      · exact p4 x hx hm'
      · exact (hfn x hm').2.1 hx
    · rw [List.map_append]
      refine List.pairwise_append.2 ⟨p5, by simp, fun a ha b hb' x hx e => ?_⟩
      simp only [List.map_cons, List.map_nil, List.mem_singleton] at hb'
      subst hb'
      subst hx
      exact (hfn x e).2.2 ha

/-- A value stored into a field of a thing. -/
theorem OwnRun.put_field {g n cap : Nat} (h : OwnRun w B m s vv tv lv fv) (t : Nat) (ht : t < s.things.length) (hfv : fv[t]'(by rw [h.count]; exact ht) = .slice (some ⟨g, 0, none⟩) n cap) (i : Nat) (hi : i < s.things[t].fs.length) (v : Val) :
    OwnRun ((w.setCell ⟨g, i * 2, none⟩ (.int .i64 v.k)).setCell ⟨g, i * 2 + 1, none⟩ (.int .i64 v.n)) B m (putField s t i v) vv tv lv fv := by
  obtain ⟨p1, p2, p3, p4, p5⟩ := h.parted
  have htf : t < fv.length := by rw [h.count]; exact ht
  have hgm : some g ∈ fv.map Value.ownBlock := List.mem_map.2 ⟨_, List.getElem_mem htf, by rw [hfv]; rfl⟩
  have hb := heap_set2 w g (i * 2) (i * 2 + 1) (.int .i64 v.k) (.int .i64 v.n)
  have am : m ≠ g := fun e => p1 g (by simp only [List.mem_cons]; simp only [hgm, or_true]) e.symm
  have bm := hb m am
  have c : ∀ j, ((w.setCell ⟨g, i * 2, none⟩ (.int .i64 v.k)).setCell ⟨g, i * 2 + 1, none⟩ (.int .i64 v.n)).cell? ⟨m, j, none⟩ = w.cell? ⟨m, j, none⟩ := fun j => World.cell?_of_block (a := ⟨m, j, none⟩) bm
  have fz : ∀ j, ((w.setCell ⟨g, i * 2, none⟩ (.int .i64 v.k)).setCell ⟨g, i * 2 + 1, none⟩ (.int .i64 v.n)).frozen? ⟨m, j, none⟩ = w.frozen? ⟨m, j, none⟩ := fun j => World.frozen?_of_block (a := ⟨m, j, none⟩) bm
  have hfs := h.fields t ht
  rw [hfv] at hfs
  have hn : n = s.things[t].fs.length := ownsRow_len hfs
  have hv0 : w.ownsRow B 94 2 (.slice (some ⟨g, 0, none⟩) n cap) n (valCells s.things[t].fs) := by have := hfs; unfold ValRow at this; rw [← hn] at this; exact this
  have hv1 := (((hv0.stored (i * 2) (.int .i64 v.k)).1).stored (i * 2 + 1) (.int .i64 v.n)).1
  rw [valCells_set s.things[t].fs v i hi] at hv1
  have hlen : (s.things.modify t fun x => { x with fs := x.fs.set i v }).length = s.things.length := List.length_modify ..
  have hmap : (s.things.modify t fun x => { x with fs := x.fs.set i v }).map (·.site) = s.things.map (·.site) := by
    apply List.ext_getElem
    · simp
    · intro k h1 h2
      simp only [List.getElem_map, List.getElem_modify]
      split <;> rfl
  have e0 : putField s t i v = { s with things := s.things.modify t fun x => { x with fs := x.fs.set i v } } := by simp [putField]
  rw [e0]
  refine ⟨h.low, by rw [c]; exact h.at_, by rw [c]; exact h.vars_, by rw [c]; exact h.things_, by rw [c]; exact h.taken_, by rw [c]; exact h.lines_, by rw [c]; exact h.fin_, fun j => by rw [fz]; exact h.thaw j,
    ownsRow_of_block h.vars (fun k hk => hb k (fun e => p2 k hk (by simp only [List.mem_cons]; rw [e]; simp only [hgm, or_true]))), ?_, by rw [hlen]; exact h.count, fun j hj => ?_, ownsRow_of_block h.lines (fun k hk => hb k (fun e => p4 k hk (by rw [e]; exact hgm))), h.apart⟩
  · simp only [hlen, hmap]
    exact ownsRow_of_block h.things (fun k hk => hb k (fun e => p3 k hk (by simp only [List.mem_cons]; rw [e]; simp only [hgm, or_true])))
  · have hj' : j < s.things.length := by rw [hlen] at hj; exact hj
    simp only [List.getElem_modify]
    by_cases htj : t = j
    · subst htj
      simp only [if_true]
      rw [hfv]
      unfold ValRow
      simp only [List.length_set]
      rw [← hn]
      exact hv1
    · simp only [htj, if_false]
      refine ownsRow_of_block (h.fields j hj') (fun k hk => hb k (fun e => ?_))
      subst e
      have hjf : j < fv.length := by rw [h.count]; exact hj'
      rw [List.pairwise_iff_getElem] at p5
      rcases Nat.lt_or_gt_of_ne htj with hlt | hlt
      · exact p5 t j (by simpa using htf) (by simpa using hjf) hlt k (by simp [hfv, Value.ownBlock]) (by simpa using hk)
      · exact p5 j t (by simpa using hjf) (by simpa using htf) hlt k (by simpa using hk) (by simp [hfv, Value.ownBlock])
end
end Go.Proofs.YtmapdpcfanecdaaDoor
