/- A run as it lies in memory that the call itself has made: which cells and rows, and what a store or an append makes of them. -/
import Derived.Test.YtmapdpcfanecdaaDoorKlawpbp03
import Derived.Test.YtmapdpcfanecdaaDoorShelf
import Derived.Shelf.Strings.Builder1
import Derived.Deep.AppendLies
import Derived.Laws.OwnMore
namespace Go.Proofs.YtmapdpcfanecdaaDoor
set_option linter.unusedVariables false
set_option linter.unusedSimpArgs false
open Go.RowKit

theorem builder_size : ∃ j, Tryd.prog.info? 65 = some j ∧ j.size = 2 := by
  obtain ⟨j, hj, hjs⟩ := Option.map_eq_some_iff.1 Tryd.Builder_Extra_169.sizeBuilder
  exact ⟨j, hj, hjs⟩

set_option maxHeartbeats 1000000 in
set_option maxRecDepth 100000 in
theorem copyCheck_used (b : Nat) (w : World) (h0 : w.cell? ⟨b, 0, none⟩ = some (.pointer (some ⟨b, 0, none⟩))) :
    Calls Tryd.prog 60 #[.pointer (some ⟨b, 0, none⟩)] w fun e w' => e = .returned (.tuple #[]) ∧ w' = w := by
  obtain ⟨j, hj, _⟩ := builder_size
  go_enter Tryd.func60, Tryd.ntmps60
  go_wp2
  rw [Lib.run_neq_ptr_same w _ Tryd.underlying62 hj]
  go_wp2
  go_end0
  exact ⟨rfl, rfl⟩

set_option maxHeartbeats 1000000 in
set_option maxRecDepth 100000 in
theorem copyCheck_fresh (b : Nat) (w : World) (h0 : w.cell? ⟨b, 0, none⟩ = some (.pointer none)) (hsh : w.shape? b = some (65, 2)) (hfz : w.frozen? ⟨b, 0, none⟩ = false) :
    Calls Tryd.prog 60 #[.pointer (some ⟨b, 0, none⟩)] w fun e w' => e = .returned (.tuple #[]) ∧ w' = w.setCell ⟨b, 0, none⟩ (.pointer (some ⟨b, 0, none⟩)) := by
  obtain ⟨j, hj, hjs⟩ := builder_size
  go_enter Tryd.func60, Tryd.ntmps60
  go_wp2
  rw [Lib.run_to_unsafe w ⟨b, 0, none⟩ Tryd.underlying62 Tryd.underlying132 hj (by rw [hjs]; decide) hsh (Nat.zero_lt_succ 1)]
  simp only [Result.andThen]
  rw [Oper.upon_value]
  go_wp2
  rw [run_callFunc_extern Tryd.func87 (by kernel_rfl) (by kernel_rfl) (by kernel_rfl) (e := Extern.AbiNoEscape.same) (by kernel_rfl)]
  rw [Lib.run_noEscape]
  simp only [Result.andThen]
  rw [Oper.upon_value]
  go_wp2
  rw [Lib.run_from_unsafe w ⟨b, 0, none⟩ Tryd.underlying132 Tryd.underlying62 hj hsh Tryd.Builder_Extra_169.liesBuilder]
  simp only [Result.andThen]
  rw [Oper.upon_value]
  go_wp2
  go_end0
  exact ⟨rfl, rfl⟩

theorem copyCheck_any (B b : Nat) (bs : List Value) (w : World) (h : Lib.IsBuilder 65 5 B b bs w) :
    Calls Tryd.prog 60 #[.pointer (some ⟨b, 0, none⟩)] w fun e w' => e = .returned (.tuple #[]) ∧ (Lib.BuilderAt 65 5 B b (.pointer (some ⟨b, 0, none⟩)) bs w' ∧ Below B w w') := by
  rcases h with h | h
  · refine (copyCheck_fresh b w h.cell0 h.shape h.frozen0).mono ?_
    rintro e w' ⟨rfl, rfl⟩
    exact ⟨rfl, h.used _, (Below.refl B w).setCell (p := ⟨b, 0, none⟩) h.1 _⟩
  · refine (copyCheck_used b w h.cell0).mono ?_
    rintro e w' ⟨rfl, rfl⟩
    exact ⟨rfl, h, Below.refl B _⟩

set_option maxHeartbeats 2000000 in
set_option maxRecDepth 100000 in
/-- The builder has the text's bytes behind those that it had. -/
theorem writeString_any (B b : Nat) (bs : List Value) (s : ByteArray) (w : World) (h : Lib.IsBuilder 65 5 B b bs w) (hlen : bs.length + s.size ≤ 140737488355328) (hBw : B ≤ w.heap.size) :
    Calls Tryd.prog 30 #[.pointer (some ⟨b, 0, none⟩), .string s] w fun e w' => e = .returned (.tuple #[.int .i64 s.size, .nilIface]) ∧ (Lib.BuilderAt 65 5 B b (.pointer (some ⟨b, 0, none⟩)) (bs ++ Lib.strCells s) w' ∧ Below B w w') := by
  obtain ⟨ti, hi, hz0, hz1, hz2⟩ := info_parts Tryd.Builder_Extra_169.infoByte
  go_enter Tryd.func30, Tryd.ntmps30
  go_wp2_with (go_at_call 60; refine (copyCheck_any B b bs _ h).mono ?_)
  rintro e w1 ⟨rfl, h1, hb1⟩
  obtain ⟨hB, v, hbk, hown, hne⟩ := h1
  have c0 : w1.cell? ⟨b, 0, none⟩ = some (.pointer (some ⟨b, 0, none⟩)) := by rw [Lib.cell_of_heap hbk]; rfl
  have c1 : w1.cell? ⟨b, 1, none⟩ = some v := by rw [Lib.cell_of_heap hbk]; rfl
  go_wp2_with (at_builtin; refine Lib.wpList_append_own_string _ rfl _ _ 63 9 rfl B 5 ti Tryd.underlying63 Tryd.underlying9 hi hz0 hz1 hz2 _ _ _ rfl hown s rfl ?c3 ?c4 ?c5 ?_)
  case c3 => unfold maxLen; omega
  case c4 => omega
  case c5 => have := hb1.size; omega
  intro v' w2 hown' hgrow _
  have hlt : b < w1.heap.size := (Array.getElem?_eq_some_iff.1 hbk).1
  have hb2 : w2.heap[b]? = some (.cells #[.pointer (some ⟨b, 0, none⟩), v] 65 (0, 0)) := by
    rw [hgrow.block b hlt (fun e => hne e.symm)]
    exact hbk
  have d0 : w2.cell? ⟨b, 0, none⟩ = some (.pointer (some ⟨b, 0, none⟩)) := by rw [Lib.cell_of_heap hb2]; rfl
  have d1 : w2.cell? ⟨b, 1, none⟩ = some v := by rw [Lib.cell_of_heap hb2]; rfl
  have f1 : w2.frozen? ⟨b, 1, none⟩ = false := Lib.frozen_of_heap hb2 1
  obtain ⟨ao, n', cap, rfl⟩ : ∃ ao n' cap, v' = .slice ao n' cap := by
    rcases hown'.2 with ⟨hv, _⟩ | ⟨g, cap, cur, hv, _⟩
    · exact ⟨_, _, _, hv⟩
    · exact ⟨_, _, _, hv⟩
  go_wp2
  go_ret2
  refine ⟨rfl, ?_, ?_⟩
  · exact Lib.BuilderAt.put (T := 65) (e := 5) hB hb2 (bs' := bs ++ Lib.strCells s) (by simpa [Lib.strCells_length] using hown') Tryd.Builder_Extra_169.neB5
  · exact (hb1.grown hgrow (by have := hb1.size; omega) (fun k hk => (hown.lt k hk).1)).setCell (p := ⟨b, 1, none⟩) hB _
end Go.Proofs.YtmapdpcfanecdaaDoor

namespace Go.Proofs.YtmapdpcfanecdaaDoor
set_option linter.unusedVariables false
set_option linter.unusedSimpArgs false
open Go.RowKit

def valCells : List Val → List Value
  | [] => []
  | v :: r => .int .i64 v.k :: .int .i64 v.n :: valCells r

theorem valCells_length (l : List Val) : (valCells l).length = l.length * 2 := by
  induction l with
  | nil => rfl
  | cons v r ih => simp [valCells, ih]; omega

theorem valCells_k (l : List Val) : ∀ (i : Nat) (h : i < l.length), (valCells l)[i * 2]? = some (.int .i64 l[i].k) := by
  induction l with
  | nil => intro i h; simp at h
  | cons v r ih =>
    intro i h
    cases i with
    | zero => rfl
    | succ i => rw [show (i + 1) * 2 = i * 2 + 1 + 1 by omega]; simpa [valCells] using ih i (by simpa using h)

theorem valCells_n (l : List Val) : ∀ (i : Nat) (h : i < l.length), (valCells l)[i * 2 + 1]? = some (.int .i64 l[i].n) := by
  induction l with
  | nil => intro i h; simp at h
  | cons v r ih =>
    intro i h
    cases i with
    | zero => rfl
    | succ i => rw [show (i + 1) * 2 + 1 = (i * 2 + 1) + 1 + 1 by omega]; simpa [valCells] using ih i (by simpa using h)

theorem valCells_set (l : List Val) (v : Val) : ∀ (i : Nat), i < l.length → ((valCells l).set (i * 2) (.int .i64 v.k)).set (i * 2 + 1) (.int .i64 v.n) = valCells (l.set i v) := by
  induction l with
  | nil => intro i h; simp at h
  | cons x r ih =>
    intro i h
    cases i with
    | zero => rfl
    | succ i =>
      have := ih i (by simpa using h)
      rw [show (i + 1) * 2 + 1 = (i * 2 + 1) + 1 + 1 by omega, show (i + 1) * 2 = i * 2 + 1 + 1 by omega]
      simp only [valCells, List.set_cons_succ, this]

/-- Values lie in a row of the call's own. -/
abbrev ValRow (w : World) (B : Nat) (v : Value) (l : List Val) : Prop := w.ownsRow B 94 2 v l.length (valCells l)

def thgCells : List Int → List Value → List Value
  | s :: ss, f :: fs => .int .i64 s :: f :: thgCells ss fs
  | _, _ => []

/-- A run in memory of the call's own, its six fields in block m: the values' row is vv, the things' tv, with fields' rows fv, the lines' lv. -/
structure OwnRun (w : World) (B m : Nat) (s : St) (vv tv lv : Value) (fv : List Value) : Prop where
  low : B ≤ m
  at_ : w.cell? ⟨m, 0, none⟩ = some (.int .i64 s.at_)
  vars_ : w.cell? ⟨m, 1, none⟩ = some vv
  things_ : w.cell? ⟨m, 2, none⟩ = some tv
  taken_ : w.cell? ⟨m, 3, none⟩ = some (.int .i64 s.taken)
  lines_ : w.cell? ⟨m, 4, none⟩ = some lv
  fin_ : w.cell? ⟨m, 5, none⟩ = some (.int .i64 s.fin)
  thaw : ∀ j, w.frozen? ⟨m, j, none⟩ = false
  vars : ValRow w B vv s.vars
  things : w.ownsRow B 99 2 tv s.things.length (thgCells (s.things.map (·.site)) fv)
  count : fv.length = s.things.length
  fields : ∀ i (h : i < s.things.length), ValRow w B (fv[i]'(by rw [count]; exact h)) (s.things[i].fs)
  lines : w.ownsRow B 9 1 lv s.lines.length (s.lines.map .string)
  apart : (some m :: vv.ownBlock :: tv.ownBlock :: lv.ownBlock :: fv.map Value.ownBlock).Pairwise fun a b => ∀ x, a = some x → b ≠ some x

theorem ownsRow_block_lt {w : World} {B : Nat} {e : TypeId} {z : Nat} {v : Value} {n : Nat} {xs : List Value} (h : w.ownsRow B e z v n xs) {k : Nat} (hk : v.ownBlock = some k) : k < w.heap.size ∧ B ≤ k := by
  rcases h.2 with ⟨rfl, _⟩ | ⟨g, cap, cur, rfl, hb, hg, _⟩
  · cases hk
  · cases hk
    exact ⟨(Array.getElem?_eq_some_iff.1 hg).1, hb⟩

theorem ownsRow_of_block {w w' : World} {B : Nat} {e : TypeId} {z : Nat} {v : Value} {n : Nat} {xs : List Value} (h : w.ownsRow B e z v n xs) (hb : ∀ k, v.ownBlock = some k → w'.heap[k]? = w.heap[k]?) : w'.ownsRow B e z v n xs := by
  obtain ⟨h1, h2⟩ := h
  refine ⟨h1, ?_⟩
  rcases h2 with h2 | ⟨g, cap, cur, hv, hB, hg, r⟩
  · exact .inl h2
  · exact .inr ⟨g, cap, cur, hv, hB, by rw [hb g (by rw [hv]; rfl)]; exact hg, r⟩

/-- The blocks of a run. -/
def ownBlocks (m : Nat) (vv tv lv : Value) (fv : List Value) : List (Option Nat) := some m :: vv.ownBlock :: tv.ownBlock :: lv.ownBlock :: fv.map Value.ownBlock

/-- Where none of its blocks has turned the run is as it was. -/
theorem OwnRun.same {w w' : World} {B m : Nat} {s : St} {vv tv lv : Value} {fv : List Value} (h : OwnRun w B m s vv tv lv fv) (hb : ∀ k, some k ∈ ownBlocks m vv tv lv fv → w'.heap[k]? = w.heap[k]?) : OwnRun w' B m s vv tv lv fv := by
  have hm := hb m (by simp [ownBlocks])
  have c : ∀ j, w'.cell? ⟨m, j, none⟩ = w.cell? ⟨m, j, none⟩ := fun j => World.cell?_of_block (a := ⟨m, j, none⟩) hm
  have fz : ∀ j, w'.frozen? ⟨m, j, none⟩ = w.frozen? ⟨m, j, none⟩ := fun j => World.frozen?_of_block (a := ⟨m, j, none⟩) hm
  exact ⟨h.low, by rw [c]; exact h.at_, by rw [c]; exact h.vars_, by rw [c]; exact h.things_, by rw [c]; exact h.taken_, by rw [c]; exact h.lines_, by rw [c]; exact h.fin_, fun j => by rw [fz]; exact h.thaw j,
    ownsRow_of_block h.vars (fun k hk => hb k (by simp [ownBlocks, hk])), ownsRow_of_block h.things (fun k hk => hb k (by simp [ownBlocks, hk])), h.count,
    fun i hi => ownsRow_of_block (h.fields i hi) (fun k hk => hb k (by
      simp only [ownBlocks, List.mem_cons]; right; right; right; right
      exact List.mem_map.2 ⟨_, List.getElem_mem _, hk⟩)),
    ownsRow_of_block h.lines (fun k hk => hb k (by simp [ownBlocks, hk])), h.apart⟩

theorem OwnRun.lt {w : World} {B m : Nat} {s : St} {vv tv lv : Value} {fv : List Value} (h : OwnRun w B m s vv tv lv fv) {k : Nat} (hk : some k ∈ ownBlocks m vv tv lv fv) : k < w.heap.size := by
  simp only [ownBlocks, List.mem_cons] at hk
  rcases hk with hk | hk | hk | hk | hk
  · cases hk
    exact World.block_lt_of_cell? w ⟨m, 0, none⟩ h.at_
  · exact (ownsRow_block_lt h.vars hk.symm).1
  · exact (ownsRow_block_lt h.things hk.symm).1
  · exact (ownsRow_block_lt h.lines hk.symm).1
  · obtain ⟨x, hx, hxk⟩ := List.mem_map.1 hk
    obtain ⟨i, hi, rfl⟩ := List.getElem_of_mem hx
    exact (ownsRow_block_lt (h.fields i (by rw [← h.count]; exact hi)) hxk).1

theorem OwnRun.below {w w' : World} {B m : Nat} {s : St} {vv tv lv : Value} {fv : List Value} (h : OwnRun w B m s vv tv lv fv) (hb : Below w.heap.size w w') : OwnRun w' B m s vv tv lv fv :=
  h.same fun k hk => hb.block k (h.lt hk)
end Go.Proofs.YtmapdpcfanecdaaDoor
