/- A run as it lies in memory that the call itself has made: which cells and rows, and what a store or an append makes of them. -/
import Derived.Test.YtmapdpcfanecdaaDoorKlawbbp04
import Derived.Deep.AppendLies
import Derived.Laws.OwnMore
namespace Go.Proofs.YtmapdpcfanecdaaDoor
set_option linter.unusedVariables false
set_option linter.unusedSimpArgs false
open Go.RowKit

def valCells : List Val → List Value
  | [] => []
  | v :: r => .int .i64 v.k :: .int .i64 v.n :: valCells r

theorem valCells_length (l : List Val) : (valCells l).length = l.length * 2 := by
  induction l with
  | nil => rfl
  | cons v r ih => simp [valCells, ih]; omega

theorem valCells_k (l : List Val) : ∀ (i : Nat) (h : i < l.length), (valCells l)[i * 2]? = some (.int .i64 l[i].k) := by
  induction l with
  | nil => intro i h; simp at h
  | cons v r ih =>
    intro i h
    cases i with
    | zero => rfl
    | succ i => rw [show (i + 1) * 2 = i * 2 + 1 + 1 by omega]; simpa [valCells] using ih i (by simpa using h)

theorem valCells_n (l : List Val) : ∀ (i : Nat) (h : i < l.length), (valCells l)[i * 2 + 1]? = some (.int .i64 l[i].n) := by
  induction l with
  | nil => intro i h; simp at h
  | cons v r ih =>
    intro i h
    cases i with
    | zero => rfl
    | succ i => rw [show (i + 1) * 2 + 1 = (i * 2 + 1) + 1 + 1 by omega]; simpa [valCells] using ih i (by simpa using h)

theorem valCells_set (l : List Val) (v : Val) : ∀ (i : Nat), i < l.length → ((valCells l).set (i * 2) (.int .i64 v.k)).set (i * 2 + 1) (.int .i64 v.n) = valCells (l.set i v) := by
  induction l with
  | nil => intro i h; simp at h
  | cons x r ih =>
    intro i h
    cases i with
    | zero => rfl
    | succ i =>
      have := ih i (by simpa using h)
      rw [show (i + 1) * 2 + 1 = (i * 2 + 1) + 1 + 1 by omega, show (i + 1) * 2 = i * 2 + 1 + 1 by omega]
      simp only [valCells, List.set_cons_succ, this]

/-- Values lie in a row of the call's own. -/
abbrev ValRow (w : World) (B : Nat) (v : Value) (l : List Val) : Prop := w.ownsRow B 94 2 v l.length (valCells l)

def thgCells : List Int → List Value → List Value
  | s :: ss, f :: fs => .int .i64 s :: f :: thgCells ss fs
  | _, _ => []

/-- A run in memory of the call's own, its six fields in block m: the values' row is vv, the things' tv, with fields' rows fv, the lines' lv. -/
structure OwnRun (w : World) (B m : Nat) (s : St) (vv tv lv : Value) (fv : List Value) : Prop where
  low : B ≤ m
  at_ : w.cell? ⟨m, 0, none⟩ = some (.int .i64 s.at_)
  vars_ : w.cell? ⟨m, 1, none⟩ = some vv
  things_ : w.cell? ⟨m, 2, none⟩ = some tv
  taken_ : w.cell? ⟨m, 3, none⟩ = some (.int .i64 s.taken)
  lines_ : w.cell? ⟨m, 4, none⟩ = some lv
  fin_ : w.cell? ⟨m, 5, none⟩ = some (.int .i64 s.fin)
  thaw : ∀ j, w.frozen? ⟨m, j, none⟩ = false
  vars : ValRow w B vv s.vars
  things : w.ownsRow B 99 2 tv s.things.length (thgCells (s.things.map (·.site)) fv)
  count : fv.length = s.things.length
  fields : ∀ i (h : i < s.things.length), ValRow w B (fv[i]'(by rw [count]; exact h)) (s.things[i].fs)
  lines : w.ownsRow B 9 1 lv s.lines.length (s.lines.map .string)
  apart : (some m :: vv.ownBlock :: tv.ownBlock :: lv.ownBlock :: fv.map Value.ownBlock).Pairwise fun a b => ∀ x, a = some x → b ≠ some x

theorem ownsRow_block_lt {w : World} {B : Nat} {e : TypeId} {z : Nat} {v : Value} {n : Nat} {xs : List Value} (h : w.ownsRow B e z v n xs) {k : Nat} (hk : v.ownBlock = some k) : k < w.heap.size ∧ B ≤ k := by
  rcases h.2 with ⟨rfl, _⟩ | ⟨g, cap, cur, rfl, hb, hg, _⟩
  · cases hk
  · cases hk
    exact ⟨(Array.getElem?_eq_some_iff.1 hg).1, hb⟩

theorem ownsRow_of_block {w w' : World} {B : Nat} {e : TypeId} {z : Nat} {v : Value} {n : Nat} {xs : List Value} (h : w.ownsRow B e z v n xs) (hb : ∀ k, v.ownBlock = some k → w'.heap[k]? = w.heap[k]?) : w'.ownsRow B e z v n xs := by
  obtain ⟨h1, h2⟩ := h
  refine ⟨h1, ?_⟩
  rcases h2 with h2 | ⟨g, cap, cur, hv, hB, hg, r⟩
  · exact .inl h2
  · exact .inr ⟨g, cap, cur, hv, hB, by rw [hb g (by rw [hv]; rfl)]; exact hg, r⟩

/-- The blocks of a run. -/
def ownBlocks (m : Nat) (vv tv lv : Value) (fv : List Value) : List (Option Nat) := some m :: vv.ownBlock :: tv.ownBlock :: lv.ownBlock :: fv.map Value.ownBlock

/-- Where none of its blocks has turned the run is as it was. -/
theorem OwnRun.same {w w' : World} {B m : Nat} {s : St} {vv tv lv : Value} {fv : List Value} (h : OwnRun w B m s vv tv lv fv) (hb : ∀ k, some k ∈ ownBlocks m vv tv lv fv → w'.heap[k]? = w.heap[k]?) : OwnRun w' B m s vv tv lv fv := by
  have hm := hb m (by simp [ownBlocks])
  have c : ∀ j, w'.cell? ⟨m, j, none⟩ = w.cell? ⟨m, j, none⟩ := fun j => World.cell?_of_block (a := ⟨m, j, none⟩) hm
  have fz : ∀ j, w'.frozen? ⟨m, j, none⟩ = w.frozen? ⟨m, j, none⟩ := fun j => World.frozen?_of_block (a := ⟨m, j, none⟩) hm
  exact ⟨h.low, by rw [c]; exact h.at_, by rw [c]; exact h.vars_, by rw [c]; exact h.things_, by rw [c]; exact h.taken_, by rw [c]; exact h.lines_, by rw [c]; exact h.fin_, fun j => by rw [fz]; exact h.thaw j,
    ownsRow_of_block h.vars (fun k hk => hb k (by simp [ownBlocks, hk])), ownsRow_of_block h.things (fun k hk => hb k (by simp [ownBlocks, hk])), h.count,
    fun i hi => ownsRow_of_block (h.fields i hi) (fun k hk => hb k (by
      simp only [ownBlocks, List.mem_cons]; right; right; right; right
      exact List.mem_map.2 ⟨_, List.getElem_mem _, hk⟩)),
    ownsRow_of_block h.lines (fun k hk => hb k (by simp [ownBlocks, hk])), h.apart⟩

theorem OwnRun.lt {w : World} {B m : Nat} {s : St} {vv tv lv : Value} {fv : List Value} (h : OwnRun w B m s vv tv lv fv) {k : Nat} (hk : some k ∈ ownBlocks m vv tv lv fv) : k < w.heap.size := by
  simp only [ownBlocks, List.mem_cons] at hk
  rcases hk with hk | hk | hk | hk | hk
  · cases hk
    exact World.block_lt_of_cell? w ⟨m, 0, none⟩ h.at_
  · exact (ownsRow_block_lt h.vars hk.symm).1
  · exact (ownsRow_block_lt h.things hk.symm).1
  · exact (ownsRow_block_lt h.lines hk.symm).1
  · obtain ⟨x, hx, hxk⟩ := List.mem_map.1 hk
    obtain ⟨i, hi, rfl⟩ := List.getElem_of_mem hx
    exact (ownsRow_block_lt (h.fields i (by rw [← h.count]; exact hi)) hxk).1

theorem OwnRun.below {w w' : World} {B m : Nat} {s : St} {vv tv lv : Value} {fv : List Value} (h : OwnRun w B m s vv tv lv fv) (hb : Below w.heap.size w w') : OwnRun w' B m s vv tv lv fv :=
  h.same fun k hk => hb.block k (h.lt hk)
end Go.Proofs.YtmapdpcfanecdaaDoor
