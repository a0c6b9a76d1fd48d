/- A region that draws its order, reads under one condition on the world, and ends in stores that wait for all that was read: behind those stores the condition need not hold. -/
import Derived.Test.YtmapdpcfanecdaaDoorKlawrsp03
import Derived.Test.YtmapdpcfanecdaaDoorShelf
import Derived.Shelf.Strings.Builder1
import Derived.Deep.AppendLies
import Derived.Laws.OwnMore
import Derived.Test.YtmapdpcfanecdaaDoorKlawrsp06
import Derived.Test.YtmapdpcfanecdaaDoorCards
import Derived.Test.YtmapdpcfanecdaaDoorTie
import Derived.Test.YtmapdpcfanecdaaDoorKlawrsp05
import Derived.WalkKit
import Derived.ProofKit
import Derived.OpenShut
import Derived.Carry
import Derived.Deep.DeepHandedRow
import Derived.Deep.DeepWitnessRowRef
import Derived.Lib.LaidTab
import Derived.Lib.LaidIn
import Derived.Stop.LaidErr
import Derived.Shelf.Vars
import Derived.Deep.RegionHeld3
import Derived.Lib.QuietBelow
import Derived.BigQuiet
import Derived.Deep.DrawnRows
import Derived.BigRegion
import Derived.Deep.RegionHeld
import Derived.OwnWalk
namespace Go.Proofs.YtmapdpcfanecdaaDoor
set_option linter.unusedVariables false
set_option linter.unusedSimpArgs false
open Go.RowKit

theorem builder_size : ∃ j, Tryd.prog.info? 65 = some j ∧ j.size = 2 := by
  obtain ⟨j, hj, hjs⟩ := Option.map_eq_some_iff.1 Tryd.Builder_Extra_169.sizeBuilder
  exact ⟨j, hj, hjs⟩

set_option maxHeartbeats 1000000 in
set_option maxRecDepth 100000 in
theorem copyCheck_used (b : Nat) (w : World) (h0 : w.cell? ⟨b, 0, none⟩ = some (.pointer (some ⟨b, 0, none⟩))) :
    Calls Tryd.prog 60 #[.pointer (some ⟨b, 0, none⟩)] w fun e w' => e = .returned (.tuple #[]) ∧ w' = w := by
  obtain ⟨j, hj, _⟩ := builder_size
  go_enter Tryd.func60, Tryd.ntmps60
  go_wp2
  rw [Lib.run_neq_ptr_same w _ Tryd.underlying62 hj]
  go_wp2
  go_end0
  exact ⟨rfl, rfl⟩

set_option maxHeartbeats 1000000 in
set_option maxRecDepth 100000 in
theorem copyCheck_fresh (b : Nat) (w : World) (h0 : w.cell? ⟨b, 0, none⟩ = some (.pointer none)) (hsh : w.shape? b = some (65, 2)) (hfz : w.frozen? ⟨b, 0, none⟩ = false) :
    Calls Tryd.prog 60 #[.pointer (some ⟨b, 0, none⟩)] w fun e w' => e = .returned (.tuple #[]) ∧ w' = w.setCell ⟨b, 0, none⟩ (.pointer (some ⟨b, 0, none⟩)) := by
  obtain ⟨j, hj, hjs⟩ := builder_size
  go_enter Tryd.func60, Tryd.ntmps60
  go_wp2
  rw [Lib.run_to_unsafe w ⟨b, 0, none⟩ Tryd.underlying62 Tryd.underlying132 hj (by rw [hjs]; decide) hsh (Nat.zero_lt_succ 1)]
  simp only [Result.andThen]
  rw [Oper.upon_value]
  go_wp2
  rw [run_callFunc_extern Tryd.func87 (by kernel_rfl) (by kernel_rfl) (by kernel_rfl) (e := Extern.AbiNoEscape.same) (by kernel_rfl)]
  rw [Lib.run_noEscape]
  simp only [Result.andThen]
  rw [Oper.upon_value]
  go_wp2
  rw [Lib.run_from_unsafe w ⟨b, 0, none⟩ Tryd.underlying132 Tryd.underlying62 hj hsh Tryd.Builder_Extra_169.liesBuilder]
  simp only [Result.andThen]
  rw [Oper.upon_value]
  go_wp2
  go_end0
  exact ⟨rfl, rfl⟩

theorem copyCheck_any (B b : Nat) (bs : List Value) (w : World) (h : Lib.IsBuilder 65 5 B b bs w) :
    Calls Tryd.prog 60 #[.pointer (some ⟨b, 0, none⟩)] w fun e w' => e = .returned (.tuple #[]) ∧ (Lib.BuilderAt 65 5 B b (.pointer (some ⟨b, 0, none⟩)) bs w' ∧ Below B w w') := by
  rcases h with h | h
  · refine (copyCheck_fresh b w h.cell0 h.shape h.frozen0).mono ?_
    rintro e w' ⟨rfl, rfl⟩
    exact ⟨rfl, h.used _, (Below.refl B w).setCell (p := ⟨b, 0, none⟩) h.1 _⟩
  · refine (copyCheck_used b w h.cell0).mono ?_
    rintro e w' ⟨rfl, rfl⟩
    exact ⟨rfl, h, Below.refl B _⟩

set_option maxHeartbeats 2000000 in
set_option maxRecDepth 100000 in
/-- The builder has the text's bytes behind those that it had. -/
theorem writeString_any (B b : Nat) (bs : List Value) (s : ByteArray) (w : World) (h : Lib.IsBuilder 65 5 B b bs w) (hlen : bs.length + s.size ≤ 140737488355328) (hBw : B ≤ w.heap.size) :
    Calls Tryd.prog 30 #[.pointer (some ⟨b, 0, none⟩), .string s] w fun e w' => e = .returned (.tuple #[.int .i64 s.size, .nilIface]) ∧ (Lib.BuilderAt 65 5 B b (.pointer (some ⟨b, 0, none⟩)) (bs ++ Lib.strCells s) w' ∧ Below B w w') := by
  obtain ⟨ti, hi, hz0, hz1, hz2⟩ := info_parts Tryd.Builder_Extra_169.infoByte
  go_enter Tryd.func30, Tryd.ntmps30
  go_wp2_with (go_at_call 60; refine (copyCheck_any B b bs _ h).mono ?_)
  rintro e w1 ⟨rfl, h1, hb1⟩
  obtain ⟨hB, v, hbk, hown, hne⟩ := h1
  have c0 : w1.cell? ⟨b, 0, none⟩ = some (.pointer (some ⟨b, 0, none⟩)) := by rw [Lib.cell_of_heap hbk]; rfl
  have c1 : w1.cell? ⟨b, 1, none⟩ = some v := by rw [Lib.cell_of_heap hbk]; rfl
  go_wp2_with (at_builtin; refine Lib.wpList_append_own_string _ rfl _ _ 63 9 rfl B 5 ti Tryd.underlying63 Tryd.underlying9 hi hz0 hz1 hz2 _ _ _ rfl hown s rfl ?c3 ?c4 ?c5 ?_)
  case c3 => unfold maxLen; omega
  case c4 => omega
  case c5 => have := hb1.size; omega
  intro v' w2 hown' hgrow _
  have hlt : b < w1.heap.size := (Array.getElem?_eq_some_iff.1 hbk).1
  have hb2 : w2.heap[b]? = some (.cells #[.pointer (some ⟨b, 0, none⟩), v] 65 (0, 0)) := by
    rw [hgrow.block b hlt (fun e => hne e.symm)]
    exact hbk
  have d0 : w2.cell? ⟨b, 0, none⟩ = some (.pointer (some ⟨b, 0, none⟩)) := by rw [Lib.cell_of_heap hb2]; rfl
  have d1 : w2.cell? ⟨b, 1, none⟩ = some v := by rw [Lib.cell_of_heap hb2]; rfl
  have f1 : w2.frozen? ⟨b, 1, none⟩ = false := Lib.frozen_of_heap hb2 1
  obtain ⟨ao, n', cap, rfl⟩ : ∃ ao n' cap, v' = .slice ao n' cap := by
    rcases hown'.2 with ⟨hv, _⟩ | ⟨g, cap, cur, hv, _⟩
    · exact ⟨_, _, _, hv⟩
    · exact ⟨_, _, _, hv⟩
  go_wp2
  go_ret2
  refine ⟨rfl, ?_, ?_⟩
  · exact Lib.BuilderAt.put (T := 65) (e := 5) hB hb2 (bs' := bs ++ Lib.strCells s) (by simpa [Lib.strCells_length] using hown') Tryd.Builder_Extra_169.neB5
  · exact (hb1.grown hgrow (by have := hb1.size; omega) (fun k hk => (hown.lt k hk).1)).setCell (p := ⟨b, 1, none⟩) hB _
end Go.Proofs.YtmapdpcfanecdaaDoor

namespace Go.Proofs.YtmapdpcfanecdaaDoor
set_option linter.unusedVariables false
set_option linter.unusedSimpArgs false
open Go.RowKit

def valCells : List Val → List Value
  | [] => []
  | v :: r => .int .i64 v.k :: .int .i64 v.n :: valCells r

theorem valCells_length (l : List Val) : (valCells l).length = l.length * 2 := by
  induction l with
  | nil => rfl
  | cons v r ih => simp [valCells, ih]; omega

theorem valCells_k (l : List Val) : ∀ (i : Nat) (h : i < l.length), (valCells l)[i * 2]? = some (.int .i64 l[i].k) := by
  induction l with
  | nil => intro i h; simp at h
  | cons v r ih =>
    intro i h
    cases i with
    | zero => rfl
    | succ i => rw [show (i + 1) * 2 = i * 2 + 1 + 1 by omega]; simpa [valCells] using ih i (by simpa using h)

theorem valCells_n (l : List Val) : ∀ (i : Nat) (h : i < l.length), (valCells l)[i * 2 + 1]? = some (.int .i64 l[i].n) := by
  induction l with
  | nil => intro i h; simp at h
  | cons v r ih =>
    intro i h
    cases i with
    | zero => rfl
    | succ i => rw [show (i + 1) * 2 + 1 = (i * 2 + 1) + 1 + 1 by omega]; simpa [valCells] using ih i (by simpa using h)

theorem valCells_set (l : List Val) (v : Val) : ∀ (i : Nat), i < l.length → ((valCells l).set (i * 2) (.int .i64 v.k)).set (i * 2 + 1) (.int .i64 v.n) = valCells (l.set i v) := by
  induction l with
  | nil => intro i h; simp at h
  | cons x r ih =>
    intro i h
    cases i with
    | zero => rfl
    | succ i =>
      have := ih i (by simpa using h)
      rw [show (i + 1) * 2 + 1 = (i * 2 + 1) + 1 + 1 by omega, show (i + 1) * 2 = i * 2 + 1 + 1 by omega]
      simp only [valCells, List.set_cons_succ, this]

/-- Values lie in a row of the call's own. -/
abbrev ValRow (w : World) (B : Nat) (v : Value) (l : List Val) : Prop := w.ownsRow B 94 2 v l.length (valCells l)

def thgCells : List Int → List Value → List Value
  | s :: ss, f :: fs => .int .i64 s :: f :: thgCells ss fs
  | _, _ => []

/-- A run in memory of the call's own, its six fields in block m: the values' row is vv, the things' tv, with fields' rows fv, the lines' lv. -/
structure OwnRun (w : World) (B m : Nat) (s : St) (vv tv lv : Value) (fv : List Value) : Prop where
  low : B ≤ m
  at_ : w.cell? ⟨m, 0, none⟩ = some (.int .i64 s.at_)
  vars_ : w.cell? ⟨m, 1, none⟩ = some vv
  things_ : w.cell? ⟨m, 2, none⟩ = some tv
  taken_ : w.cell? ⟨m, 3, none⟩ = some (.int .i64 s.taken)
  lines_ : w.cell? ⟨m, 4, none⟩ = some lv
  fin_ : w.cell? ⟨m, 5, none⟩ = some (.int .i64 s.fin)
  thaw : ∀ j, w.frozen? ⟨m, j, none⟩ = false
  vars : ValRow w B vv s.vars
  things : w.ownsRow B 99 2 tv s.things.length (thgCells (s.things.map (·.site)) fv)
  count : fv.length = s.things.length
  fields : ∀ i (h : i < s.things.length), ValRow w B (fv[i]'(by rw [count]; exact h)) (s.things[i].fs)
  lines : w.ownsRow B 9 1 lv s.lines.length (s.lines.map .string)
  apart : (some m :: vv.ownBlock :: tv.ownBlock :: lv.ownBlock :: fv.map Value.ownBlock).Pairwise fun a b => ∀ x, a = some x → b ≠ some x

theorem ownsRow_block_lt {w : World} {B : Nat} {e : TypeId} {z : Nat} {v : Value} {n : Nat} {xs : List Value} (h : w.ownsRow B e z v n xs) {k : Nat} (hk : v.ownBlock = some k) : k < w.heap.size ∧ B ≤ k := by
  rcases h.2 with ⟨rfl, _⟩ | ⟨g, cap, cur, rfl, hb, hg, _⟩
  · cases hk
  · cases hk
    exact ⟨(Array.getElem?_eq_some_iff.1 hg).1, hb⟩

theorem ownsRow_of_block {w w' : World} {B : Nat} {e : TypeId} {z : Nat} {v : Value} {n : Nat} {xs : List Value} (h : w.ownsRow B e z v n xs) (hb : ∀ k, v.ownBlock = some k → w'.heap[k]? = w.heap[k]?) : w'.ownsRow B e z v n xs := by
  obtain ⟨h1, h2⟩ := h
  refine ⟨h1, ?_⟩
  rcases h2 with h2 | ⟨g, cap, cur, hv, hB, hg, r⟩
  · exact .inl h2
  · exact .inr ⟨g, cap, cur, hv, hB, by rw [hb g (by rw [hv]; rfl)]; exact hg, r⟩

/-- The blocks of a run. -/
def ownBlocks (m : Nat) (vv tv lv : Value) (fv : List Value) : List (Option Nat) := some m :: vv.ownBlock :: tv.ownBlock :: lv.ownBlock :: fv.map Value.ownBlock

/-- Where none of its blocks has turned the run is as it was. -/
theorem OwnRun.same {w w' : World} {B m : Nat} {s : St} {vv tv lv : Value} {fv : List Value} (h : OwnRun w B m s vv tv lv fv) (hb : ∀ k, some k ∈ ownBlocks m vv tv lv fv → w'.heap[k]? = w.heap[k]?) : OwnRun w' B m s vv tv lv fv := by
  have hm := hb m (by simp [ownBlocks])
  have c : ∀ j, w'.cell? ⟨m, j, none⟩ = w.cell? ⟨m, j, none⟩ := fun j => World.cell?_of_block (a := ⟨m, j, none⟩) hm
  have fz : ∀ j, w'.frozen? ⟨m, j, none⟩ = w.frozen? ⟨m, j, none⟩ := fun j => World.frozen?_of_block (a := ⟨m, j, none⟩) hm
  exact ⟨h.low, by rw [c]; exact h.at_, by rw [c]; exact h.vars_, by rw [c]; exact h.things_, by rw [c]; exact h.taken_, by rw [c]; exact h.lines_, by rw [c]; exact h.fin_, fun j => by rw [fz]; exact h.thaw j,
    ownsRow_of_block h.vars (fun k hk => hb k (by simp [ownBlocks, hk])), ownsRow_of_block h.things (fun k hk => hb k (by simp [ownBlocks, hk])), h.count,
    fun i hi => ownsRow_of_block (h.fields i hi) (fun k hk => hb k (by
      simp only [ownBlocks, List.mem_cons]; right; right; right; right
      exact List.mem_map.2 ⟨_, List.getElem_mem _, hk⟩)),
    ownsRow_of_block h.lines (fun k hk => hb k (by simp [ownBlocks, hk])), h.apart⟩

theorem OwnRun.lt {w : World} {B m : Nat} {s : St} {vv tv lv : Value} {fv : List Value} (h : OwnRun w B m s vv tv lv fv) {k : Nat} (hk : some k ∈ ownBlocks m vv tv lv fv) : k < w.heap.size := by
  simp only [ownBlocks, List.mem_cons] at hk
  rcases hk with hk | hk | hk | hk | hk
  · cases hk
    exact World.block_lt_of_cell? w ⟨m, 0, none⟩ h.at_
  · exact (ownsRow_block_lt h.vars hk.symm).1
  · exact (ownsRow_block_lt h.things hk.symm).1
  · exact (ownsRow_block_lt h.lines hk.symm).1
  · obtain ⟨x, hx, hxk⟩ := List.mem_map.1 hk
    obtain ⟨i, hi, rfl⟩ := List.getElem_of_mem hx
    exact (ownsRow_block_lt (h.fields i (by rw [← h.count]; exact hi)) hxk).1

theorem OwnRun.below {w w' : World} {B m : Nat} {s : St} {vv tv lv : Value} {fv : List Value} (h : OwnRun w B m s vv tv lv fv) (hb : Below w.heap.size w w') : OwnRun w' B m s vv tv lv fv :=
  h.same fun k hk => hb.block k (h.lt hk)
end Go.Proofs.YtmapdpcfanecdaaDoor

namespace Go.Proofs.YtmapdpcfanecdaaDoor
set_option linter.unusedVariables false
set_option linter.unusedSimpArgs false
open Go.RowKit

/-- The library's table of powers lies as its text lays it. -/
def Tab (w : World) : Prop := Lib.TabIs Tryd.prog w "internal/strconv.uint64pow10" .u64 Lib.pow10Tab
theorem tab_global : ∃ g, Tryd.prog.globalNamed "internal/strconv.uint64pow10" = some g := by
  have h : (Tryd.prog.globalNamed "internal/strconv.uint64pow10").isSome = true := by kernel_rfl
  exact Option.isSome_iff_exists.1 h
theorem Tab.below {w w' : World} (h : Tab w) (hb : Below w.heap.size w w') : Tab w' := by
  obtain ⟨g, hg⟩ := tab_global
  have hc := h.cell hg 0 (by decide)
  exact var?_below hb hg (World.block_lt_of_cell? w _ hc) h

theorem itoa_any (n : Int) (w : World) (h : fits n) (ht : Tab w) :
    Calls Tryd.prog 62 #[.int .i64 n] w fun e w' => e = .returned (.string (itoaB n)) ∧ Below w.heap.size w w' := by
  refine (Tryd.strconv_Itoa n h.1 h.2 w ht).mono ?_
  rintro e w' ⟨rfl, k, os, rfl⟩
  exact ⟨rfl, ⟨rfl, rfl, rfl, by simp [Sort.grow], fun i hi => by simp [Sort.grow, Array.getElem?_append, World.drewN, hi]⟩⟩

/-- Words, one blank between. -/
def joinB (xs : List ByteArray) : ByteArray := ⟨(Lib.join (xs.map (·.data.toList)) [32]).toArray⟩

set_option maxHeartbeats 1000000 in
theorem printLine_own (B : Nat) (v : Value) (xs : List ByteArray) (w : World) (hown : w.ownsRow B 9 1 v xs.length (xs.map .string)) (h0 : 0 < xs.length) (hx : xs.length ≤ 10) (hs : (joinB xs).size ≤ 1000) :
    Calls Tryd.prog 61 #[v] w fun e w' => e = .returned (.string (joinB xs ++ ⟨#[10]⟩)) ∧ Below w.heap.size w w' := by
  obtain ⟨g, cap, rfl, hb, hlt⟩ := hown.form h0
  have hcap : xs.length ≤ cap := by
    rcases hown.2 with ⟨hv, _⟩ | ⟨g', cap', cur, hv, _, _, hc, _⟩
    · cases hv
    · cases hv; exact hc
  have hcells : ∀ (j : Nat) x, xs[j]? = some x → w.cell? ⟨g, 0 + j, none⟩ = some (.string x) := by
    intro j x hj
    have hjl : j < xs.length := by
      rcases Nat.lt_or_ge j xs.length with h | h
      · exact h
      · rw [List.getElem?_eq_none h] at hj; cases hj
    rw [Nat.zero_add, hown.cellAt j (by omega)]
    simp [hj]
  have hl : (Lib.join (xs.map (·.data.toList)) [32]).length = (joinB xs).size := rfl
  have u1 : ¬ 9223372036854775807 < (joinB xs).size + 1 := by omega
  have hj : Calls Tryd.prog 88 #[.slice (some ⟨g, 0, none⟩) xs.length cap, .string ⟨#[32]⟩] w fun e w' => e = .returned (.string (joinB xs)) ∧ Below w.heap.size w w' :=
    Tryd.strings_Join g 0 cap xs ⟨#[32]⟩ w hcells hlt (by omega) hcap (by show (Lib.join (xs.map (·.data.toList)) [32]).length ≤ _; omega)
  go_enter Tryd.func61, Tryd.ntmps61
  go_wp2_with (go_at_call 88; refine hj.mono ?_; rintro e w1 ⟨rfl, hb1⟩)
  go_ret
  exact ⟨rfl, hb1⟩
end Go.Proofs.YtmapdpcfanecdaaDoor

namespace Go.Proofs.YtmapdpcfanecdaaDoor
set_option linter.unusedVariables false
set_option linter.unusedSimpArgs false
open Go.ChangeShapes Go.WideShapes Go.ChangeAt Go.RowKit

theorem own : ownKnob Tryd.prog.godebug = none := by kernel_rfl

theorem cap_of {W : World} (h : W.ShapedOpen Tryd.prog) : ∃ m, W.cell? ⟨0, 0, none⟩ = some (.int .i64 m) :=
  cell_of_shapedOpen_int (zero := #[.int .i64 0]) (t := 3) h (of_decide_eq_true (by kernel_rfl)) (by kernel_rfl) rfl (by kernel_rfl) (by kernel_rfl) Tryd.underlying3

theorem tab_of {r : List (String × DataW Unit)} {W : World} (h : laidMet Tryd.prog (("internal/strconv.uint64pow10", Rows.laid_internal_strconv_uint64pow10) :: r) W) : Tab W :=
  Lib.tabIs_of_head (rest := r) (g := 1) (t := 158) (e := 148) (by kernel_rfl) (by kernel_rfl) Tryd.underlying158 Tryd.underlying148 (by kernel_rfl) (by kernel_rfl) h

/-- The values that a listed table holds. -/
def valOf : DataW Unit → Value
  | .lit (.int k z) => .int k z
  | _ => .int .i64 0
def rowOf : DataW Unit → List Value
  | .agg ps => ps.map valOf
  | _ => []
def rowsOf : DataW Unit → List Value
  | .agg ps => ps.flatMap rowOf
  | _ => []

/-- A world for the witness: the settled one, two blocks more (the two errors' structs), the listed variables holding what their initialisers lay. -/
def laidWorld (P : Program) (os : Os) : World :=
  let N := (World.settled P os).heap.size
  let w0 := World.holding P os ⟨#[.cells #[.string ⟨#[105, 110, 118, 97, 108, 105, 100, 32, 115, 121, 110, 116, 97, 120]⟩] 189, .cells #[.string ⟨#[118, 97, 108, 117, 101, 32, 111, 117, 116, 32, 111, 102, 32, 114, 97, 110, 103, 101]⟩] 189], #[], []⟩
  let put (h : Array Obj) (g : Nat) (cs : Array Value) : Array Obj := h.modify g fun
    | .cells _ t frozen => .cells cs t frozen
    | o => o
  let h1 := put w0.heap 2 #[.iface 187 (.pointer (some ⟨N, 0, none⟩))]
  let h2 := put h1 3 #[.iface 187 (.pointer (some ⟨N + 1, 0, none⟩))]
  let h3 := put h2 1 (rowOf Rows.laid_internal_strconv_uint64pow10).toArray
  let h4 := put h3 4 (rowOf Rows.laid_math_bits_deBruijn32tab).toArray
  let h5 := put h4 5 (rowOf Rows.laid_math_bits_deBruijn64tab).toArray
  let h6 := put h5 6 (rowOf Rows.laid_unicode_utf8_first).toArray
  let h7 := put h6 7 (rowsOf Rows.laid_unicode_utf8_acceptRanges).toArray
  { w0 with heap := h7 }

theorem laid_in (os : Os) (args : Array Value) : Go.LaidIn Tryd.prog ((laidWorld Tryd.prog os).forCall (fun _ _ => 0) ⟨#[], args, []⟩).memory Rows.codePrintsRow.laid [4, 5, 1, 7, 3, 2, (World.settled Tryd.prog default).heap.size, (World.settled Tryd.prog default).heap.size + 1, 6] :=
  Go.LaidIn.of_run _ 8 (by kernel_rfl) (by kernel_rfl) (by kernel_rfl) (by kernel_rfl)
theorem laid_met (os : Os) (args : Array Value) : laidMet Tryd.prog Rows.codePrintsRow.laid ((laidWorld Tryd.prog os).forCall (fun _ _ => 0) ⟨#[], args, []⟩).memory := (laid_in os args).met
end Go.Proofs.YtmapdpcfanecdaaDoor

namespace Go.Proofs.YtmapdpcfanecdaaDoor
set_option linter.unusedVariables false
set_option linter.unusedSimpArgs false
open Go.ChangeShapes Go.WideShapes Go.ChangeAt Go.RowKit

theorem laid_inR (os : Os) (args : Array Value) : Go.LaidIn Tryd.prog ((laidWorld Tryd.prog os).forCall (fun _ _ => 0) ⟨#[], args, []⟩).memory Rows.runRunsRow.laid [4, 5, 1] :=
  Go.LaidIn.of_run _ 8 (by kernel_rfl) (by kernel_rfl) (by kernel_rfl) (by kernel_rfl)
theorem laid_metR (os : Os) (args : Array Value) : laidMet Tryd.prog Rows.runRunsRow.laid ((laidWorld Tryd.prog os).forCall (fun _ _ => 0) ⟨#[], args, []⟩).memory := (laid_inR os args).met
end Go.Proofs.YtmapdpcfanecdaaDoor

namespace Go.Proofs.YtmapdpcfanecdaaDoor
set_option linter.unusedVariables false
set_option linter.unusedSimpArgs false
open Go.RowKit

theorem wrap32_wr (n : Int) : wrap32 n = wr n := by unfold wrap32 wr; omega

theorem wrap64_wrap32 (n : Int) : wrap64 (wrap32 n) = wrap32 n := by unfold wrap64 wrap32; omega

theorem ret_agg2 {a b c d : Value} (h : a = c) (h' : b = d) : Ending.returned (.agg #[a, b]) = .returned (.agg #[c, d]) := by rw [h, h']

set_option maxHeartbeats 400000 in
theorem number_any (n : Int) (w : World) :
    Calls Tryd.prog 95 #[.int .i64 n] w fun e w' => e = .returned (.agg #[.int .i64 1, .int .i64 (wr n)]) ∧ Below w.heap.size w w' := by
  go_enter Tryd.func95, Tryd.ntmps95
  go_wp2
  go_returns
  exact ⟨ret_agg2 rfl (by rw [← wrap32_wr, wrap64_wrap32]), by go_grown⟩

set_option maxHeartbeats 400000 in
theorem truth_any (b : Bool) (w : World) :
    Calls Tryd.prog 96 #[.bool b] w fun e w' => e = .returned (.agg #[.int .i64 (truV b).k, .int .i64 (truV b).n]) ∧ Below w.heap.size w w' := by
  cases b
  all_goals
    go_enter Tryd.func96, Tryd.ntmps96
    go_wp2
    go_returns
    exact ⟨rfl, by go_grown⟩

set_option maxHeartbeats 1000000 in
theorem counts_null (w : World) :
    Calls Tryd.prog 98 #[.agg #[.int .i64 0, .int .i64 0]] w fun e w' => e = .returned (.bool false) ∧ Below w.heap.size w w' := by
  have c0 := cell_regrown (w := w.alloc (.cells #[.int .i64 0, .int .i64 0] 94)) (a := ⟨w.heap.size, 0, none⟩) (v := .int .i64 0) (by simp [go_sem])
  have c1 := cell_regrown (w := w.alloc (.cells #[.int .i64 0, .int .i64 0] 94)) (a := ⟨w.heap.size, 1, none⟩) (v := .int .i64 0) (by simp [go_sem])
  have t0 : (truV false).k = 2 := rfl
  have t1 : (truV false).n = 0 := rfl
  have t2 : wr 0 = 0 := rfl
  go_enter Tryd.func98, Tryd.ntmps98
  go_wp2
  refine wp_region_quiet_below (by kernel_rfl) (by kernel_rfl) ?_
  repeat (quiet_step (first | exact Calls.regrown_of (truth_any false _) | exact Calls.regrown_of (number_any 0 _)))
  refine wpQuiet_nil ?_
  intro _ hw'
  obtain ⟨⟨dq, osq⟩, hw''⟩ := hw'
  subst hw''
  go_wp2
  go_ret
  exact ⟨rfl, Below.trans (by go_grown) ((below_regrown _ dq osq).mono (by go_size))⟩

set_option maxHeartbeats 1000000 in
theorem counts_num (n : Int) (w : World) (h : (n == 0) = false) :
    Calls Tryd.prog 98 #[.agg #[.int .i64 1, .int .i64 n]] w fun e w' => e = .returned (.bool true) ∧ Below w.heap.size w w' := by
  have c0 := cell_regrown (w := w.alloc (.cells #[.int .i64 1, .int .i64 n] 94)) (a := ⟨w.heap.size, 0, none⟩) (v := .int .i64 1) (by simp [go_sem])
  have c1 := cell_regrown (w := w.alloc (.cells #[.int .i64 1, .int .i64 n] 94)) (a := ⟨w.heap.size, 1, none⟩) (v := .int .i64 n) (by simp [go_sem])
  have t0 : (truV false).k = 2 := rfl
  have t1 : (truV false).n = 0 := rfl
  have t2 : wr 0 = 0 := rfl
  go_enter Tryd.func98, Tryd.ntmps98
  go_wp2
  refine wp_region_quiet_below (by kernel_rfl) (by kernel_rfl) ?_
  repeat (quiet_step (first | exact Calls.regrown_of (truth_any false _) | exact Calls.regrown_of (number_any 0 _)))
  refine wpQuiet_nil ?_
  intro _ hw'
  obtain ⟨⟨dq, osq⟩, hw''⟩ := hw'
  subst hw''
  go_wp2
  go_ret
  exact ⟨rfl, Below.trans (by go_grown) ((below_regrown _ dq osq).mono (by go_size))⟩

set_option maxHeartbeats 1000000 in
theorem counts_zero (w : World) :
    Calls Tryd.prog 98 #[.agg #[.int .i64 1, .int .i64 0]] w fun e w' => e = .returned (.bool false) ∧ Below w.heap.size w w' := by
  have c0 := cell_regrown (w := w.alloc (.cells #[.int .i64 1, .int .i64 0] 94)) (a := ⟨w.heap.size, 0, none⟩) (v := .int .i64 1) (by simp [go_sem])
  have c1 := cell_regrown (w := w.alloc (.cells #[.int .i64 1, .int .i64 0] 94)) (a := ⟨w.heap.size, 1, none⟩) (v := .int .i64 0) (by simp [go_sem])
  have t0 : (truV false).k = 2 := rfl
  have t1 : (truV false).n = 0 := rfl
  have t2 : wr 0 = 0 := rfl
  go_enter Tryd.func98, Tryd.ntmps98
  go_wp2
  refine wp_region_quiet_below (by kernel_rfl) (by kernel_rfl) ?_
  repeat (quiet_step (first | exact Calls.regrown_of (truth_any false _) | exact Calls.regrown_of (number_any 0 _)))
  refine wpQuiet_nil ?_
  intro _ hw'
  obtain ⟨⟨dq, osq⟩, hw''⟩ := hw'
  subst hw''
  go_wp2
  go_ret
  exact ⟨rfl, Below.trans (by go_grown) ((below_regrown _ dq osq).mono (by go_size))⟩

set_option maxHeartbeats 1000000 in
theorem counts_true (w : World) :
    Calls Tryd.prog 98 #[.agg #[.int .i64 2, .int .i64 1]] w fun e w' => e = .returned (.bool true) ∧ Below w.heap.size w w' := by
  have c0 := cell_regrown (w := w.alloc (.cells #[.int .i64 2, .int .i64 1] 94)) (a := ⟨w.heap.size, 0, none⟩) (v := .int .i64 2) (by simp [go_sem])
  have c1 := cell_regrown (w := w.alloc (.cells #[.int .i64 2, .int .i64 1] 94)) (a := ⟨w.heap.size, 1, none⟩) (v := .int .i64 1) (by simp [go_sem])
  have t0 : (truV false).k = 2 := rfl
  have t1 : (truV false).n = 0 := rfl
  have t2 : wr 0 = 0 := rfl
  go_enter Tryd.func98, Tryd.ntmps98
  go_wp2
  refine wp_region_quiet_below (by kernel_rfl) (by kernel_rfl) ?_
  repeat (quiet_step (first | exact Calls.regrown_of (truth_any false _) | exact Calls.regrown_of (number_any 0 _)))
  refine wpQuiet_nil ?_
  intro _ hw'
  obtain ⟨⟨dq, osq⟩, hw''⟩ := hw'
  subst hw''
  go_wp2
  go_ret
  exact ⟨rfl, Below.trans (by go_grown) ((below_regrown _ dq osq).mono (by go_size))⟩

set_option maxHeartbeats 1000000 in
theorem counts_false (w : World) :
    Calls Tryd.prog 98 #[.agg #[.int .i64 2, .int .i64 0]] w fun e w' => e = .returned (.bool false) ∧ Below w.heap.size w w' := by
  have c0 := cell_regrown (w := w.alloc (.cells #[.int .i64 2, .int .i64 0] 94)) (a := ⟨w.heap.size, 0, none⟩) (v := .int .i64 2) (by simp [go_sem])
  have c1 := cell_regrown (w := w.alloc (.cells #[.int .i64 2, .int .i64 0] 94)) (a := ⟨w.heap.size, 1, none⟩) (v := .int .i64 0) (by simp [go_sem])
  have t0 : (truV false).k = 2 := rfl
  have t1 : (truV false).n = 0 := rfl
  have t2 : wr 0 = 0 := rfl
  go_enter Tryd.func98, Tryd.ntmps98
  go_wp2
  refine wp_region_quiet_below (by kernel_rfl) (by kernel_rfl) ?_
  repeat (quiet_step (first | exact Calls.regrown_of (truth_any false _) | exact Calls.regrown_of (number_any 0 _)))
  refine wpQuiet_nil ?_
  intro _ hw'
  obtain ⟨⟨dq, osq⟩, hw''⟩ := hw'
  subst hw''
  go_wp2
  go_ret
  exact ⟨rfl, Below.trans (by go_grown) ((below_regrown _ dq osq).mono (by go_size))⟩

set_option maxHeartbeats 1000000 in
theorem counts_thing (n : Int) (w : World) :
    Calls Tryd.prog 98 #[.agg #[.int .i64 3, .int .i64 n]] w fun e w' => e = .returned (.bool true) ∧ Below w.heap.size w w' := by
  have c0 := cell_regrown (w := w.alloc (.cells #[.int .i64 3, .int .i64 n] 94)) (a := ⟨w.heap.size, 0, none⟩) (v := .int .i64 3) (by simp [go_sem])
  have c1 := cell_regrown (w := w.alloc (.cells #[.int .i64 3, .int .i64 n] 94)) (a := ⟨w.heap.size, 1, none⟩) (v := .int .i64 n) (by simp [go_sem])
  have t0 : (truV false).k = 2 := rfl
  have t1 : (truV false).n = 0 := rfl
  have t2 : wr 0 = 0 := rfl
  go_enter Tryd.func98, Tryd.ntmps98
  go_wp2
  refine wp_region_quiet_below (by kernel_rfl) (by kernel_rfl) ?_
  repeat (quiet_step (first | exact Calls.regrown_of (truth_any false _) | exact Calls.regrown_of (number_any 0 _)))
  refine wpQuiet_nil ?_
  intro _ hw'
  obtain ⟨⟨dq, osq⟩, hw''⟩ := hw'
  subst hw''
  go_wp2
  go_ret
  exact ⟨rfl, Below.trans (by go_grown) ((below_regrown _ dq osq).mono (by go_size))⟩

theorem counts_any (T : Nat) (v : Val) (w : World) (h : okVal T v) :
    Calls Tryd.prog 98 #[.agg #[.int .i64 v.k, .int .i64 v.n]] w fun e w' => e = .returned (.bool (cnt v)) ∧ Below w.heap.size w w' := by
  obtain ⟨k, n⟩ := v
  simp only [okVal] at h
  rcases h with ⟨rfl, rfl⟩ | ⟨rfl, _⟩ | ⟨rfl, rfl | rfl⟩ | ⟨rfl, _⟩
  · exact counts_null w
  · by_cases hn : n = 0
    · subst hn; exact counts_zero w
    · simpa [cnt, hn] using counts_num n w (by simpa using hn)
  · exact counts_false w
  · exact counts_true w
  · exact counts_thing n w
end Go.Proofs.YtmapdpcfanecdaaDoor

namespace Go.Proofs.YtmapdpcfanecdaaDoor
set_option linter.unusedVariables false
set_option linter.unusedSimpArgs false
open Go.RowKit

section
variable {w w' : World} {B m : Nat} {s : St} {vv tv lv : Value} {fv : List Value}

theorem heap_set2 (w : World) (g j j' : Nat) (u u' : Value) (k : Nat) (h : k ≠ g) : ((w.setCell ⟨g, j, none⟩ u).setCell ⟨g, j', none⟩ u').heap[k]? = w.heap[k]? := by
  rw [Below.heap_setCell _ _ _ _ h, Below.heap_setCell _ _ _ _ h]

theorem OwnRun.vars_apart (h : OwnRun w B m s vv tv lv fv) {g : Nat} (hg : vv.ownBlock = some g) : ∀ k, some k ∈ (some m :: tv.ownBlock :: lv.ownBlock :: fv.map Value.ownBlock) → k ≠ g := by
  have ha := h.apart
  simp only [List.pairwise_cons, List.mem_cons] at ha
  obtain ⟨h1, h2, _⟩ := ha
  intro k hk e
  subst e
  rcases List.mem_cons.1 hk with hk | hk
  · cases hk
    exact h1 _ (.inl rfl) _ rfl hg
  · exact h2 (some k) (by simpa [or_assoc] using hk) k hg rfl

theorem OwnRun.m_apart (h : OwnRun w B m s vv tv lv fv) : ∀ k, some k ∈ (vv.ownBlock :: tv.ownBlock :: lv.ownBlock :: fv.map Value.ownBlock) → k ≠ m := by
  have ha := h.apart
  simp only [List.pairwise_cons] at ha
  intro k hk e
  subst e
  exact ha.1 (some k) hk k rfl rfl

theorem ownsRow_len {e : TypeId} {z : Nat} {a : Option Addr} {n n' cap : Nat} {xs : List Value} (h : w.ownsRow B e z (.slice a n cap) n' xs) : n = n' := by
  rcases h.2 with ⟨hv, hn⟩ | ⟨g, c, cur, hv, _⟩
  · cases hv; exact hn.symm
  · cases hv; rfl

/-- A value stored into a variable. -/
theorem OwnRun.put {g n cap : Nat} (h : OwnRun w B m s (.slice (some ⟨g, 0, none⟩) n cap) tv lv fv) (i : Nat) (hi : i < s.vars.length) (v : Val) :
    OwnRun ((w.setCell ⟨g, i * 2, none⟩ (.int .i64 v.k)).setCell ⟨g, i * 2 + 1, none⟩ (.int .i64 v.n)) B m { s with vars := s.vars.set i v } (.slice (some ⟨g, 0, none⟩) n cap) tv lv fv := by
  have ap := h.vars_apart (g := g) rfl
  have hb := heap_set2 w g (i * 2) (i * 2 + 1) (.int .i64 v.k) (.int .i64 v.n)
  have hm := hb m (ap m (by simp))
  have c : ∀ j, ((w.setCell ⟨g, i * 2, none⟩ (.int .i64 v.k)).setCell ⟨g, i * 2 + 1, none⟩ (.int .i64 v.n)).cell? ⟨m, j, none⟩ = w.cell? ⟨m, j, none⟩ := fun j => World.cell?_of_block (a := ⟨m, j, none⟩) hm
  have fz : ∀ j, ((w.setCell ⟨g, i * 2, none⟩ (.int .i64 v.k)).setCell ⟨g, i * 2 + 1, none⟩ (.int .i64 v.n)).frozen? ⟨m, j, none⟩ = w.frozen? ⟨m, j, none⟩ := fun j => World.frozen?_of_block (a := ⟨m, j, none⟩) hm
  have hn : n = s.vars.length := ownsRow_len h.vars
  have hv0 : w.ownsRow B 94 2 (.slice (some ⟨g, 0, none⟩) n cap) n (valCells s.vars) := by have := h.vars; unfold ValRow at this; rw [← hn] at this; exact this
  have hv1 := (((hv0.stored (i * 2) (.int .i64 v.k)).1).stored (i * 2 + 1) (.int .i64 v.n)).1
  rw [valCells_set s.vars v i hi] at hv1
  refine ⟨h.low, by rw [c]; exact h.at_, by rw [c]; exact h.vars_, by rw [c]; exact h.things_, by rw [c]; exact h.taken_, by rw [c]; exact h.lines_, by rw [c]; exact h.fin_, fun j => by rw [fz]; exact h.thaw j,
    ?_, ownsRow_of_block h.things (fun k hk => hb k (ap k (by simp [hk]))), h.count, fun j hj => ownsRow_of_block (h.fields j hj) (fun k hk => hb k (ap k (by
      simp only [List.mem_cons]; right; right; right
      exact List.mem_map.2 ⟨_, List.getElem_mem _, hk⟩))), ownsRow_of_block h.lines (fun k hk => hb k (ap k (by simp [hk]))), h.apart⟩
  unfold ValRow
  simp only [List.length_set]
  rw [← hn]
  exact hv1

/-- A number stored into one of the six fields: At, Taken or End. -/
theorem OwnRun.setM (h : OwnRun w B m s vv tv lv fv) (j : Nat) (x : Int) (hj : j = 0 ∨ j = 3 ∨ j = 5) :
    OwnRun (w.setCell ⟨m, j, none⟩ (.int .i64 x)) B m { s with at_ := if j = 0 then x else s.at_, taken := if j = 3 then x else s.taken, fin := if j = 5 then x else s.fin } vv tv lv fv := by
  have ap := h.m_apart
  have hb : ∀ k, k ≠ m → (w.setCell ⟨m, j, none⟩ (.int .i64 x)).heap[k]? = w.heap[k]? := fun k hk => Below.heap_setCell _ _ _ _ hk
  have hold : ∃ u, w.cell? ⟨m, j, none⟩ = some u := by
    rcases hj with rfl | rfl | rfl
    · exact ⟨_, h.at_⟩
    · exact ⟨_, h.taken_⟩
    · exact ⟨_, h.fin_⟩
  obtain ⟨u, hu⟩ := hold
  have cs : (w.setCell ⟨m, j, none⟩ (.int .i64 x)).cell? ⟨m, j, none⟩ = some (.int .i64 x) := World.cell?_setCell_same _ _ _ hu
  have co : ∀ i, i ≠ j → (w.setCell ⟨m, j, none⟩ (.int .i64 x)).cell? ⟨m, i, none⟩ = w.cell? ⟨m, i, none⟩ := fun i hi => World.cell?_setCell_other _ _ _ _ (by intro e; cases e; exact hi rfl)
  refine ⟨h.low, ?_, by rw [co 1 (by omega)]; exact h.vars_, by rw [co 2 (by omega)]; exact h.things_, ?_, by rw [co 4 (by omega)]; exact h.lines_, ?_, fun i => by rw [World.frozen?_setCell]; exact h.thaw i,
    ownsRow_of_block h.vars (fun k hk => hb k (ap k (by simp [hk]))), ownsRow_of_block h.things (fun k hk => hb k (ap k (by simp [hk]))), h.count, fun i hi => ownsRow_of_block (h.fields i hi) (fun k hk => hb k (ap k (by
      simp only [List.mem_cons]; right; right; right
      exact List.mem_map.2 ⟨_, List.getElem_mem _, hk⟩))), ownsRow_of_block h.lines (fun k hk => hb k (ap k (by simp [hk]))), h.apart⟩
  · rcases hj with rfl | rfl | rfl
    · simpa using cs
    · rw [co 0 (by omega)]; simpa using h.at_
    · rw [co 0 (by omega)]; simpa using h.at_
  · rcases hj with rfl | rfl | rfl
    · rw [co 3 (by omega)]; simpa using h.taken_
    · simpa using cs
    · rw [co 3 (by omega)]; simpa using h.taken_
  · rcases hj with rfl | rfl | rfl
    · rw [co 5 (by omega)]; simpa using h.fin_
    · rw [co 5 (by omega)]; simpa using h.fin_
    · simpa using cs
end
end Go.Proofs.YtmapdpcfanecdaaDoor

namespace Go.Proofs.YtmapdpcfanecdaaDoor
set_option linter.unusedVariables false
set_option linter.unusedSimpArgs false
open Go.RowKit
attribute [local go_sem ↓] Go.wp_at_zero Go.wp_at_succ

/-- What is told of the variables' row: its address, its cells, that they may be written. -/
theorem OwnRun.form {w : World} {B m : Nat} {s : St} {vv tv lv : Value} {fv : List Value} (h : OwnRun w B m s vv tv lv fv) (hn : 0 < s.vars.length) :
    ∃ g cap, vv = .slice (some ⟨g, 0, none⟩) s.vars.length cap ∧ B ≤ g ∧ g < w.heap.size ∧ (∀ i (hi : i < s.vars.length), w.cell? ⟨g, i * 2, none⟩ = some (.int .i64 s.vars[i].k) ∧ w.cell? ⟨g, i * 2 + 1, none⟩ = some (.int .i64 s.vars[i].n)) ∧ (∀ j, w.frozen? ⟨g, j, none⟩ = false) := by
  obtain ⟨g, cap, rfl, hb, hlt⟩ := h.vars.form hn
  have hv : w.ownsRow B 94 2 (.slice (some ⟨g, 0, none⟩) s.vars.length cap) s.vars.length (valCells s.vars) := h.vars
  refine ⟨g, cap, rfl, hb, hlt, fun i hi => ⟨?_, ?_⟩, fun j => hv.frozenAt j⟩
  · rw [hv.cellAt (i * 2) (by omega)]; exact valCells_k _ i hi
  · rw [hv.cellAt (i * 2 + 1) (by omega)]; exact valCells_n _ i hi


theorem cell_set2 (w : World) (g j j' : Nat) (u u' : Value) (k i : Nat) (h : k ≠ g) : ((w.setCell ⟨g, j, none⟩ u).setCell ⟨g, j', none⟩ u').cell? ⟨k, i, none⟩ = w.cell? ⟨k, i, none⟩ :=
  World.cell?_of_block (a := ⟨k, i, none⟩) (heap_set2 w g j j' u u' k h)

set_option maxHeartbeats 1000000 in
set_option maxRecDepth 20000 in
theorem do_1 (m B t : Nat) (s : St) (vv tv lv : Value) (fv : List Value) (a b n g : Int) (w : World) (h : OwnRun w B m s vv tv lv fv) (hB : B ≤ w.heap.size) (ht : t < s.vars.length) (hn : wr n = n) :
    Calls Tryd.prog 75 #[.pointer (some ⟨m, 0, none⟩), .agg #[.int .i64 1, .int .i64 t, .int .i64 a, .int .i64 b, .int .i64 n, .int .i64 g]] w fun e w' => e = .returned (.int .i64 0) ∧ OwnRun w' B m { s with vars := s.vars.set t ⟨1, n⟩ } vv tv lv fv ∧ Below B w w' ∧ ∀ j, 6 ≤ j → w'.cell? ⟨m, j, none⟩ = w.cell? ⟨m, j, none⟩ := by
  obtain ⟨gb, cap, rfl, hg1, hg2, hcell, hfz⟩ := h.form (by omega)
  have hm : m < w.heap.size := h.lt (by simp [ownBlocks])
  have am : m ≠ gb := h.vars_apart rfl m (by simp)
  have ah : w.heap.size ≠ gb := by omega
  have q1 := h.vars_
  obtain ⟨k0, k1⟩ := hcell t ht
  have f0 := hfz (t * 2)
  have f1 := hfz (t * 2 + 1)
  have n0 : (0 : Int) ≤ (t : Int) := by omega
  have n1 : (t : Int) < (s.vars.length : Int) := by omega
  have z1 : m < w.heap.size + 1 := by omega
  have z2 : gb < w.heap.size + 1 := by omega
  clear hcell hfz
  have K1 : ∀ wx, Below (w.heap.size + 1) (w.alloc (.cells #[.int .i64 1, .int .i64 t, .int .i64 a, .int .i64 b, .int .i64 n, .int .i64 g] 71)) wx → wx.cell? ⟨m, 1, none⟩ = some (.slice (some ⟨gb, 0, none⟩) s.vars.length cap) ∧ wx.cell? ⟨w.heap.size, 1, none⟩ = some (.int .i64 t) ∧ wx.cell? ⟨w.heap.size, 4, none⟩ = some (.int .i64 n) := by
    intro wx hb
    rw [hb.cell (by simpa using z1), hb.cell (by simp), hb.cell (by simp)]
    simp [go_sem, q1, hm]
  go_enter Tryd.func75, Tryd.ntmps75
  go_wp2
  go_region_held3 (fun w' => w'.cell? ⟨m, 1, none⟩ = some (.slice (some ⟨gb, 0, none⟩) s.vars.length cap) ∧ w'.cell? ⟨w.heap.size, 1, none⟩ = some (.int .i64 t) ∧ w'.cell? ⟨w.heap.size, 4, none⟩ = some (.int .i64 n))
    (first | exact K1 _ (Below.refl _ _).drew | exact K1 _ HB | (simp only [cell_set2 _ _ _ _ _ _ _ _ am, cell_set2 _ _ _ _ _ _ _ _ ah]; exact K1 _ HB))
    ((go_at_call 95; refine (number_any _ _).mono ?_; rintro e w1 ⟨rfl, hb1⟩; obtain ⟨hc1, hf1⟩ := bcell hb1; have HB : Below (w.heap.size + 1) (w.alloc (.cells #[.int .i64 1, .int .i64 t, .int .i64 a, .int .i64 b, .int .i64 n, .int .i64 g] 71)) w1 := (Below.refl _ _).drew.trans (Below.mono hb1 (by simp))))
  go_wp2
  go_ret
  have HW : Below w.heap.size w w1 := Below.trans (by go_grown) (HB.mono (Nat.le_succ _))
  exact ⟨rfl, (h.below HW).put t ht ⟨1, n⟩, ((HW.mono hB).setCell hg1 _).setCell hg1 _, fun j _ => by rw [cell_set2 _ _ _ _ _ _ _ _ am]; exact HW.cell hm⟩
end Go.Proofs.YtmapdpcfanecdaaDoor

namespace Go.Proofs.YtmapdpcfanecdaaDoor
set_option linter.unusedVariables false
set_option linter.unusedSimpArgs false
open Go

section
variable {P : Program} {ops : Array Oper} {Q : Exit → Act → World → Prop} {md : Region.Mode} {S : World → Prop} {zs : List Nat}

/-- Whatever order is picked from here on, and S holds behind every operation that is carried out, but for those of zs. -/
def wpAnyZ (P : Program) (md : Region.Mode) (ops : Array Oper) (Q : Exit → Act → World → Prop) (S : World → Prop) (zs : List Nat) : Nat → Array Bool → Act → World → Prop
  | 0, listed, a, w => Region.ready md ops listed = [] ∧ Q .normal a w
  | fuel + 1, listed, a, w =>
    (Region.ready md ops listed = [] → Q .normal a w) ∧
    ∀ i ∈ Region.ready md ops listed, wpOp P ops Q i (fun a' w' => (i ∉ zs → S w') ∧ wpAnyZ P md ops Q S zs fuel (listed.setIfInBounds i true) a' w') a w

theorem wpAny_of_z : ∀ (fuel : Nat) (listed : Array Bool) (a : Act) (w : World), wpAnyZ P md ops Q S zs fuel listed a w → wpAny P md ops Q fuel listed a w
  | 0, _, _, _, h => h
  | fuel + 1, _, _, _, h => ⟨h.1, fun i hi => wpOp_mono (fun a' w' h' => wpAny_of_z fuel _ a' w' h'.2) (h.2 i hi)⟩

/-- Those that wait for number i, through others too. -/
def waitsOf (md : Region.Mode) (ops : Array Oper) (i : Nat) : Nat → List Nat → List Nat
  | 0, ws => ws
  | n + 1, ws => waitsOf md ops i n ((List.range ops.size).filter fun x => ((ops[x]?).map fun o => o.after.any fun e => Region.binds md e && (e.on == i || ws.contains e.on)).getD false)
def waitsOk (md : Region.Mode) (ops : Array Oper) (listed : Array Bool) (i : Nat) (ws : List Nat) : Bool :=
  ws.all fun x => !(listed.getD x true) && ((ops[x]?).map fun o => o.after.any fun e => Region.binds md e && (e.on == i || ws.contains e.on)).getD false
def zOk (md : Region.Mode) (ops : Array Oper) (listed : Array Bool) (i : Nat) (zs : List Nat) : Bool :=
  !zs.contains i && (let ws := waitsOf md ops i 8 []; waitsOk md ops listed i ws && zs.all fun z => listed.getD z true || ws.contains z)

theorem wpAnyZ_first {i : Nat} {oi : Oper} {v : Value} (hi : ops[i]? = some oi) (hsel : ∀ (j : Nat) (o : Oper) cs b, ops[j]? = some o → o.op ≠ .select cs b)
    (hQ : ∀ c a w, Q (.panic c) (a.put oi.dst v) w → Q (.panic c) a w) (hiz : i ∉ zs) (ws : List Nat)
    (hws : ∀ x ∈ ws, ∀ o, ops[x]? = some o → ∃ e ∈ o.after, Region.binds md e = true ∧ (e.on = i ∨ e.on ∈ ws)) :
    ∀ (fuel : Nat) (listed : Array Bool) (a : Act) (w : World),
      (∀ j oj, ops[j]? = some oj → j ≠ i → listed.getD j true = false → (∀ e ∈ oj.after, Region.binds md e = true → e.on ≠ i) → oi.apart ops oj = true) →
      (∀ x ∈ ws, listed.getD x true = false) → (∀ z ∈ zs, listed.getD z true = true ∨ z ∈ ws) →
      i ∈ Region.ready md ops listed → YieldsIf P ops S oi v a → S w →
      wpAnyZ P md ops Q S zs fuel (listed.setIfInBounds i true) (a.put oi.dst v) w → wpAnyZ P md ops Q S zs (fuel + 1) listed a w := by
  intro fuel
  induction fuel with
  | zero =>
    intro listed a w _ _ _ hr hy hS H
    refine ⟨fun h => (by rw [h] at hr; cases hr), fun j hj => ?_⟩
    by_cases hji : j = i
    · subst hji; exact hy.wpOp hi hS ⟨fun _ => hS, H⟩
    · have := ready_mono hj hji
      rw [H.1] at this
      cases this
  | succ fuel ih =>
    intro listed a w hfree hun hzs hr hy hS H
    refine ⟨fun h => (by rw [h] at hr; cases hr), fun j hj => ?_⟩
    by_cases hji : j = i
    · subst hji; exact hy.wpOp hi hS ⟨fun _ => hS, H⟩
    · have h1 := H.2 j (ready_mono hj hji)
      obtain ⟨hjun, oj, hoj, hall⟩ := mem_ready.1 hj
      have h0 := (mem_ready.1 hr).1
      have hf : ∀ x, listed.getD x true = false → listed.getD x false = false := fun x hx => by
        rcases Nat.lt_or_ge x listed.size with h' | h'
        · simp [h'] at hx ⊢; exact hx
        · simp [Array.getElem?_eq_none h'] at hx
      have hjw : j ∉ ws := fun hj' => by
        obtain ⟨e, he, hb, hon⟩ := hws j hj' oj hoj
        have h2 := hall e he hb
        rcases hon with hon | hon
        · rw [hon, hf i h0] at h2; cases h2
        · rw [hf _ (hun _ hon)] at h2; cases h2
      have hjz : j ∉ zs := fun hj' => by
        rcases hzs j hj' with h | h
        · rw [h] at hjun; cases hjun
        · exact hjw h
      have hnot : ∀ e ∈ oj.after, Region.binds md e = true → e.on ≠ i := fun e he hb heq => by
        have h2 := hall e he hb
        rw [heq, hf i h0] at h2
        cases h2
      have h2 := wpOp_putIf hoj (hfree j oj hoj hji hjun hnot) (fun cs b => hsel i oi cs b hi) (fun cs b => hsel j oj cs b hoj) hQ hy h1
      have hset : ∀ k, (listed.setIfInBounds j true).getD k true = false → listed.getD k true = false := fun k hk => by
        by_cases hjk : j = k
        · subst hjk; exact hjun
        · rw [getD_set_ne true hjk] at hk; exact hk
      have hfree' : ∀ k ok, ops[k]? = some ok → k ≠ i → (listed.setIfInBounds j true).getD k true = false →
          (∀ e ∈ ok.after, Region.binds md e = true → e.on ≠ i) → oi.apart ops ok = true := fun k ok hk hki hun' hno => hfree k ok hk hki (hset k hun') hno
      refine wpOp_mono (fun a' w' h3 => ⟨h3.2.1, ih (listed.setIfInBounds j true) a' w' hfree' (fun x hx => ?_) (fun z hz => ?_) (ready_mono hr (Ne.symm hji)) h3.1 (h3.2.1 hjz) ?_⟩) h2
      · rw [getD_set_ne true (fun e => hjw (by rw [e]; exact hx))]; exact hun x hx
      · rcases hzs z hz with h | h
        · left
          by_cases hjk : j = z
          · exact absurd (hjk ▸ hz) hjz
          · rw [getD_set_ne true hjk]; exact h
        · exact .inr h
      · rw [Array.setIfInBounds_comm _ _ hji]
        exact h3.2.2

theorem wpAnyZ_take {i : Nat} {oi : Oper} {v : Value} {fuel : Nat} {listed : Array Bool} {a : Act} {w : World} (hi : ops[i]? = some oi)
    (hs : Region.noSelect ops = true) (hf : (Region.free md ops listed i && zOk md ops listed i zs) = true) (hr : (Region.ready md ops listed).contains i = true)
    (hQ : ∀ c a w, Q (.panic c) (a.put oi.dst v) w → Q (.panic c) a w) (hy : YieldsIf P ops S oi v a) (hS : S w)
    (h : wpAnyZ P md ops Q S zs fuel (listed.setIfInBounds i true) (a.put oi.dst v) w) : wpAnyZ P md ops Q S zs (fuel + 1) listed a w := by
  rw [Bool.and_eq_true] at hf
  obtain ⟨hf, hz⟩ := hf
  simp only [zOk, Bool.and_eq_true, waitsOk, List.all_eq_true, Bool.not_eq_true', Bool.or_eq_true] at hz
  obtain ⟨hz1, hz2, hz3⟩ := hz
  refine wpAnyZ_first hi (Region.noSelect_spec hs) hQ (by simpa using hz1) (waitsOf md ops i 8 []) (fun x hx o ho => ?_) fuel listed a w (Region.free_spec hi hf) (fun x hx => (hz2 x hx).1) (fun z hz => ?_) (by simpa using hr) hy hS h
  · have := (hz2 x hx).2
    rw [ho] at this
    simp only [Option.map_some, Option.getD_some, Array.any_eq_true, Bool.and_eq_true, Bool.or_eq_true, beq_iff_eq] at this
    obtain ⟨k, hk, hb, hon⟩ := this
    exact ⟨_, Array.getElem_mem hk, hb, hon.imp id (by simp)⟩
  · rcases hz3 z hz with h | h
    · exact .inl h
    · exact .inr (by simpa using h)

theorem wpAnyZ_done {listed : Array Bool} {a : Act} {w : World} (hr : Region.ready md ops listed = []) (h : Q .normal a w) :
    ∀ fuel, wpAnyZ P md ops Q S zs fuel listed a w
  | 0 => ⟨hr, h⟩
  | _ + 1 => ⟨fun _ => h, by rw [hr]; simp⟩

/-- The operation that alone may come up is carried out; behind it S is shown anew. -/
theorem wpAnyZ_one {i : Nat} {o : Oper} {fuel : Nat} {listed : Array Bool} {a : Act} {w : World} (ho : ops[i]? = some o) (hr : Region.ready md ops listed = [i])
    (h : ∀ K' : Act → World → Prop, Shut (∀ a w, S w → (S w → wpAnyZ P md ops Q S zs fuel (listed.setIfInBounds i true) a w) → K' a w) → if Region.wanted o (yielded ops a.tmps) = true then Oper.wp P o a w K' Q else K' (a.put o.dst undef) w) :
    wpAnyZ P md ops Q S zs (fuel + 1) listed a w := by
  refine ⟨fun h0 => (by rw [hr] at h0; cases h0), fun j hj => ?_⟩
  rw [hr] at hj
  obtain rfl : j = i := by simpa using hj
  exact wpOp_step ho (fun K' hK => h K' (fun a w hS hW => hK a w ⟨fun _ => hS, hW hS⟩))
/-- Of two that may come up whichever comes first. -/
theorem wpAnyZ_two {i j : Nat} {oi oj : Oper} {fuel : Nat} {listed : Array Bool} {a : Act} {w : World} (hoi : ops[i]? = some oi) (hoj : ops[j]? = some oj) (hr : Region.ready md ops listed = [i, j])
    (h : ∀ K' : Act → World → Prop, Shut (∀ a w, S w → (S w → wpAnyZ P md ops Q S zs fuel (listed.setIfInBounds i true) a w) → K' a w) → if Region.wanted oi (yielded ops a.tmps) = true then Oper.wp P oi a w K' Q else K' (a.put oi.dst undef) w)
    (h' : ∀ K' : Act → World → Prop, Shut (∀ a w, S w → (S w → wpAnyZ P md ops Q S zs fuel (listed.setIfInBounds j true) a w) → K' a w) → if Region.wanted oj (yielded ops a.tmps) = true then Oper.wp P oj a w K' Q else K' (a.put oj.dst undef) w) :
    wpAnyZ P md ops Q S zs (fuel + 1) listed a w := by
  refine ⟨fun h0 => (by rw [hr] at h0; cases h0), fun k hk => ?_⟩
  rw [hr] at hk
  rcases List.mem_cons.1 hk with rfl | hk
  · exact wpOp_step hoi (fun K' hK => h K' (fun a w hS hW => hK a w ⟨fun _ => hS, hW hS⟩))
  · obtain rfl : k = j := by simpa using hk
    exact wpOp_step hoj (fun K' hK => h' K' (fun a w hS hW => hK a w ⟨fun _ => hS, hW hS⟩))
/-- A row is made. -/
theorem step_make_full {o : Oper} {a : Act} {K : Act → World → Prop} {w : World} {E : Prop} (hg : o.guard = none) (l c : Operand) (t : TypeId) (hop : o.op = Op.makeSlice t l c)
    (base : Nat) (e : TypeId) (i : TypeInfo) (z : Value) (size : Nat) (h1 : P.underlying t = some (.slice e)) (h2 : P.info? e = some i) (h3 : i.zero = some z) (h4 : i.size = size)
    (kl kc : IntKind) (L C : Int) (n : Nat) (hl : a.eval l = .int kl L) (hc : a.eval c = .int kc C) (hL : L = (n : Int)) (hC : C = (n : Int)) (b2 : i.bytes * n ≤ 281474976710656) (b3 : n ≤ maxLen) (b4 : base ≤ w.heap.size)
    (hK : ∀ w', w'.ownsRow base e size (.slice (some ⟨w.heap.size, 0, none⟩) n n) n (madeCells z.cells (n * size)).toList → w.grownBy w' none → K (a.put o.dst (.slice (some ⟨w.heap.size, 0, none⟩) n n)) w') :
    if Region.wanted o (yielded ops a.tmps) = true then Oper.wp P o a w K Q else E := by
  have hw : Region.wanted o (yielded ops a.tmps) = true := by simp [Region.wanted, hg]
  rw [if_pos hw]
  obtain ⟨w', hrun, r1, r2⟩ := run_make_full (P := P) w base t e i z size h1 h2 h3 h4 kl kc n b2 b3 b4
  subst hL
  subst hC
  unfold Oper.wp
  simp [execOp, hop, hl, hc, hrun, Result.andThen]
  exact hK w' r1 r2
/-- .. and one of the last stores. -/
theorem wpAnyZ_last {i : Nat} {o : Oper} {fuel : Nat} {listed : Array Bool} {a : Act} {w : World} (ho : ops[i]? = some o) (hr : Region.ready md ops listed = [i]) (hz : zs.contains i = true)
    (h : ∀ K' : Act → World → Prop, Shut (∀ a w, wpAnyZ P md ops Q S zs fuel (listed.setIfInBounds i true) a w → K' a w) → if Region.wanted o (yielded ops a.tmps) = true then Oper.wp P o a w K' Q else K' (a.put o.dst undef) w) :
    wpAnyZ P md ops Q S zs (fuel + 1) listed a w := by
  refine ⟨fun h0 => (by rw [hr] at h0; cases h0), fun j hj => ?_⟩
  rw [hr] at hj
  obtain rfl : j = i := by simpa using hj
  exact wpOp_step ho (fun K' hK => h K' (fun a w hW => hK a w ⟨fun hn => absurd (by simpa using hz) hn, hW⟩))

theorem wp_region_z {id : Nat} {a : Act} {w : World} (zs : List Nat) (hm : P.follows .mixedOrders = true) (hS : S w.drew)
    (h : S w.drew → wpAnyZ P .any ops Q S zs ops.size (Array.replicate ops.size false) a w.drew) : (Code.region id ops true).wp P Q a w :=
  wp_region_any hm (wpAny_of_z _ _ _ _ (h hS))
end
end Go.Proofs.YtmapdpcfanecdaaDoor
