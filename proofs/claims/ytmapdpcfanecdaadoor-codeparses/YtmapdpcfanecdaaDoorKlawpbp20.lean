/- The line of an instruction: what is needed for each kind. -/
import Derived.Test.YtmapdpcfanecdaaDoorKlawpbp17
import Derived.Test.YtmapdpcfanecdaaDoorKlawpbp19
import Derived.Test.YtmapdpcfanecdaaDoorKlawpbp04
import Derived.Test.YtmapdpcfanecdaaDoorCards
import Derived.Test.YtmapdpcfanecdaaDoorTie
import Derived.Test.YtmapdpcfanecdaaDoorKlawpbp10
import Derived.WalkKit
import Derived.ProofKit
import Derived.OpenShut
import Derived.Carry
import Derived.Deep.DeepHandedRow
import Derived.Deep.DeepWitnessRowRef
import Derived.Lib.LaidTab
import Derived.Lib.LaidIn
import Derived.Stop.LaidErr
import Derived.Shelf.Vars
namespace Go.Proofs.YtmapdpcfanecdaaDoor
set_option linter.unusedVariables false
set_option linter.unusedSimpArgs false
open Go.RowKit

/-- The library's table of powers lies as its text lays it. -/
def Tab (w : World) : Prop := Lib.TabIs Tryd.prog w "internal/strconv.uint64pow10" .u64 Lib.pow10Tab
theorem tab_global : ∃ g, Tryd.prog.globalNamed "internal/strconv.uint64pow10" = some g := by
  have h : (Tryd.prog.globalNamed "internal/strconv.uint64pow10").isSome = true := by kernel_rfl
  exact Option.isSome_iff_exists.1 h
theorem Tab.below {w w' : World} (h : Tab w) (hb : Below w.heap.size w w') : Tab w' := by
  obtain ⟨g, hg⟩ := tab_global
  have hc := h.cell hg 0 (by decide)
  exact var?_below hb hg (World.block_lt_of_cell? w _ hc) h

theorem itoa_any (n : Int) (w : World) (h : fits n) (ht : Tab w) :
    Calls Tryd.prog 62 #[.int .i64 n] w fun e w' => e = .returned (.string (itoaB n)) ∧ Below w.heap.size w w' := by
  refine (Tryd.strconv_Itoa n h.1 h.2 w ht).mono ?_
  rintro e w' ⟨rfl, k, os, rfl⟩
  exact ⟨rfl, ⟨rfl, rfl, rfl, by simp [Sort.grow], fun i hi => by simp [Sort.grow, Array.getElem?_append, World.drewN, hi]⟩⟩

/-- Words, one blank between. -/
def joinB (xs : List ByteArray) : ByteArray := ⟨(Lib.join (xs.map (·.data.toList)) [32]).toArray⟩

set_option maxHeartbeats 1000000 in
theorem printLine_own (B : Nat) (v : Value) (xs : List ByteArray) (w : World) (hown : w.ownsRow B 9 1 v xs.length (xs.map .string)) (h0 : 0 < xs.length) (hx : xs.length ≤ 10) (hs : (joinB xs).size ≤ 1000) :
    Calls Tryd.prog 61 #[v] w fun e w' => e = .returned (.string (joinB xs ++ ⟨#[10]⟩)) ∧ Below w.heap.size w w' := by
  obtain ⟨g, cap, rfl, hb, hlt⟩ := hown.form h0
  have hcap : xs.length ≤ cap := by
    rcases hown.2 with ⟨hv, _⟩ | ⟨g', cap', cur, hv, _, _, hc, _⟩
    · cases hv
    · cases hv; exact hc
  have hcells : ∀ (j : Nat) x, xs[j]? = some x → w.cell? ⟨g, 0 + j, none⟩ = some (.string x) := by
    intro j x hj
    have hjl : j < xs.length := by
      rcases Nat.lt_or_ge j xs.length with h | h
      · exact h
      · rw [List.getElem?_eq_none h] at hj; cases hj
    rw [Nat.zero_add, hown.cellAt j (by omega)]
    simp [hj]
  have hl : (Lib.join (xs.map (·.data.toList)) [32]).length = (joinB xs).size := rfl
  have u1 : ¬ 9223372036854775807 < (joinB xs).size + 1 := by omega
  have hj : Calls Tryd.prog 88 #[.slice (some ⟨g, 0, none⟩) xs.length cap, .string ⟨#[32]⟩] w fun e w' => e = .returned (.string (joinB xs)) ∧ Below w.heap.size w w' :=
    Tryd.strings_Join g 0 cap xs ⟨#[32]⟩ w hcells hlt (by omega) hcap (by show (Lib.join (xs.map (·.data.toList)) [32]).length ≤ _; omega)
  go_enter Tryd.func61, Tryd.ntmps61
  go_wp2_with (go_at_call 88; refine hj.mono ?_; rintro e w1 ⟨rfl, hb1⟩)
  go_ret
  exact ⟨rfl, hb1⟩
end Go.Proofs.YtmapdpcfanecdaaDoor

namespace Go.Proofs.YtmapdpcfanecdaaDoor
set_option linter.unusedVariables false
set_option linter.unusedSimpArgs false
open Go.ChangeShapes Go.WideShapes Go.ChangeAt Go.RowKit

theorem own : ownKnob Tryd.prog.godebug = none := by kernel_rfl

theorem cap_of {W : World} (h : W.ShapedOpen Tryd.prog) : ∃ m, W.cell? ⟨0, 0, none⟩ = some (.int .i64 m) :=
  cell_of_shapedOpen_int (zero := #[.int .i64 0]) (t := 3) h (of_decide_eq_true (by kernel_rfl)) (by kernel_rfl) rfl (by kernel_rfl) (by kernel_rfl) Tryd.underlying3

theorem tab_of {r : List (String × DataW Unit)} {W : World} (h : laidMet Tryd.prog (("internal/strconv.uint64pow10", Rows.laid_internal_strconv_uint64pow10) :: r) W) : Tab W :=
  Lib.tabIs_of_head (rest := r) (g := 1) (t := 158) (e := 148) (by kernel_rfl) (by kernel_rfl) Tryd.underlying158 Tryd.underlying148 (by kernel_rfl) (by kernel_rfl) h

/-- The values that a listed table holds. -/
def valOf : DataW Unit → Value
  | .lit (.int k z) => .int k z
  | _ => .int .i64 0
def rowOf : DataW Unit → List Value
  | .agg ps => ps.map valOf
  | _ => []
def rowsOf : DataW Unit → List Value
  | .agg ps => ps.flatMap rowOf
  | _ => []

/-- A world for the witness: the settled one, two blocks more (the two errors' structs), the listed variables holding what their initialisers lay. -/
def laidWorld (P : Program) (os : Os) : World :=
  let N := (World.settled P os).heap.size
  let w0 := World.holding P os ⟨#[.cells #[.string ⟨#[105, 110, 118, 97, 108, 105, 100, 32, 115, 121, 110, 116, 97, 120]⟩] 189, .cells #[.string ⟨#[118, 97, 108, 117, 101, 32, 111, 117, 116, 32, 111, 102, 32, 114, 97, 110, 103, 101]⟩] 189], #[], []⟩
  let put (h : Array Obj) (g : Nat) (cs : Array Value) : Array Obj := h.modify g fun
    | .cells _ t frozen => .cells cs t frozen
    | o => o
  let h1 := put w0.heap 2 #[.iface 187 (.pointer (some ⟨N, 0, none⟩))]
  let h2 := put h1 3 #[.iface 187 (.pointer (some ⟨N + 1, 0, none⟩))]
  let h3 := put h2 1 (rowOf Rows.laid_internal_strconv_uint64pow10).toArray
  let h4 := put h3 4 (rowOf Rows.laid_math_bits_deBruijn32tab).toArray
  let h5 := put h4 5 (rowOf Rows.laid_math_bits_deBruijn64tab).toArray
  let h6 := put h5 6 (rowOf Rows.laid_unicode_utf8_first).toArray
  let h7 := put h6 7 (rowsOf Rows.laid_unicode_utf8_acceptRanges).toArray
  { w0 with heap := h7 }

theorem laid_in (os : Os) (args : Array Value) : Go.LaidIn Tryd.prog ((laidWorld Tryd.prog os).forCall (fun _ _ => 0) ⟨#[], args, []⟩).memory Rows.codePrintsRow.laid [4, 5, 1, 7, 3, 2, (World.settled Tryd.prog default).heap.size, (World.settled Tryd.prog default).heap.size + 1, 6] :=
  Go.LaidIn.of_run _ 8 (by kernel_rfl) (by kernel_rfl) (by kernel_rfl) (by kernel_rfl)
theorem laid_met (os : Os) (args : Array Value) : laidMet Tryd.prog Rows.codePrintsRow.laid ((laidWorld Tryd.prog os).forCall (fun _ _ => 0) ⟨#[], args, []⟩).memory := (laid_in os args).met
end Go.Proofs.YtmapdpcfanecdaaDoor

namespace Go.Proofs.YtmapdpcfanecdaaDoor
set_option linter.unusedVariables false
set_option linter.unusedSimpArgs false
open Go.RowKit

theorem info_str : (Tryd.prog.info? 9).map (fun i => (i.zero, i.size, i.bytes)) = some (some (.string ⟨#[]⟩), 1, 16) := by kernel_rfl

theorem run_look_val {P : Program} {N : Nat} {w : World} {es : Array MapEntry} {clock : Nat} (t kt et : TypeId) (ht : P.underlying t = some (.map kt et)) (hk : P.underlying kt = some (.int .i64)) (hmap : w.heap[N]? = some (.map es clock))
    (k : Int) (i : Nat) (v : Value) (hf : Instr.findNow (.int .i64) (.int .i64 k) es.toList 0 = some (some (i, v))) : (Instr.lookup t (.map (some N)) (.int .i64 k) false).run P w = .ok v w := by
  have hc : ∀ e, (Instr.checkKey e 10000 kt (.int .i64 k)).run P w = .ok () w := fun e => MapKept.run_checkKey (k := .int .i64 k) hk rfl e 9999
  simp [Instr.lookup, run_underlying ht, MapKept.run_getObj_map hmap, hc, MapKept.run_findKey hk hf, Result.andThen]

theorem look_val {N : Nat} {w : World} (h : ShpAt N shps w) (k : Int) (i : Nat) (v : Value) (hf : Instr.findNow (.int .i64) (.int .i64 k) (shpEntries N 0 shps) 0 = some (some (i, v))) : (Instr.lookup 60 (.map (some N)) (.int .i64 k) false).run Tryd.prog w = .ok v w :=
  run_look_val _ 3 105 Tryd.underlying60 Tryd.underlying3 h.map k i v hf

def joinSize : List ByteArray → Nat
  | [] => 0
  | x :: r => x.size + (r.map fun y => y.size + 1).sum

theorem joinB_cons (x : ByteArray) (r : List ByteArray) : joinB (x :: r) = r.foldl (fun s y => s ++ (⟨#[32]⟩ ++ y)) x := by
  have gen : ∀ (r : List ByteArray) (x : ByteArray), (r.foldl (fun s y => s ++ (⟨#[32]⟩ ++ y)) x).data.toList = x.data.toList ++ Lib.joinTail [32] (r.map (·.data.toList)) := by
    intro r
    induction r with
    | nil => intro x; simp [Lib.joinTail]
    | cons y r ih =>
      intro x
      rw [List.foldl_cons, ih]
      simp [Lib.joinTail]
  apply ByteArray.ext
  apply Array.toList_inj.1
  rw [gen]
  simp only [joinB, List.map_cons, Lib.join_cons]

theorem joinB_size (xs : List ByteArray) : (joinB xs).size = joinSize xs := by
  cases xs with
  | nil => rfl
  | cons x r =>
    rw [joinB_cons]
    have gen : ∀ (r : List ByteArray) (x : ByteArray), (r.foldl (fun s y => s ++ (⟨#[32]⟩ ++ y)) x).size = x.size + (r.map fun y => y.size + 1).sum := by
      intro r
      induction r with
      | nil => intro x; simp
      | cons y r ih =>
        intro x
        have s1 : (⟨#[32]⟩ : ByteArray).size = 1 := rfl
        rw [List.foldl_cons, ih]
        simp only [ByteArray.size_append, s1, List.map_cons, List.sum_cons]
        omega
    exact gen r x

theorem joinB_line (i : Ins) (x : ByteArray) (r : List ByteArray) (hx : x = wordB i.k) (hr : r = (argsOf i).map itoaB) : joinB (x :: r) = lineB i := by
  rw [joinB_cons, hx, hr]
  unfold lineB
  rw [List.foldl_map]
end Go.Proofs.YtmapdpcfanecdaaDoor
