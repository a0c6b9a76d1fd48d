/- The line of an instruction: what is needed for each kind. -/
import Derived.Test.YtmapdpcfanecdaaDoorKlawhp27
namespace Go.Proofs.YtmapdpcfanecdaaDoor
set_option linter.unusedVariables false
set_option linter.unusedSimpArgs false
open Go.RowKit

theorem info_str : (Tryd.prog.info? 9).map (fun i => (i.zero, i.size, i.bytes)) = some (some (.string ⟨#[]⟩), 1, 16) := by kernel_rfl

theorem run_look_val {P : Program} {N : Nat} {w : World} {es : Array MapEntry} {clock : Nat} (t kt et : TypeId) (ht : P.underlying t = some (.map kt et)) (hk : P.underlying kt = some (.int .i64)) (hmap : w.heap[N]? = some (.map es clock))
    (k : Int) (i : Nat) (v : Value) (hf : Instr.findNow (.int .i64) (.int .i64 k) es.toList 0 = some (some (i, v))) : (Instr.lookup t (.map (some N)) (.int .i64 k) false).run P w = .ok v w := by
  have hc : ∀ e, (Instr.checkKey e 10000 kt (.int .i64 k)).run P w = .ok () w := fun e => MapKept.run_checkKey (k := .int .i64 k) hk rfl e 9999
  simp [Instr.lookup, run_underlying ht, MapKept.run_getObj_map hmap, hc, MapKept.run_findKey hk hf, Result.andThen]

theorem look_val {N : Nat} {w : World} (h : ShpAt N shps w) (k : Int) (i : Nat) (v : Value) (hf : Instr.findNow (.int .i64) (.int .i64 k) (shpEntries N 0 shps) 0 = some (some (i, v))) : (Instr.lookup 60 (.map (some N)) (.int .i64 k) false).run Tryd.prog w = .ok v w :=
  run_look_val _ 3 105 Tryd.underlying60 Tryd.underlying3 h.map k i v hf

def joinSize : List ByteArray → Nat
  | [] => 0
  | x :: r => x.size + (r.map fun y => y.size + 1).sum

theorem joinB_cons (x : ByteArray) (r : List ByteArray) : joinB (x :: r) = r.foldl (fun s y => s ++ (⟨#[32]⟩ ++ y)) x := by
  have gen : ∀ (r : List ByteArray) (x : ByteArray), (r.foldl (fun s y => s ++ (⟨#[32]⟩ ++ y)) x).data.toList = x.data.toList ++ Lib.joinTail [32] (r.map (·.data.toList)) := by
    intro r
    induction r with
    | nil => intro x; simp [Lib.joinTail]
    | cons y r ih =>
      intro x
      rw [List.foldl_cons, ih]
      simp [Lib.joinTail]
  apply ByteArray.ext
  apply Array.toList_inj.1
  rw [gen]
  simp only [joinB, List.map_cons, Lib.join_cons]

theorem joinB_size (xs : List ByteArray) : (joinB xs).size = joinSize xs := by
  cases xs with
  | nil => rfl
  | cons x r =>
    rw [joinB_cons]
    have gen : ∀ (r : List ByteArray) (x : ByteArray), (r.foldl (fun s y => s ++ (⟨#[32]⟩ ++ y)) x).size = x.size + (r.map fun y => y.size + 1).sum := by
      intro r
      induction r with
      | nil => intro x; simp
      | cons y r ih =>
        intro x
        have s1 : (⟨#[32]⟩ : ByteArray).size = 1 := rfl
        rw [List.foldl_cons, ih]
        simp only [ByteArray.size_append, s1, List.map_cons, List.sum_cons]
        omega
    exact gen r x

theorem joinB_line (i : Ins) (x : ByteArray) (r : List ByteArray) (hx : x = wordB i.k) (hr : r = (argsOf i).map itoaB) : joinB (x :: r) = lineB i := by
  rw [joinB_cons, hx, hr]
  unfold lineB
  rw [List.foldl_map]
end Go.Proofs.YtmapdpcfanecdaaDoor
