/- Walks over package code: numbers in digits, a line of words. -/
import Derived.Test.YtmapdpcfanecdaaDoorKlawbbp19
import Derived.Test.YtmapdpcfanecdaaDoorKlawbbp21
import Derived.Test.YtmapdpcfanecdaaDoorKlawbbp06
import Derived.Test.YtmapdpcfanecdaaDoorKlawbbp22
namespace Go.Proofs.YtmapdpcfanecdaaDoor
set_option linter.unusedVariables false
set_option linter.unusedSimpArgs false
open Go.RowKit

/-- The library's table of powers lies as its text lays it. -/
def Tab (w : World) : Prop := Lib.TabIs Tryd.prog w "internal/strconv.uint64pow10" .u64 Lib.pow10Tab
theorem tab_global : ∃ g, Tryd.prog.globalNamed "internal/strconv.uint64pow10" = some g := by
  have h : (Tryd.prog.globalNamed "internal/strconv.uint64pow10").isSome = true := by kernel_rfl
  exact Option.isSome_iff_exists.1 h
theorem Tab.below {w w' : World} (h : Tab w) (hb : Below w.heap.size w w') : Tab w' := by
  obtain ⟨g, hg⟩ := tab_global
  have hc := h.cell hg 0 (by decide)
  exact var?_below hb hg (World.block_lt_of_cell? w _ hc) h

theorem itoa_any (n : Int) (w : World) (h : fits n) (ht : Tab w) :
    Calls Tryd.prog 62 #[.int .i64 n] w fun e w' => e = .returned (.string (itoaB n)) ∧ Below w.heap.size w w' := by
  refine (Tryd.strconv_Itoa n h.1 h.2 w ht).mono ?_
  rintro e w' ⟨rfl, k, os, rfl⟩
  exact ⟨rfl, ⟨rfl, rfl, rfl, by simp [Sort.grow], fun i hi => by simp [Sort.grow, Array.getElem?_append, World.drewN, hi]⟩⟩

/-- Words, one blank between. -/
def joinB (xs : List ByteArray) : ByteArray := ⟨(Lib.join (xs.map (·.data.toList)) [32]).toArray⟩

set_option maxHeartbeats 1000000 in
theorem printLine_own (B : Nat) (v : Value) (xs : List ByteArray) (w : World) (hown : w.ownsRow B 9 1 v xs.length (xs.map .string)) (h0 : 0 < xs.length) (hx : xs.length ≤ 10) (hs : (joinB xs).size ≤ 1000) :
    Calls Tryd.prog 61 #[v] w fun e w' => e = .returned (.string (joinB xs ++ ⟨#[10]⟩)) ∧ Below w.heap.size w w' := by
  obtain ⟨g, cap, rfl, hb, hlt⟩ := hown.form h0
  have hcap : xs.length ≤ cap := by
    rcases hown.2 with ⟨hv, _⟩ | ⟨g', cap', cur, hv, _, _, hc, _⟩
    · cases hv
    · cases hv; exact hc
  have hcells : ∀ (j : Nat) x, xs[j]? = some x → w.cell? ⟨g, 0 + j, none⟩ = some (.string x) := by
    intro j x hj
    have hjl : j < xs.length := by
      rcases Nat.lt_or_ge j xs.length with h | h
      · exact h
      · rw [List.getElem?_eq_none h] at hj; cases hj
    rw [Nat.zero_add, hown.cellAt j (by omega)]
    simp [hj]
  have hl : (Lib.join (xs.map (·.data.toList)) [32]).length = (joinB xs).size := rfl
  have u1 : ¬ 9223372036854775807 < (joinB xs).size + 1 := by omega
  have hj : Calls Tryd.prog 88 #[.slice (some ⟨g, 0, none⟩) xs.length cap, .string ⟨#[32]⟩] w fun e w' => e = .returned (.string (joinB xs)) ∧ Below w.heap.size w w' :=
    Tryd.strings_Join g 0 cap xs ⟨#[32]⟩ w hcells hlt (by omega) hcap (by show (Lib.join (xs.map (·.data.toList)) [32]).length ≤ _; omega)
  go_enter Tryd.func61, Tryd.ntmps61
  go_wp2_with (go_at_call 88; refine hj.mono ?_; rintro e w1 ⟨rfl, hb1⟩)
  go_ret
  exact ⟨rfl, hb1⟩
end Go.Proofs.YtmapdpcfanecdaaDoor
