/- Lists of spans that are handed in, as they are read out of memory. -/
import Derived.Test.YtmapdpcfanecdaaOpenS
namespace Go.Proofs.Ytmapdpcfanecdaa
set_option linter.unusedVariables false
set_option linter.unusedSimpArgs false
open Go.RowKit Go.ChangeShapes Go.WideShapes Go.Joins Go.Deep

theorem cells_int1 : Try.prog.cellsOf 3 = 1 := by kernel_rfl
theorem cells_bool1 : Try.prog.cellsOf 4 = 1 := by kernel_rfl
theorem list_three {α : Type} (l : List α) (h : l.length = 3) : ∃ a b c, l = [a, b, c] := by
  match l, h with
  | [a, b, c], _ => exact ⟨a, b, c, rfl⟩

section
variable {H : Type} {enc : TypeId × Value → H} {w : World} {base : Nat} {spare : Nat → Bool} {held : Bool}

set_option maxRecDepth 100000 in
theorem read_span {fuel : Nat} {cs : List Value} {x : DataW H × List MemPlace} (h : DataW.trod enc Try.prog w base spare held fuel 23 cs = some x) :
    ∃ i : Sp, cs = [.bool i.n, .int .i64 i.lo, .int .i64 i.hi] := by
  obtain ⟨xs, n, _, _, hl, hx, hf⟩ := DataW.trod_struct Try.underlying23 h
  rw [cells_span] at hl
  obtain ⟨c0, c1, c2, rfl⟩ := list_three cs hl
  obtain ⟨y0, y1, y2, rfl⟩ := list_three xs hx
  have g0 := hf 0 _ rfl
  have g1 := hf 1 _ rfl
  have g2 := hf 2 _ rfl
  simp [cells_int1, cells_bool1] at g0 g1 g2
  obtain ⟨a0, e0, _⟩ := DataW.trod_bool Try.underlying4 g0
  obtain ⟨a1, e1, _, _⟩ := DataW.trod_int Try.underlying3 g1
  obtain ⟨a2, e2, _, _⟩ := DataW.trod_int Try.underlying3 g2
  simp at e0 e1 e2
  subst e0 e1 e2
  exact ⟨⟨a0, a1, a2⟩, rfl⟩

set_option maxRecDepth 100000 in
/-- A slice of spans that is handed in. -/
theorem read_spans {fuel : Nat} {v : Value} {x : DataW H × List MemPlace} (h : DataW.trod enc Try.prog w base spare held fuel 41 [v] = some x) :
    ∃ (s : Option Addr) (cap : Nat) (c : List Sp), v = .slice s c.length cap ∧ c.length ≤ cap ∧ cap ≤ maxLen ∧ SpsAt w s c ∧ True := by
  rcases open_slice Try.underlying41 h with ⟨hv, _⟩ | ⟨a, len, cap, m, n, D, Pl, hv, hb, hl, hm, hmm, hx, hi⟩
  · simp at hv
    subst hv
    exact ⟨none, 0, [], rfl, Nat.le_refl _, by unfold maxLen; omega, .inl rfl, trivial⟩
  · simp at hv
    subst hv
    have hlm : len ≤ m := by rw [hmm]; split <;> omega
    have each : ∀ i, i < len → ∃ q : Sp, (∀ j, j < 3 → w.cell? (a.add (i * 3 + j)) = [Value.bool q.n, .int .i64 q.lo, .int .i64 q.hi][j]?) := by
      intro i hil
      obtain ⟨cs', h1, h2⟩ := hi i (by omega)
      rw [cells_span] at h1
      obtain ⟨_, _, hcell⟩ := World.cells?_some h1
      obtain ⟨q, rfl⟩ := read_span h2
      refine ⟨q, fun j hj => ?_⟩
      rw [← Deep.add_add]
      exact hcell j hj
    have inh : Nonempty Sp := ⟨⟨false, 0, 0⟩⟩
    have hch : ∃ f : Nat → Sp, ∀ i, i < len → (∀ j, j < 3 → w.cell? (a.add (i * 3 + j)) = [Value.bool (f i).n, .int .i64 (f i).lo, .int .i64 (f i).hi][j]?) := by
      refine ⟨fun i => if hi : i < len then Classical.choose (each i hi) else Classical.choice inh, fun i hi => ?_⟩
      simp only [dif_pos hi]
      exact Classical.choose_spec (each i hi)
    obtain ⟨f, hf⟩ := hch
    refine ⟨some a, cap, (List.range len).map f, by simp, by simpa using hl, hm, ?_, ?_⟩
    · by_cases h0 : len = 0
      · left; subst h0; rfl
      · right
        have ha := hf 0 (by omega) 0 (by omega)
        simp [Addr.add] at ha
        obtain ⟨b, off, sp⟩ := a
        have hsp : sp = none := by
          cases sp with
          | none => rfl
          | some z => simp [World.cell?] at ha; split at ha <;> simp_all
        subst hsp
        refine ⟨b, off, rfl, World.block_lt_of_cell? w _ ha, fun k hk => ?_⟩
        have hkl : k < len := by simpa using hk
        have := hf k hkl
        have e : ((List.range len).map f)[k] = f k := by simp
        rw [e]
        have pl : ∀ n, (⟨b, off, none⟩ : Addr).add n = ⟨b, off + n, none⟩ := fun n => by unfold Addr.add; split <;> simp_all
        refine ⟨?_, ?_, ?_⟩
        · simpa [pl] using this 0 (by omega)
        · simpa [pl, Nat.add_assoc] using this 1 (by omega)
        · simpa [pl, Nat.add_assoc] using this 2 (by omega)
    · trivial

set_option maxRecDepth 100000 in
theorem open_spans {r : Reach} {b0 : Nat} {v : Value} {d : DataW H} {p : List MemPlace} (hv : Value.okWide Try.prog w r b0 41 v) (h : DataW.Trod enc Try.prog w base spare held 41 v d p) :
    ∃ (s : Option Addr) (cap : Nat) (c : List Sp), v = .slice s c.length cap ∧ c.length ≤ cap ∧ cap ≤ maxLen ∧ SpsAt w s c := by
  obtain ⟨a0, len, cap, rfl⟩ := okWide_slice Try.underlying41 hv
  obtain ⟨fuel, hf⟩ := h
  obtain ⟨s, cap', c, e, h1, h2, h3, _⟩ := read_spans (by simpa [Value.cells] using hf)
  exact ⟨s, cap', c, e, h1, h2, h3⟩
end
end Go.Proofs.Ytmapdpcfanecdaa
