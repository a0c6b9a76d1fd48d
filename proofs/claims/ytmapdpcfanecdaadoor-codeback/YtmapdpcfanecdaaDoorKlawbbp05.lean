/- Walks over the document's own answers: the word of a kind. -/
import Derived.Test.YtmapdpcfanecdaaDoorKlawbbp04
namespace Go.Proofs.YtmapdpcfanecdaaDoor
set_option linter.unusedVariables false
set_option linter.unusedSimpArgs false
open Go.RowKit

/-- An instruction lies in six cells. -/
def InsAt (w : World) (b o : Nat) (i : Ins) : Prop :=
  w.cell? ⟨b, o, none⟩ = some (.int .i64 i.k) ∧ w.cell? ⟨b, o + 1, none⟩ = some (.int .i64 i.to) ∧ w.cell? ⟨b, o + 2, none⟩ = some (.int .i64 i.a) ∧
  w.cell? ⟨b, o + 3, none⟩ = some (.int .i64 i.b) ∧ w.cell? ⟨b, o + 4, none⟩ = some (.int .i64 i.n) ∧ w.cell? ⟨b, o + 5, none⟩ = some (.int .i64 i.g)

/-- A list of instructions lies behind a slice's address. -/
def CodeAt (w : World) (s : Option Addr) (c : List Ins) : Prop :=
  c = [] ∨ ∃ b off, s = some ⟨b, off, none⟩ ∧ b < w.heap.size ∧ ∀ k (h : k < c.length), InsAt w b (off + k * 6) c[k]

theorem InsAt.below {B : Nat} {w w' : World} {b o : Nat} {i : Ins} (h : InsAt w b o i) (hb : Below B w w') (hB : b < B) : InsAt w' b o i := by
  obtain ⟨h0, h1, h2, h3, h4, h5⟩ := h
  refine ⟨?_, ?_, ?_, ?_, ?_, ?_⟩ <;> rw [hb.cell (by simpa using hB)] <;> assumption

theorem CodeAt.below {B : Nat} {w w' : World} {s : Option Addr} {c : List Ins} (h : CodeAt w s c) (hb : Below B w w') (hB : w.heap.size ≤ B) : CodeAt w' s c := by
  rcases h with h | ⟨b, off, hs, hlt, hi⟩
  · exact .inl h
  · exact .inr ⟨b, off, hs, Nat.lt_of_lt_of_le hlt hb.size, fun k h => (hi k h).below hb (by omega)⟩

/-- A list of integers lies behind a slice's address. -/
def IntsAt (w : World) (s : Option Addr) (l : List Int) : Prop :=
  l = [] ∨ ∃ b off, s = some ⟨b, off, none⟩ ∧ b < w.heap.size ∧ ∀ k (h : k < l.length), w.cell? ⟨b, off + k, none⟩ = some (.int .i64 l[k])

/-- A list of values lies behind a slice's address. -/
def ValsAt (w : World) (s : Option Addr) (l : List Val) : Prop :=
  l = [] ∨ ∃ b off, s = some ⟨b, off, none⟩ ∧ b < w.heap.size ∧ ∀ k (h : k < l.length), w.cell? ⟨b, off + k * 2, none⟩ = some (.int .i64 l[k].k) ∧ w.cell? ⟨b, off + k * 2 + 1, none⟩ = some (.int .i64 l[k].n)

theorem IntsAt.below {B : Nat} {w w' : World} {s : Option Addr} {l : List Int} (h : IntsAt w s l) (hb : Below B w w') (hB : w.heap.size ≤ B) : IntsAt w' s l := by
  rcases h with h | ⟨b, off, hs, hlt, hi⟩
  · exact .inl h
  · exact .inr ⟨b, off, hs, Nat.lt_of_lt_of_le hlt hb.size, fun k h => by rw [hb.cell (by simp; omega)]; exact hi k h⟩

theorem ValsAt.below {B : Nat} {w w' : World} {s : Option Addr} {l : List Val} (h : ValsAt w s l) (hb : Below B w w') (hB : w.heap.size ≤ B) : ValsAt w' s l := by
  rcases h with h | ⟨b, off, hs, hlt, hi⟩
  · exact .inl h
  · exact .inr ⟨b, off, hs, Nat.lt_of_lt_of_le hlt hb.size, fun k h => by rw [hb.cell (by simp; omega), hb.cell (by simp; omega)]; exact hi k h⟩

end Go.Proofs.YtmapdpcfanecdaaDoor

namespace Go.Proofs.YtmapdpcfanecdaaDoor
set_option linter.unusedVariables false
set_option linter.unusedSimpArgs false
open Go.RowKit

set_option maxHeartbeats 1000000 in
theorem word_any (k : Int) (w : World) :
    Calls Tryd.prog 65 #[.int .i64 k] w fun e w' => e = .returned (.string (wordB k)) ∧ Below w.heap.size w w' := by
  by_cases h : btw k 1 19 = true
  · rcases btw_cases h with rfl | rfl | rfl | rfl | rfl | rfl | rfl | rfl | rfl | rfl | rfl | rfl | rfl | rfl | rfl | rfl | rfl | rfl | rfl
    all_goals
      go_enter Tryd.func65, Tryd.ntmps65
      go_wp2_with (go_at_call 36; refine (between_any _ _ _ _).mono ?_; rintro e w' ⟨rfl, rfl⟩)
      go_ret
      exact ⟨rfl, by go_grown⟩
  · have h : btw k 1 19 = false := by simpa using h
    have hw := wordB_none h
    go_enter Tryd.func65, Tryd.ntmps65
    go_wp2_with (go_at_call 36; refine (between_any _ _ _ _).mono ?_; rintro e w' ⟨rfl, rfl⟩)
    go_ret
    exact ⟨ret_str hw.symm, by go_grown⟩
end Go.Proofs.YtmapdpcfanecdaaDoor
