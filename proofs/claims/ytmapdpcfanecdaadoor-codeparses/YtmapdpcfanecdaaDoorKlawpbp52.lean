/- Walks over the document's parser: the closure that takes one number more. -/
import Derived.Test.YtmapdpcfanecdaaDoorKlawpbp51
import Derived.Test.YtmapdpcfanecdaaDoorKlawpbp44
import Derived.Test.YtmapdpcfanecdaaDoorKlawpbp03
namespace Go.Proofs.YtmapdpcfanecdaaDoor
set_option linter.unusedVariables false
set_option linter.unusedSimpArgs false
open Go.RowKit

/-- One number more, if it is asked for; and how many were taken. -/
def tk (vs : List Int) (a : Nat) (b : Bool) : Int × Nat := if b = true then (if a < vs.length then (vs.getD a 0, a + 1) else (0, 99)) else (0, a)

theorem intsAt_set {w : World} {ss : Option Addr} {l : List Int} {b o : Nat} (v : Value) (h : IntsAt w ss l) (hf : ∀ a, ss = some a → a.block ≠ b) : IntsAt (w.setCell ⟨b, o, none⟩ v) ss l := by
  rcases h with h | ⟨k, off, hs, hlt, hi⟩
  · exact .inl h
  · have hne : k ≠ b := by
      have := hf _ hs
      simpa using this
    refine .inr ⟨k, off, hs, by simpa using hlt, fun j hj => ?_⟩
    rw [← hi j hj]
    exact World.cell?_of_block (a := ⟨k, off + j, none⟩) (Below.heap_setCell _ _ _ _ hne)

/-- What InstrOf has in its variables: the answer's, the numbers', the instruction's, and how many were taken. -/
def IQ (w0 : World) (R B X A : Nat) (ss : Option Addr) (cp : Nat) (vs : List Int) (i : Ins) (a : Nat) (w : World) : Prop :=
  XAt w R zeroI ∧ XAt w X i ∧ (w.cell? ⟨A, 0, none⟩ = some (.int .i64 a) ∧ w.frozen? ⟨A, 0, none⟩ = false) ∧ w.cell? ⟨B, 0, none⟩ = some (.slice ss vs.length cp) ∧ IntsAt w ss vs ∧ Below w0.heap.size w0 w ∧ (w0.heap.size ≤ R ∧ R < B ∧ B < X ∧ X < A ∧ A < w.heap.size) ∧ ∀ a, ss = some a → a.block < X
theorem XAt.other {w : World} {X b o : Nat} {i : Ins} (v : Value) (h : XAt w X i) (hne : X ≠ b) : XAt (w.setCell ⟨b, o, none⟩ v) X i := by
  have hc : ∀ j, (w.setCell ⟨b, o, none⟩ v).cell? ⟨X, j, none⟩ = w.cell? ⟨X, j, none⟩ := fun j => World.cell?_of_block (a := ⟨X, j, none⟩) (Below.heap_setCell _ _ _ _ hne)
  have hfz : ∀ j, (w.setCell ⟨b, o, none⟩ v).frozen? ⟨X, j, none⟩ = w.frozen? ⟨X, j, none⟩ := fun j => World.frozen?_of_block (a := ⟨X, j, none⟩) (Below.heap_setCell _ _ _ _ hne)
  obtain ⟨⟨h0, h1, h2, h3, h4, h5⟩, hf, hz⟩ := h
  exact ⟨⟨(hc _).trans h0, (hc _).trans h1, (hc _).trans h2, (hc _).trans h3, (hc _).trans h4, (hc _).trans h5⟩, fun j => (hfz j).trans (hf j), by simpa using hz⟩
theorem IQ.takes {w0 : World} {R B X A : Nat} {ss : Option Addr} {cp : Nat} {vs : List Int} {i : Ins} {a : Nat} {w : World} (h : IQ w0 R B X A ss cp vs i a w) (a' : Nat) : IQ w0 R B X A ss cp vs i a' (w.setCell ⟨A, 0, none⟩ (.int .i64 a')) := by
  obtain ⟨h1, h2, ⟨h3, h4⟩, h5, h6, h7, ⟨z1, z2, z3, z4, z5⟩, h8⟩ := h
  refine ⟨h1.other _ (by omega), h2.other _ (by omega), ⟨by simp [go_sem, h3], by simp [go_sem, h4]⟩, ?_, intsAt_set _ h6 (fun x hx => by have := h8 x hx; omega), h7.setCell (by simp; omega) _, ⟨z1, z2, z3, z4, by simpa using z5⟩, h8⟩
  rw [← h5]
  exact World.cell?_of_block (a := ⟨B, 0, none⟩) (Below.heap_setCell _ _ _ _ (by show B ≠ A; omega))
theorem IQ.puts {w0 : World} {R B X A : Nat} {ss : Option Addr} {cp : Nat} {vs : List Int} {i : Ins} {a : Nat} {w : World} (h : IQ w0 R B X A ss cp vs i a w) (q : Nat) (v : Int) : IQ w0 R B X A ss cp vs (putP q v i) a (w.setCell ⟨X, posP q, none⟩ (.int .i64 v)) := by
  obtain ⟨h1, h2, ⟨h3, h4⟩, h5, h6, h7, ⟨z1, z2, z3, z4, z5⟩, h8⟩ := h
  refine ⟨h1.other _ (by omega), h2.put v, ⟨?_, ?_⟩, ?_, intsAt_set _ h6 (fun x hx => by have := h8 x hx; omega), h7.setCell (by simp; omega) _, ⟨z1, z2, z3, z4, by simpa using z5⟩, h8⟩
  · rw [← h3]
    exact World.cell?_of_block (a := ⟨A, 0, none⟩) (Below.heap_setCell _ _ _ _ (by show A ≠ X; omega))
  · rw [← h4]
    exact World.frozen?_of_block (a := ⟨A, 0, none⟩) (Below.heap_setCell _ _ _ _ (by show A ≠ X; omega))
  · rw [← h5]
    exact World.cell?_of_block (a := ⟨B, 0, none⟩) (Below.heap_setCell _ _ _ _ (by show B ≠ X; omega))

set_option maxHeartbeats 2000000 in
set_option maxRecDepth 20000 in
theorem take_any {w0 : World} {R B X A : Nat} {ss : Option Addr} {cp : Nat} {vs : List Int} {i : Ins} {a : Nat} (b : Bool) (w : World) (hv : vs.length ≤ 5000) (ha : a ≤ 200) (h : IQ w0 R B X A ss cp vs i a w) :
    Calls Tryd.prog 71 #[.bool b, .pointer (some ⟨A, 0, none⟩), .pointer (some ⟨B, 0, none⟩)] w fun e w' => e = .returned (.int .i64 (tk vs a b).1) ∧ IQ w0 R B X A ss cp vs i (tk vs a b).2 w' := by
  obtain ⟨-, -, ⟨h3, h4⟩, h5, h6, -, ⟨z1, z2, z3, z4, z5⟩, h8⟩ := id h
  have zb : B < w.heap.size := by omega
  cases b with
  | false =>
    have e0 : tk vs a false = (0, a) := rfl
    rw [e0]
    go_enter Tryd.func71, Tryd.ntmps71
    go_wp2
    go_ret
    exact ⟨rfl, h⟩
  | true =>
    by_cases hlt : a < vs.length
    · have e0 : tk vs a true = (vs.getD a 0, a + 1) := by unfold tk; rw [if_pos rfl, if_pos hlt]
      rw [e0]
      have n0 : (a : Int) < (vs.length : Int) := by omega
      have n1 : (0 : Int) ≤ (a : Int) := by omega
      have hT := h.takes (a + 1)
      rcases h6 with h6 | ⟨k, off, rfl, hk, hi⟩
      · rw [h6] at hlt
        simp at hlt
      · have c0 := hi a hlt
        have hg : vs.getD a 0 = vs[a] := by simp [List.getD, List.getElem?_eq_getElem hlt]
        rw [hg]
        have hne : k ≠ A := by have := h8 _ rfl; simp at this; omega
        have hne2 : B ≠ A := by omega
        have ec : ((a + 1 : Nat) : Int) = (a : Int) + 1 := by omega
        rw [ec] at hT
        clear h hi hg h8 e0
        go_enter Tryd.func71, Tryd.ntmps71
        go_wp2
        go_ret
        exact ⟨rfl, hT⟩
    · have e0 : tk vs a true = (0, 99) := by unfold tk; rw [if_pos rfl, if_neg hlt]
      rw [e0]
      have n0 : ¬ (a : Int) < (vs.length : Int) := by omega
      have hT := h.takes 99
      clear h e0 h6 h8
      go_enter Tryd.func71, Tryd.ntmps71
      go_wp2
      go_ret
      exact ⟨rfl, hT⟩

/-- What InstrOf makes of numbers, kind by kind. -/
def rp (k : Nat) (vs : List Int) : Ins × Nat :=
  let r1 := tk vs 0 (nTo k)
  let r2 := tk vs r1.2 (nA k)
  let r3 := if k = 13 then tk vs r2.2 true else (0, r2.2)
  let r4 := tk vs r3.2 (nB k)
  let r5 := if k = 13 then (r3.1, r4.2) else tk vs r4.2 (nN k)
  let r6 := tk vs r5.2 (nG k)
  (⟨k, r1.1, r2.1, r4.1, r5.1, r6.1⟩, r6.2)
theorem rp_right {k : Nat} {vs : List Int} (h1 : 1 ≤ k) (h19 : k ≤ 19) (h : (prt k).length = vs.length) : rp k vs = (putAll (prt k) vs ⟨k, 0, 0, 0, 0, 0⟩, vs.length) := by
  rcases nat_cases h1 h19 with rfl | rfl | rfl | rfl | rfl | rfl | rfl | rfl | rfl | rfl | rfl | rfl | rfl | rfl | rfl | rfl | rfl | rfl | rfl <;> simp only [prt, List.length_cons, List.length_nil] at h <;>
  first
    | (match vs, h with
      | [], _ => rfl)
    | (match vs, h with
      | [a], _ => rfl)
    | (match vs, h with
      | [a, b], _ => rfl)
    | (match vs, h with
      | [a, b, c], _ => rfl)
theorem rp_wrong {k : Nat} {vs : List Int} (h1 : 1 ≤ k) (h19 : k ≤ 19) (h : (prt k).length ≠ vs.length) : (rp k vs).2 ≠ vs.length := by
  match vs with
  | [] =>
    rcases nat_cases h1 h19 with rfl | rfl | rfl | rfl | rfl | rfl | rfl | rfl | rfl | rfl | rfl | rfl | rfl | rfl | rfl | rfl | rfl | rfl | rfl <;> revert h <;> decide
  | [a] =>
    rcases nat_cases h1 h19 with rfl | rfl | rfl | rfl | rfl | rfl | rfl | rfl | rfl | rfl | rfl | rfl | rfl | rfl | rfl | rfl | rfl | rfl | rfl <;> first | (exact absurd rfl h) | (exact (by decide : (99 : Nat) ≠ 1)) | (exact (by decide : (0 : Nat) ≠ 1))
  | [a, b] =>
    rcases nat_cases h1 h19 with rfl | rfl | rfl | rfl | rfl | rfl | rfl | rfl | rfl | rfl | rfl | rfl | rfl | rfl | rfl | rfl | rfl | rfl | rfl <;> first | (exact absurd rfl h) | (exact (by decide : (99 : Nat) ≠ 2)) | (exact (by decide : (0 : Nat) ≠ 2)) | (exact (by decide : (1 : Nat) ≠ 2))
  | [a, b, c] =>
    rcases nat_cases h1 h19 with rfl | rfl | rfl | rfl | rfl | rfl | rfl | rfl | rfl | rfl | rfl | rfl | rfl | rfl | rfl | rfl | rfl | rfl | rfl <;> first | (exact absurd rfl h) | (exact (by decide : (0 : Nat) ≠ 3)) | (exact (by decide : (1 : Nat) ≠ 3)) | (exact (by decide : (2 : Nat) ≠ 3))
  | a :: b :: c :: d :: r =>
    have hs : (rp k (a :: b :: c :: d :: r)).2 ≤ 3 := by
      rcases nat_cases h1 h19 with rfl | rfl | rfl | rfl | rfl | rfl | rfl | rfl | rfl | rfl | rfl | rfl | rfl | rfl | rfl | rfl | rfl | rfl | rfl <;> simp [rp, tk, nTo, nA, nB, nN, nG, btw]
    simp only [List.length_cons]
    omega
theorem tk_le {vs : List Int} {a n : Nat} {b : Bool} (h : a ≤ n) (hn : 99 ≤ n) : (tk vs a b).2 ≤ n + 1 := by
  unfold tk
  split
  · split <;> simp only <;> omega
  · simp only; omega
end Go.Proofs.YtmapdpcfanecdaaDoor
