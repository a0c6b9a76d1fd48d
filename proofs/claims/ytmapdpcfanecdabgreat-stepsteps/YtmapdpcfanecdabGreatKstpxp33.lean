/- The document's own answer: two pictures joined. -/
import Derived.Test.YtmapdpcfanecdabGreatKstpxp32
import Derived.Test.YtmapdpcfanecdabGreatKstpxp09
import Derived.Test.YtmapdpcfanecdabGreatKstpxp01
import Derived.Deep.RegionHeld
import Derived.WalkKit
import Derived.WalkSpells
import Derived.WalkLawsBesides
import Derived.Handy
import Derived.Deep.DeepCutAuto
import Derived.Deep.RegionHeldLaw
set_option linter.unusedSimpArgs false
set_option linter.unusedVariables false
namespace Go.Proofs.YtmapdpcfanecdabGreat
section
open Go.RowKit
attribute [local go_sem ↓] Go.wp_at_zero Go.wp_at_succ

/-- What is made of two guesses in new memory lies away from an older row. -/
theorem joined_in {w5 w6 : World} {wd : World} {B N : Nat} {js : Option Addr} {jc : Nat} {g : Gs} {v : Value} (hI : IntsAt w5 js g.s) (h1 : g.s.length ≤ jc) (h2 : jc ≤ maxLen) (hF : ∀ a, js = some a → wd.heap.size ≤ a.block) (hB : B ≤ N) (hv : ∀ {k}, v.ownBlock = some k → k < N) (hb : Below w5.heap.size w5 w6) (hN : N ≤ wd.heap.size) : GcIn (fun b => B ≤ b ∧ v.ownBlock ≠ some b) w6 ⟨g, js, jc⟩ := by
 refine ⟨?_, h1, h2⟩
 rcases hI with h | ⟨b, off, e, hz, hc⟩
 ·exact .inl h
 ·have hbn := hF _ e
  simp only at hbn
  exact .inr ⟨b, off, e, ⟨by omega, fun e' => by have := hv e'; omega⟩, Nat.lt_of_lt_of_le hz hb.size, fun k hk => by rw [hb.cell (by simp only; exact hz)]; exact hc k hk⟩
theorem joinRow_take (j : Gs → Gs → Gs) (a b : List Gs) (k : Nat) (h : k < a.length) (h' : k < b.length) : joinRow j (a.take (k + 1)) (b.take (k + 1)) = joinRow j (a.take k) (b.take k) ++ [j a[k] b[k]] := by
 unfold joinRow
 rw [List.take_succ_eq_append_getElem h, List.take_succ_eq_append_getElem h', List.zipWith_append (by simp; omega)]
 rfl
theorem joinRows_take (j : Gs → Gs → Gs) (a b : List (List Gs)) (k : Nat) (h : k < a.length) (h' : k < b.length) : List.zipWith (joinRow j) (a.take (k + 1)) (b.take (k + 1)) = List.zipWith (joinRow j) (a.take k) (b.take k) ++ [joinRow j a[k] b[k]] := by
 rw [List.take_succ_eq_append_getElem h, List.take_succ_eq_append_getElem h', List.zipWith_append (by simp; omega)]
 rfl
def JoinC (wide : Bool) (j : Gs → Gs → Gs) (RR : Gs → Gs → Prop) : Prop := ∀ (g : Gs) (ss : Option Addr) (gc : Nat) (h : Gs) (st : Option Addr) (hc : Nat) (wx : World), IntsAt wx ss g.s → IntsAt wx st h.s → RR g h → Calls Tryz.prog 26 #[gv g ss gc, gv h st hc, .bool wide] wx fun e w' => ∃ js jc, e = .returned (gv (j g h) js jc) ∧ IntsAt w' js (j g h).s ∧ (j g h).s.length ≤ jc ∧ jc ≤ maxLen ∧ (∀ a, js = some a → wx.heap.size ≤ a.block) ∧ Below wx.heap.size wx w'
end
end Go.Proofs.YtmapdpcfanecdabGreat
