/- A struct's cells in a block of its own; the stepper; edges. -/
import Derived.Test.YtmapdpcfanecdabGreatKstpxp05
import Derived.Test.YtmapdpcfanecdabGreatKstpxp01
import Derived.Lib.ItoaNum
import Derived.Lib.ItoaLen
import Derived.Lib.QuietBelow
import Derived.BigQuiet
import Derived.Test.YtmapdpcfanecdabGreatKstpxp03
set_option linter.unusedSimpArgs false
set_option linter.unusedVariables false
namespace Go.Proofs.YtmapdpcfanecdabGreat
section
open Go.RowKit
/-- A row of guesses in a block of its own; it and its sites lie where S is true of the block. -/
def VRow (S : Nat → Prop) (w : World) (B : Nat) (v : Value) (l : List Gc) : Prop := w.ownsRow B 61 7 v l.length (rowCells l) ∧ (∀ b, v.ownBlock = some b → S b) ∧ ∀ x ∈ l, GcIn (fun b => S b ∧ v.ownBlock ≠ some b) w x
section
variable {S S' : Nat → Prop} {w w' : World} {B : Nat} {v : Value} {l : List Gc}
theorem VRow.same (h : VRow S w B v l) (hs : ∀ b, S b → b < w.heap.size → w'.heap[b]? = w.heap[b]?) (hz : w.heap.size ≤ w'.heap.size) : VRow S w' B v l := ⟨ownsI_same h.1 fun b hb => hs b (h.2.1 b hb) (ownsI_lt h.1 hb).1, h.2.1, fun x hx => ⟨(h.2.2 x hx).1.same (fun b hb hlt => hs b hb.1 hlt) hz, (h.2.2 x hx).2⟩⟩
theorem VRow.mono (h : VRow S w B v l) (hs : ∀ b, S b → b < w.heap.size → S' b) : VRow S' w B v l := ⟨h.1, fun b hb => hs b (h.2.1 b hb) (ownsI_lt h.1 hb).1, fun x hx => ⟨(h.2.2 x hx).1.mono fun b hb hlt => ⟨hs b hb.1 hlt, hb.2⟩, (h.2.2 x hx).2⟩⟩
theorem VRow.call (h : VRow S w B v l) (hb : Below w.heap.size w w') : VRow S w' B v l := h.same (fun b _ hlt => hb.block b hlt) hb.size
theorem ownsI_lower {e : TypeId} {z n : Nat} {xs : List Value} {C : Nat} (h : w.ownsRow C e z v n xs) (hB : B ≤ C) : w.ownsRow B e z v n xs := by
 refine ⟨h.1, ?_⟩
 rcases h.2 with h2 | ⟨g, cap, cur, e1, hb, h3⟩
 ·exact .inl h2
 ·exact .inr ⟨g, cap, cur, e1, Nat.le_trans hB hb, h3⟩
theorem SRow.vrow (h : SRow w B v l) : VRow (fun b => B ≤ b) w B v l := ⟨h.1, fun b hb => (ownsI_lt h.1 hb).2, fun x hx => h.2 x hx⟩
theorem VRow.lower (h : VRow S w B v l) {C : Nat} (hB : C ≤ B) : VRow S w C v l := ⟨ownsI_lower h.1 hB, h.2⟩
end
/-- Rows that are made, each in a block of its own, from block B on. -/
structure FRowS (w : World) (B : Nat) (v : Value) (L : List Ro) : Prop where
 own : w.ownsRow B 25 1 v L.length (L.map roV)
 rows : ∀ r ∈ L, RoOwn w B r
 sites : ∀ r ∈ L, ∀ g ∈ r.l, GcIn (fun b => B ≤ b ∧ v.ownBlock ≠ some b ∧ ∀ q ∈ L, roB q ≠ some b) w g
 df : ∀ b, v.ownBlock = some b → ∀ r ∈ L, roB r ≠ some b
 dr : L.Pairwise fun r q => ∀ b, roB r = some b → roB q ≠ some b
section
variable {w w0 w' : World} {B : Nat} {v v' : Value} {L : List Ro}
theorem FRowS.nil (w : World) (B : Nat) : FRowS w B (.slice none 0 0) [] := ⟨⟨rfl, .inl ⟨rfl, rfl⟩⟩, fun r hr => by simp at hr, fun r hr => by simp at hr, fun b hb r hr => by simp at hr, List.Pairwise.nil⟩
theorem FRowS.olden (h : FRowS w B v L) (hs : ∀ b, B ≤ b → b < w.heap.size → w'.heap[b]? = w.heap[b]?) (hz : w.heap.size ≤ w'.heap.size) : FRowS w' B v L :=
 ⟨ownsI_same h.own fun b hb => hs b (ownsI_lt h.own hb).2 (ownsI_lt h.own hb).1, fun r hr => (h.rows r hr).same fun b hb => hs b ((h.rows r hr).lt hb).2 ((h.rows r hr).lt hb).1, fun r hr g hg => ⟨(h.sites r hr g hg).1.same (fun b hb hlt => hs b hb.1 hlt) hz, (h.sites r hr g hg).2⟩, h.df, h.dr⟩
theorem FRowS.call (h : FRowS w B v L) (hb : Below w.heap.size w w') : FRowS w' B v L := h.olden (fun b _ hlt => hb.block b hlt) hb.size
/-- .. behind an append of a row that was made since w0. -/
theorem FRowS.grown (h0 : FRowS w0 B v L) (hb : Below w0.heap.size w0 w) (hB : B ≤ w0.heap.size) {x : Ro} (hx : VRow (fun b => w0.heap.size ≤ b) w w0.heap.size (roV x) x.l) (hr : w'.ownsRow B 25 1 v' (L.length + 1) (L.map roV ++ [roV x])) (hg : w.grownBy w' v.ownBlock) (hv : v'.ownBlock = v.ownBlock ∨ v'.ownBlock = some w.heap.size) : FRowS w' B v' (L ++ [x]) := by
 have h := h0.call hb
 have hsz := hb.size
 have hxo : RoOwn w w0.heap.size x := hx.1
 have vlt : ∀ b, v.ownBlock = some b → b < w0.heap.size := fun b hb => (ownsI_lt h0.own hb).1
 have rlt : ∀ r ∈ L, ∀ b, roB r = some b → b < w0.heap.size := fun r hr b hb => ((h0.rows r hr).lt hb).1
 have xge : ∀ b, roB x = some b → w0.heap.size ≤ b ∧ b < w.heap.size := fun b hb => ⟨(hxo.lt hb).2, (hxo.lt hb).1⟩
 have keep : ∀ b, b < w.heap.size → v.ownBlock ≠ some b → w'.heap[b]? = w.heap[b]? := fun b hb hne => hg.block b hb fun e => hne e.symm
 refine ⟨by rw [List.length_append, List.map_append]; exact hr, fun r hr => ?_, fun r hr g hgm => ?_, fun b hb r hr => ?_, ?_⟩
 ·rcases List.mem_append.1 hr with hr | hr
  ·exact (h.rows r hr).same fun b hb => keep b ((h.rows r hr).lt hb).1 fun e => h.df b e r hr hb
  ·rw [List.mem_singleton.1 hr]
   exact RoOwn.same (ownsI_lower hxo hB) fun b hb => keep b (xge b hb).2 fun e => by have := vlt b e; have := (xge b hb).1; omega
 ·rcases List.mem_append.1 hr with hr | hr
  ·have h1 : GcIn (fun b => (B ≤ b ∧ v.ownBlock ≠ some b ∧ ∀ q ∈ L, roB q ≠ some b) ∧ b < w0.heap.size) w g := ⟨((h0.sites r hr g hgm).1.mono fun b hb hlt => (⟨hb, hlt⟩ : _ ∧ b < w0.heap.size)).call hb, (h0.sites r hr g hgm).2⟩
   refine ⟨(h1.1.same (fun b hb hlt => keep b hlt hb.1.2.1) hg.size).mono fun b hb _ => ⟨hb.1.1, ?_, fun q hq => ?_⟩, h1.2⟩
   ·rcases hv with e | e
    ·rw [e]; exact hb.1.2.1
    ·rw [e]; intro e'; cases e'; have := hb.2; omega
   ·rcases List.mem_append.1 hq with hq | hq
    ·exact hb.1.2.2 q hq
    ·rw [List.mem_singleton.1 hq]
     intro e
     have := (xge b e).1
     have := hb.2
     omega
  ·rw [List.mem_singleton.1 hr] at hgm
   have h1 : GcIn (fun b => (w0.heap.size ≤ b ∧ roB x ≠ some b) ∧ b < w.heap.size) w g := ⟨(hx.2.2 g hgm).1.mono fun b hb hlt => ⟨hb, hlt⟩, (hx.2.2 g hgm).2⟩
   refine ⟨(h1.1.same (fun b hb hlt => keep b hlt fun e => by have := vlt b e; have := hb.1.1; omega) hg.size).mono fun b hb _ => ⟨Nat.le_trans hB hb.1.1, ?_, fun q hq => ?_⟩, h1.2⟩
   ·rcases hv with e | e
    ·rw [e]; intro e'; have := vlt b e'; have := hb.1.1; omega
    ·rw [e]; intro e'; cases e'; have := hb.2; omega
   ·rcases List.mem_append.1 hq with hq | hq
    ·intro e
     have := rlt q hq b e
     have := hb.1.1
     omega
    ·rw [List.mem_singleton.1 hq]
     exact hb.1.2
 ·rcases hv with e | e
  ·rw [e] at hb
   rcases List.mem_append.1 hr with hr | hr
   ·exact h0.df b hb r hr
   ·rw [List.mem_singleton.1 hr]
    intro e'
    have := vlt b hb
    have := (xge b e').1
    omega
  ·rw [e] at hb
   cases hb
   rcases List.mem_append.1 hr with hr | hr
   ·intro e'
    have := rlt r hr _ e'
    omega
   ·rw [List.mem_singleton.1 hr]
    intro e'
    have := (xge _ e').2
    omega
 ·rw [List.pairwise_append]
  refine ⟨h0.dr, List.pairwise_singleton _ _, fun r hr q hq b hb e => ?_⟩
  rw [List.mem_singleton.1 hq] at e
  have := rlt r hr b hb
  have := (xge b e).1
  omega
theorem FRowS.form (h : FRowS w B v L) : ∃ fs fc, v = .slice fs L.length fc := by
 rcases h.own.2 with ⟨e, h0⟩ | ⟨g, cap, cur, e, _⟩
 ·exact ⟨none, 0, by rw [e, h0]⟩
 ·exact ⟨some ⟨g, 0, none⟩, cap, e⟩
/-- A row of variables below them makes a picture of it. -/
theorem FRowS.pic {S : Nat → Prop} {C : Nat} {vs fs : Option Addr} {vc fc : Nat} {l : List Gc} (h : FRowS w B (.slice fs L.length fc) L) (hv : VRow S w C (.slice vs l.length vc) l) (hS : ∀ b, S b → C ≤ b ∧ b < B) (hC : C ≤ B) : PicG (fun b => C ≤ b) C w ⟨vs, vc, l⟩ fs fc L := by
 have vlt : ∀ b, roB ⟨vs, vc, l⟩ = some b → b < B := fun b hb => (hS b (hv.2.1 b hb)).2
 have fge : ∀ b, (Value.slice fs L.length fc).ownBlock = some b → B ≤ b := fun b hb => (ownsI_lt h.own hb).2
 have rge : ∀ r ∈ L, ∀ b, roB r = some b → B ≤ b := fun r hr b hb => ((h.rows r hr).lt hb).2
 refine ⟨hv.1, ownsI_lower h.own hC, fun r hr => ownsI_lower (h.rows r hr) hC, fun g hg => ⟨(hv.2.2 g hg).1.mono fun b hb _ => ⟨(hS b hb.1).1, hb.2, fun e => ?_, fun r hr e => ?_⟩, (hv.2.2 g hg).2⟩, fun r hr g hg => ⟨(h.sites r hr g hg).1.mono fun b hb _ => ⟨Nat.le_trans hC hb.1, fun e => ?_, hb.2.1, hb.2.2⟩, (h.sites r hr g hg).2⟩, fun b hb => ⟨fun e => ?_, fun r hr e => ?_⟩, h.df, h.dr⟩
 ·have := fge b e; have := (hS b hb.1).2; omega
 ·have := rge r hr b e; have := (hS b hb.1).2; omega
 ·have := vlt b e; have := hb.1; omega
 ·have := fge b e; have := vlt b hb; omega
 ·have := rge r hr b e; have := vlt b hb; omega
end
theorem PicG.down {T : Nat → Prop} {B C : Nat} {w : World} {v : Ro} {fs : Option Addr} {fc : Nat} {L : List Ro} (h : PicG T B w v fs fc L) (hC : C ≤ B) : PicG T C w v fs fc L := ⟨ownsI_lower h.vars hC, ownsI_lower h.flds hC, fun r hr => ownsI_lower (h.rows r hr) hC, h.sv, h.sf, h.dv, h.df, h.dr⟩
/-- What is answered is a picture that may be changed, in blocks from B on, beside an errno. -/
def PicS (B : Nat) (w' : World) (e : Ending) (x : Pic) (er : Int) : Prop := ∃ v fs fc L, x = picOf x.none v L ∧ e = .returned (.tuple #[.agg #[.bool x.none, .slice v.rs v.l.length v.rc, .slice fs L.length fc], .int .i64 er]) ∧ PicG (fun b => B ≤ b) B w' v fs fc L
/-- A row that is answered. -/
def RowN (w w' : World) (e : Ending) (l : List Gs) : Prop := ∃ rs rc gl, e = .returned (.slice rs gl.length rc) ∧ Hid (gl.map Gc.g = l) ∧ SRow w' w.heap.size (.slice rs gl.length rc) gl
theorem picG_zero (B : Nat) (w : World) : PicG (fun b => B ≤ b) B w ⟨none, 0, []⟩ none 0 [] := ⟨⟨rfl, .inl ⟨rfl, rfl⟩⟩, ⟨rfl, .inl ⟨rfl, rfl⟩⟩, fun r hr => by simp at hr, fun g hg => by simp at hg, fun r hr => by simp at hr, fun b hb => by simp [roB, roV, Value.ownBlock] at hb, fun b hb r hr => by simp at hr, List.Pairwise.nil⟩
end
section
set_option maxHeartbeats 1000000
open Go.RowKit

theorem word_any (k : Int) (w : World) :
  Calls Tryz.prog 73 #[.int .i64 k] w fun e w' => e = .returned (.string (wordB k)) ∧ Below w.heap.size w w' := by
 by_cases h : btw k 1 19 = true
 ·rcases btw_cases h with rfl | rfl | rfl | rfl | rfl | rfl | rfl | rfl | rfl | rfl | rfl | rfl | rfl | rfl | rfl | rfl | rfl | rfl | rfl
  all_goals
   go_enter Tryz.func73, Tryz.ntmps73
   go_wp2_with (go_at_call 38; refine (between_any _ _ _ _).mono ?_; rintro e w' ⟨rfl, rfl⟩)
   go_ret
   exact ⟨rfl, by go_grown⟩
 ·have h : btw k 1 19 = false := by simpa using h
  have hw := wordB_none h
  go_enter Tryz.func73, Tryz.ntmps73
  go_wp2_with (go_at_call 38; refine (between_any _ _ _ _).mono ?_; rintro e w' ⟨rfl, rfl⟩)
  go_ret
  exact ⟨ret_str hw.symm, by go_grown⟩
end
section

def zeroIns : Ins := ⟨0, 0, 0, 0, 0, 0⟩
def insAt (c : List Ins) (p : Int) : Ins := c.getD p.toNat zeroIns
end
section

/-- A run that is right. -/
structure RunOk (V F : Int) (c : List Ins) (r : St) : Prop where
 at0 : 0 ≤ r.at_
 at1 : r.at_ ≤ c.length
 tk : 0 ≤ r.taken
 fin0 : 0 ≤ r.fin
 fin5 : r.fin ≤ 5
 vars : (r.vars.length : Int) = V
 things : r.things.length ≤ 100
 sites : ∀ t ∈ r.things, isNew c t.site = true
 fields : ∀ t ∈ r.things, (t.fs.length : Int) = F
 vals : ∀ v ∈ r.vars, okVal r.things.length v
 fvals : ∀ t ∈ r.things, ∀ v ∈ t.fs, okVal r.things.length v

section
variable {V F L : Int} {i : Ins}
theorem ckOne_parts (h : ckOne V F L i = 0) : btw i.k 1 19 = true ∧ (nTo i.k = true → 0 ≤ i.to ∧ i.to < V) ∧ (nA i.k = true → 0 ≤ i.a ∧ i.a < V) ∧ (nB i.k = true → 0 ≤ i.b ∧ i.b < V) ∧ (i.k = 12 ∨ i.k = 13 → 0 ≤ i.n ∧ i.n < F) ∧ (nG i.k = true → 0 ≤ i.g ∧ i.g ≤ L) ∧ (i.k = 1 → -2147483648 ≤ i.n ∧ i.n ≤ 2147483647) ∧ (i.k = 2 → i.n = 0 ∨ i.n = 1) ∧ (i.k = 14 → 0 ≤ i.n ∧ i.n ≤ 1000000) := by
 unfold ckOne at h
 split at h
 ·cases h
 rename_i h1
 split at h
 ·cases h
 rename_i h2
 split at h
 ·cases h
 rename_i h3
 simp only [Bool.or_eq_true, Bool.and_eq_true, Bool.not_eq_true', not_or, not_and, Bool.not_eq_false, decide_eq_true_eq, btw] at h2 h3
 obtain ⟨⟨⟨⟨a1, a2⟩, a3⟩, a4⟩, a5⟩ := h2
 obtain ⟨⟨b1, b2⟩, b3⟩ := h3
 refine ⟨by simpa using h1, fun h => ?_, fun h => ?_, fun h => ?_, fun h => ?_, fun h => ?_, fun h => ?_, fun h => ?_, fun h => ?_⟩
 ·have := a1 h; omega
 ·have := a2 h; omega
 ·have := a3 h; omega
 ·have := a4 h; omega
 ·have := a5 h; omega
 ·have := b1 h; omega
 ·have := b2 h; omega
 ·have := b3 h; omega
end

theorem ckAll_mem {V F L : Int} {c : List Ins} (h : ckAll V F L c = 0) : ∀ i ∈ c, ckOne V F L i = 0 := by
 induction c with
 | nil => intro i hi; cases hi
 | cons x r ih =>
  unfold ckAll at h
  split at h
  ·rename_i hx
   intro i hi
   rcases List.mem_cons.1 hi with rfl | hi
   ·exact hx
   ·exact ih h i hi
  ·rename_i hx; exact absurd h hx
structure ProgOk (V F : Int) (c : List Ins) : Prop where
 v1 : 1 ≤ V
 v8 : V ≤ 8
 f0 : 0 ≤ F
 f3 : F ≤ 3
 len : c.length ≤ 60
 each : ∀ i ∈ c, ckOne V F c.length i = 0
theorem progOk_of {V F : Int} {c : List Ins} (h : ckProg V F c = 0) : ProgOk V F c := by
 unfold ckProg at h
 split at h
 ·cases h
 rename_i h1
 split at h
 ·cases h
 rename_i h2
 simp [btw] at h1
 exact ⟨by omega, by omega, by omega, by omega, by omega, ckAll_mem h⟩

theorem insAt_eq {c : List Ins} {p : Nat} (h : p < c.length) : insAt c (p : Int) = c[p] := by
 unfold insAt
 simp [List.getD, List.getElem?_eq_getElem h]
theorem insAt_mem {c : List Ins} {p : Int} (h0 : 0 ≤ p) (h : p < c.length) : insAt c p ∈ c := by
 obtain ⟨k, rfl⟩ := Int.eq_ofNat_of_zero_le h0
 rw [insAt_eq (by omega)]
 exact List.getElem_mem _

theorem mem_set_or {α : Type} {l : List α} {i : Nat} {v x : α} (h : x ∈ l.set i v) : x = v ∨ x ∈ l := (List.mem_or_eq_of_mem_set h).symm
end
section

theorem mem_siteSet {a b : List Int} {x : Int} : x ∈ siteSet a b ↔ (0 ≤ x ∧ x < 60) ∧ (x ∈ a ∨ x ∈ b) := by
 unfold siteSet
 simp only [List.mem_filter, List.mem_map, List.mem_range, Bool.or_eq_true, List.contains_iff_mem]
 constructor
 ·rintro ⟨⟨n, hn, rfl⟩, h⟩
  exact ⟨by omega, h⟩
 ·rintro ⟨⟨h0, h1⟩, h⟩
  exact ⟨⟨x.toNat, by omega, by omega⟩, h⟩
theorem siteSet_pair (a b : List Int) : (siteSet a b).Pairwise (· < ·) := by
 unfold siteSet
 refine List.Pairwise.filter _ ?_
 rw [List.pairwise_map]
 exact List.pairwise_lt_range.imp (by intro a b h; omega)
theorem rising_of_pair : ∀ {l : List Int}, l.Pairwise (· < ·) → rising l = true
 | [], _ => rfl
 | [_], _ => rfl
 | a :: b :: r, h => by
  unfold rising
  rw [List.pairwise_cons] at h
  simp [h.1 b (by simp), rising_of_pair h.2]
theorem ckGs_iff {c : List Ins} {g : Gs} : ckGs c g = 0 ↔ g.sp.Ok ∧ (∀ x ∈ g.s, isSite c x = true) ∧ rising g.s = true := by
 unfold ckGs
 by_cases h1 : ckSp g.sp = 0
 ·rw [if_neg (by simpa using h1)]
  by_cases h2 : g.s.all (isSite c) = false
  ·rw [if_pos h2]
   refine ⟨(fun h => by cases h), fun h => ?_⟩
   rw [List.all_eq_true.2 h.2.1] at h2
   cases h2
  ·rw [if_neg h2]
   have h2' : ∀ x ∈ g.s, isSite c x = true := by simpa using h2
   by_cases h3 : rising g.s = false
   ·rw [if_pos h3]
    exact ⟨fun h => (by cases h), fun h => (by rw [h.2.2] at h3; cases h3)⟩
   ·rw [if_neg h3]
    exact ⟨fun _ => ⟨ckSp_ok.1 h1, h2', by simpa using h3⟩, fun _ => rfl⟩
 ·rw [if_pos h1]
  exact ⟨fun h => absurd h h1, fun h => absurd (ckSp_ok.2 h.1) h1⟩
theorem isSite_range {c : List Ins} {x : Int} (h : isSite c x = true) : 0 ≤ x ∧ x < c.length := by
 unfold isSite at h
 simp only [Bool.and_eq_true, decide_eq_true_eq] at h
 omega

section
variable {c : List Ins} {g h : Gs} {w : Bool}
theorem joinGs_sp (w : Bool) (g h : Gs) : (joinGs w g h).sp = if w then wideSp g.sp h.sp else joinSp g.sp h.sp := rfl
/-- What comes of right guesses is right. -/
theorem ckGs_join (hg : ckGs c g = 0) (hh : ckGs c h = 0) : ckGs c (joinGs w g h) = 0 := by
 rw [ckGs_iff] at hg hh ⊢
 refine ⟨?_, fun x hx => ?_, rising_of_pair (siteSet_pair _ _)⟩
 ·rw [joinGs_sp]
  cases w
  ·exact join_ok hg.1 hh.1
  ·exact wide_ok hg.1 hh.1
 ·rcases (mem_siteSet.1 hx).2 with h | h
  ·exact hg.2.1 x h
  ·exact hh.2.1 x h
end

theorem strayAt_iff {c : List Ins} {p : Gs → Bool} : ∀ {l : List (List Gs)} {i : Nat}, strayAt c p i l = false ↔ ∀ k (h : k < l.length), isSite c ((i + k : Nat) : Int) = true ∨ ∀ g ∈ l[k], p g = false
 | [], i => by simp [strayAt]
 | r :: l, i => by
  unfold strayAt
  rw [Bool.or_eq_false_iff, strayAt_iff (l := l)]
  constructor
  ·rintro ⟨h, h'⟩ k hk
   cases k with
   | zero =>
    rw [Bool.and_eq_false_iff] at h
    rcases h with h | h
    ·exact .inl (by simpa using h)
    ·exact .inr (by simpa using h)
   | succ k =>
    have := h' k (by simpa using hk)
    rwa [show i + 1 + k = i + (k + 1) by omega] at this
  ·intro h
   refine ⟨?_, fun k hk => ?_⟩
   ·rw [Bool.and_eq_false_iff]
    rcases h 0 (by simp) with h | h
    ·exact .inl (by simpa using h)
    ·exact .inr (by simpa using h)
   ·have := h (k + 1) (by simpa using hk)
    rwa [show i + (k + 1) = i + 1 + k by omega] at this
theorem ckGss_iff {c : List Ins} : ∀ {l : List Gs}, ckGss c l = 0 ↔ ∀ g ∈ l, ckGs c g = 0
 | [] => by simp [ckGss]
 | g :: l => by
  unfold ckGss
  by_cases h : ckGs c g = 0
  ·rw [if_pos h, ckGss_iff]
   simp [h]
  ·rw [if_neg h]
   exact ⟨fun e => absurd e h, fun e => e g (by simp)⟩
/-- A picture of runs that is right. -/
structure PicOk (V F : Int) (c : List Ins) (x : Pic) : Prop where
 none : x.none = false
 vars : (x.vars.length : Int) = V
 flds : x.flds.length = c.length
 row : ∀ k (h : k < x.flds.length), (x.flds[k].length : Int) = F
 gv : ∀ g ∈ x.vars, ckGs c g = 0
 gf : ∀ k (h : k < x.flds.length), ∀ g ∈ x.flds[k], ckGs c g = 0
 stray : ∀ k (h : k < x.flds.length), isSite c (k : Int) = true ∨ ∀ g ∈ x.flds[k], nothingGs g = true
theorem ckPic_iff {V F : Int} {c : List Ins} {x : Pic} (hn : x.none = false) : ckPic V F c x = 0 ↔ PicOk V F c x := by
 obtain ⟨n, vars, flds⟩ := x
 simp only at hn
 subst hn
 unfold ckPic formedPic allPic
 simp only [Bool.false_eq_true, if_false]
 constructor
 ·intro h
  split at h
  ·cases h
  rename_i h1
  split at h
  ·rename_i h2; exact absurd h h2
  rename_i h2
  split at h
  ·cases h
  rename_i h3
  simp only [Bool.not_eq_false, Bool.and_eq_true, decide_eq_true_eq, Bool.not_eq_true', List.any_eq_false, decide_eq_false_iff_not, Decidable.not_not] at h1
  simp only [ne_eq, Decidable.not_not] at h2
  rw [ckGss_iff] at h2
  rw [Bool.not_eq_true, strayAt_iff] at h3
  refine ⟨rfl, h1.1, h1.2.1, fun k h => ?_, fun g hg => h2 g (by simp [hg]), fun k h g hg => h2 g ?_, fun k h => ?_⟩
  ·have := h1.2.2 _ (List.getElem_mem h)
   simpa using this
  ·rw [List.mem_append, List.mem_flatten]
   exact .inr ⟨_, List.getElem_mem h, hg⟩
  ·rcases h3 k h with h3 | h3
   ·exact .inl (by simpa using h3)
   ·exact .inr fun g hg => by simpa using h3 g hg
 ·rintro ⟨-, h1, h2, h3, h4, h5, h6⟩
  simp only at h1 h2 h3 h4 h5 h6
  rw [if_neg, if_neg, if_neg]
  ·rw [Bool.not_eq_true, strayAt_iff]
   intro k h
   rcases h6 k h with h6 | h6
   ·exact .inl (by simpa using h6)
   ·exact .inr fun g hg => by simpa using h6 g hg
  ·rw [ne_eq, Decidable.not_not, ckGss_iff]
   intro g hg
   rw [List.mem_append, List.mem_flatten] at hg
   rcases hg with hg | ⟨r, hr, hg⟩
   ·exact h4 g hg
   ·obtain ⟨k, hk, rfl⟩ := List.getElem_of_mem hr
    exact h5 k hk g hg
  ·simp only [Bool.not_eq_false, Bool.and_eq_true, decide_eq_true_eq, Bool.not_eq_true', List.any_eq_false]
   refine ⟨h1, h2, fun r hr => ?_⟩
   obtain ⟨k, hk, rfl⟩ := List.getElem_of_mem hr
   simpa using h3 k hk
section
variable {V F : Int} {c : List Ins} {x y : Pic} {w : Bool} {r : St}
theorem picOk_of (h : ckPic V F c x = 0) (hn : x.none = false) : PicOk V F c x := (ckPic_iff hn).1 h
theorem PicOk.ck (h : PicOk V F c x) : ckPic V F c x = 0 := (ckPic_iff h.none).2 h
theorem getD_row {L : List (List Gs)} {k : Nat} (h : k < L.length) : L.getD k [] = L[k] := by simp [List.getD, List.getElem?_eq_getElem h]
theorem getD_none {L : List (List Gs)} {k : Nat} (h : ¬ k < L.length) : L.getD k [] = [] := by simp [List.getD, List.getElem?_eq_none (Nat.not_lt.1 h)]
end
end
section

structure Edg where
 to : Int
 pic : Pic
def gAt (x : Pic) (i : Int) : Gs := x.vars.getD i.toNat noneG
def setVar (x : Pic) (i : Int) (g : Gs) : Pic := { x with vars := x.vars.set i.toNat g }
def fAt (x : Pic) (s n : Int) : Gs := (x.flds.getD s.toNat []).getD n.toNat noneG
def setFld (x : Pic) (s n : Int) (g : Gs) : Pic := { x with flds := x.flds.modify s.toNat fun r => r.set n.toNat g }
/-- A span without a 0 that stands at its end. -/
def trueSp (s : Sp) : Sp := if s.n then ⟨true, 0, 0⟩ else if (if s.hi = 0 then -1 else s.hi) < (if s.lo = 0 then 1 else s.lo) then ⟨true, 0, 0⟩ else ⟨false, if s.lo = 0 then 1 else s.lo, if s.hi = 0 then -1 else s.hi⟩
def trueGs (g : Gs) : Gs := ⟨false, trueSp g.sp, g.t, false, g.s⟩
def falseGs (g : Gs) : Gs := ⟨g.n, if g.sp.has 0 then ⟨false, 0, 0⟩ else ⟨true, 0, 0⟩, false, g.f, []⟩
/-- May it be no thing? -/
def noThing (g : Gs) : Bool := g.n || (!g.sp.n || (g.t || g.f))
/-- What a field may be of all things that a guess may be. -/
def getGs (x : Pic) (n : Int) (l : List Int) : Gs := l.foldl (fun g s => joinGs false g (fAt x s n)) noneG
def putPic (x : Pic) (n : Int) (b : Gs) (l : List Int) : Pic := l.foldl (fun y s => setFld y s n (joinGs false (fAt y s n) b)) x
/-- What To may become, and whether it may be wrong. -/
def comesGs (i : Ins) (at_ : Int) (x : Pic) : Gs × Bool :=
 if i.k = 1 then (⟨false, ⟨false, i.n, i.n⟩, false, false, []⟩, false)
 else if i.k = 2 then (⟨false, ⟨true, 0, 0⟩, decide (i.n = 1), decide (i.n = 0), []⟩, false)
 else if i.k = 3 then (nullG, false)
 else if i.k = 11 then (⟨false, ⟨true, 0, 0⟩, false, false, [at_]⟩, false)
 else if i.k = 12 then (getGs x i.n (gAt x i.a).s, noThing (gAt x i.a))
 else if i.k = 14 then (⟨false, ⟨false, -i.n, i.n⟩, false, false, []⟩, false)
 else doGs i.k (gAt x i.a) (gAt x i.b)
/-- A new thing has null in all fields. -/
def newPic (at_ : Int) (x : Pic) : Pic := { x with flds := x.flds.modify at_.toNat fun r => r.map fun g => { g with n := true } }
/-- The edges of a step, whether it may be wrong, whether it may fail. -/
def stepPic (i : Ins) (at_ : Int) (x : Pic) : List Edg × Bool × Bool :=
 if x.none then ([], false, false)
 else if i.k = 19 then ([], false, false)
 else if i.k = 18 then ([⟨at_ + 1, x⟩], false, false)
 else if i.k = 16 then ([⟨i.g, x⟩], false, false)
 else if i.k = 15 then ((if yesGs (gAt x i.a) then [⟨i.g, setVar x i.a (trueGs (gAt x i.a))⟩] else []) ++ (if noGs (gAt x i.a) then [⟨at_ + 1, setVar x i.a (falseGs (gAt x i.a))⟩] else []), false, false)
 else if i.k = 17 then ((if yesGs (gAt x i.a) then [⟨at_ + 1, setVar x i.a (trueGs (gAt x i.a))⟩] else []), false, noGs (gAt x i.a))
 else if i.k = 13 then (if (gAt x i.a).s.length = 0 then ([], noThing (gAt x i.a), false) else ([⟨at_ + 1, putPic x i.n (gAt x i.b) (gAt x i.a).s⟩], noThing (gAt x i.a), false))
 else if nothingGs (comesGs i at_ x).1 then ([], (comesGs i at_ x).2, false)
 else ([⟨at_ + 1, setVar (if i.k = 11 then newPic at_ x else x) i.to (comesGs i at_ x).1⟩], (comesGs i at_ x).2, false)

section
variable {V F : Int} {c : List Ins} {x : Pic} {g b : Gs}
theorem gAt_ck (hx : PicOk V F c x) (i : Int) : ckGs c (gAt x i) = 0 := by
 unfold gAt
 by_cases h : i.toNat < x.vars.length
 ·simp only [List.getD, List.getElem?_eq_getElem h, Option.getD_some]
  exact hx.gv _ (List.getElem_mem h)
 ·simp only [List.getD, List.getElem?_eq_none (Nat.not_lt.1 h), Option.getD_none]
  rfl
theorem fAt_ck (hx : PicOk V F c x) (s n : Int) : ckGs c (fAt x s n) = 0 := by
 unfold fAt
 by_cases h : s.toNat < x.flds.length
 ·rw [getD_row h]
  by_cases h2 : n.toNat < x.flds[s.toNat].length
  ·simp only [List.getD, List.getElem?_eq_getElem h2, Option.getD_some]
   exact hx.gf _ h _ (List.getElem_mem h2)
  ·simp only [List.getD, List.getElem?_eq_none (Nat.not_lt.1 h2), Option.getD_none]
   rfl
 ·rw [getD_none h]
  rfl
theorem modify_get {L : List (List Gs)} {s k : Nat} {f : List Gs → List Gs} (h : k < (L.modify s f).length) : (L.modify s f)[k] = if s = k then f (L[k]'(by simpa using h)) else L[k]'(by simpa using h) := by
 rw [List.getElem_modify]
theorem PicOk.setFld (hx : PicOk V F c x) (s n : Int) (h0 : 0 ≤ s) (hs : isSite c s = true) (hg : ckGs c g = 0) : PicOk V F c (setFld x s n g) := by
 refine ⟨hx.none, hx.vars, by simpa [Go.Proofs.YtmapdpcfanecdabGreat.setFld] using hx.flds, fun k h => ?_, hx.gv, fun k h q hq => ?_, fun k h => ?_⟩
 ·have h' : k < x.flds.length := by simpa [Go.Proofs.YtmapdpcfanecdabGreat.setFld] using h
  show (((x.flds.modify s.toNat fun r => r.set n.toNat g)[k]'(by simpa using h')).length : Int) = F
  rw [modify_get]
  split
  ·rw [List.length_set]; exact hx.row k h'
  ·exact hx.row k h'
 ·have h' : k < x.flds.length := by simpa [Go.Proofs.YtmapdpcfanecdabGreat.setFld] using h
  have hq' : q ∈ (x.flds.modify s.toNat fun r => r.set n.toNat g)[k]'(by simpa using h') := hq
  rw [modify_get] at hq'
  split at hq'
  ·rcases mem_set_or hq' with rfl | hq'
   ·exact hg
   ·exact hx.gf k h' q hq'
  ·exact hx.gf k h' q hq'
 ·have h' : k < x.flds.length := by simpa [Go.Proofs.YtmapdpcfanecdabGreat.setFld] using h
  by_cases e : s.toNat = k
  ·left
   rw [← e, Int.toNat_of_nonneg h0]
   exact hs
  ·rcases hx.stray k h' with a | a
   ·exact .inl a
   ·right
    intro q hq
    have hq' : q ∈ (x.flds.modify s.toNat fun r => r.set n.toNat g)[k]'(by simpa using h') := hq
    rw [modify_get, if_neg e] at hq'
    exact a q hq'
theorem getGs_ck (hx : PicOk V F c x) (n : Int) (l : List Int) : ckGs c (getGs x n l) = 0 := by
 unfold getGs
 have : ∀ (l : List Int) (g : Gs), ckGs c g = 0 → ckGs c (l.foldl (fun g s => joinGs false g (fAt x s n)) g) = 0 := by
  intro l
  induction l with
  | nil => exact fun g h => h
  | cons s l ih => exact fun g h => ih _ (ckGs_join h (fAt_ck hx s n))
 exact this l _ rfl
theorem putPic_ok (hx : PicOk V F c x) (n : Int) (hb : ckGs c b = 0) : ∀ (l : List Int), (∀ s ∈ l, isSite c s = true) → PicOk V F c (putPic x n b l) := by
 intro l
 unfold putPic
 induction l generalizing x with
 | nil => exact fun _ => hx
 | cons s l ih =>
  intro h
  have hs := h s (by simp)
  exact ih (hx.setFld s n (isSite_range hs).1 hs (ckGs_join (fAt_ck hx s n) hb)) fun t ht => h t (by simp [ht])
theorem none_Ok : (⟨true, 0, 0⟩ : Sp).Ok := ⟨by unfold inNum; simp only; omega, by unfold inNum; simp only; omega, fun _ => ⟨rfl, rfl⟩, Int.le_refl _⟩
theorem some_Ok {lo hi : Int} (h1 : -2147483648 ≤ lo) (h2 : hi ≤ 2147483647) (h : lo ≤ hi) : (⟨false, lo, hi⟩ : Sp).Ok := ⟨⟨h1, by simp only; omega⟩, ⟨by simp only; omega, h2⟩, (fun h => by cases h), h⟩
theorem ckGs_flags {n t f : Bool} {sp : Sp} (h : sp.Ok) : ckGs c ⟨n, sp, t, f, []⟩ = 0 := by
 rw [ckGs_iff]
 exact ⟨h, fun x hx => by simp at hx, rfl⟩
theorem doGs_ck {k : Int} {h : Gs} (hg : ckGs c g = 0) (hh : ckGs c h = 0) : ckGs c (doGs k g h).1 = 0 := by
 unfold doGs
 split
 ·exact hg
 split
 ·exact ckGs_flags none_Ok
 split
 ·rfl
 split
 ·exact ckGs_flags none_Ok
 split
 ·exact ckGs_flags none_Ok
 ·exact ckGs_flags (do_ok (ckGs_iff.1 hg).1 (ckGs_iff.1 hh).1)
theorem isSite_new {p : Int} (h0 : 0 ≤ p) (h1 : p < c.length) (hk : (insAt c p).k = 11) : isSite c p = true := by
 unfold isSite
 unfold insAt zeroIns at hk
 rw [hk]
 simp [h0, h1]
theorem comesGs_ck (hp : ProgOk V F c) (hx : PicOk V F c x) {p : Int} (h0 : 0 ≤ p) (h1 : p < c.length) : ckGs c (comesGs (insAt c p) p x).1 = 0 := by
 obtain ⟨q1, q2, q3, q4, q5, q6, q7, q8, q9⟩ := ckOne_parts (hp.each _ (insAt_mem h0 h1))
 unfold comesGs
 split
 ·rename_i h
  have := q7 h
  exact ckGs_flags (some_Ok (by omega) (by omega) (by omega))
 split
 ·exact ckGs_flags none_Ok
 split
 ·exact ckGs_flags none_Ok
 split
 ·rename_i h
  rw [ckGs_iff]
  refine ⟨none_Ok, fun y hy => ?_, rfl⟩
  rw [List.mem_singleton.1 hy]
  exact isSite_new h0 h1 h
 split
 ·exact getGs_ck hx _ _
 split
 ·rename_i h
  have := q9 h
  exact ckGs_flags (some_Ok (by omega) (by omega) (by omega))
 ·exact doGs_ck (gAt_ck hx _) (gAt_ck hx _)
end
end
section
open Go.RowKit
/-- A block's cells, which may be written. -/
def Cells (w : World) (b : Nat) (cs : List Value) : Prop := (∀ (j : Nat) (v : Value), cs[j]? = some v → w.cell? ⟨b, j, none⟩ = some v) ∧ b < w.heap.size ∧ ∀ j, w.frozen? ⟨b, j, none⟩ = false
section
variable {w w' : World} {b : Nat} {cs : List Value}
theorem Cells.same (h : Cells w b cs) (hb : w'.heap[b]? = w.heap[b]?) (hz : w.heap.size ≤ w'.heap.size) : Cells w' b cs := ⟨fun j v hj => by rw [World.cell?_of_block (a := ⟨b, j, none⟩) hb]; exact h.1 j v hj, Nat.lt_of_lt_of_le h.2.1 hz, fun j => by rw [World.frozen?_of_block (a := ⟨b, j, none⟩) hb]; exact h.2.2 j⟩
theorem Cells.call (h : Cells w b cs) (hb : Below w.heap.size w w') : Cells w' b cs := h.same (hb.block b h.2.1) hb.size
theorem Cells.far (h : Cells w b cs) {a : Addr} (ha : b ≠ a.block) (u : Value) : Cells (w.setCell a u) b cs := h.same (Below.heap_setCell _ _ _ _ ha) (by simp [World.setCell])
theorem Cells.put (h : Cells w b cs) (j : Nat) (hj : j < cs.length) (u : Value) : Cells (w.setCell ⟨b, j, none⟩ u) b (cs.set j u) := by
 refine ⟨fun k v hk => ?_, by simpa [World.setCell] using h.2.1, fun k => by rw [World.frozen?_setCell]; exact h.2.2 k⟩
 by_cases e : k = j
 ·subst e
  rw [List.getElem?_set_self hj] at hk
  cases hk
  exact World.cell?_setCell_same _ _ _ (h.1 k cs[k] (List.getElem?_eq_getElem hj))
 ·rw [List.getElem?_set_ne (Ne.symm e)] at hk
  rw [World.cell?_setCell_other _ _ _ _ (by intro e'; cases e'; exact e rfl)]
  exact h.1 k v hk
theorem Cells.new (w : World) (t : TypeId) (cs : List Value) : Cells (w.alloc (.cells cs.toArray t)) w.heap.size cs := by
 refine ⟨fun j v hj => ?_, by simp, fun j => ?_⟩
 ·have : (w.alloc (.cells cs.toArray t)).cell? ⟨w.heap.size, j, none⟩ = cs.toArray[j]? := World.cell?_alloc_mark w cs.toArray t (0, 0) j
  rw [this]
  simpa using hj
 ·have := World.frozen?_alloc_mark w cs.toArray t 0 0 j
  rw [this]
  simp
end
/-- What a stepper holds. -/
def stpC (i : Ins) (V F : Int) (s : Option Addr) (c : List Ins) (cap : Nat) (at_ : Int) (x : Pic) (vs : Option Addr) (vc : Nat) (fs : Option Addr) (fc : Nat) (ev : Value) (wr fl : Bool) : List Value :=
 [.int .i64 i.k, .int .i64 i.to, .int .i64 i.a, .int .i64 i.b, .int .i64 i.n, .int .i64 i.g, .int .i64 V, .int .i64 F, .slice s c.length cap, .int .i64 at_, .bool x.none, .slice vs x.vars.length vc, .slice fs x.flds.length fc, ev, .bool wr, .bool fl]
/-- An edge, and where its picture lies. -/
structure Ed where
 to : Int
 pic : Pic
 vs : Option Addr
 vc : Nat
 fs : Option Addr
 fc : Nat
def edCells (e : Ed) : List Value := [.int .i64 e.to, .bool e.pic.none, .slice e.vs e.pic.vars.length e.vc, .slice e.fs e.pic.flds.length e.fc]
def edG (e : Ed) : Edg := ⟨e.to, e.pic⟩
def EdIn (S : Nat → Prop) (w : World) (e : Ed) : Prop := PicOn S w e.pic e.vs e.fs ∧ (e.pic.vars.length ≤ e.vc ∧ e.vc ≤ maxLen) ∧ (e.pic.flds.length ≤ e.fc ∧ e.fc ≤ maxLen)
theorem edCells_one (e : Ed) : ∀ u ∈ edCells e, u.oneCell' = true := by
 intro u hu
 simp only [edCells, List.mem_cons, List.not_mem_nil, or_false] at hu
 rcases hu with rfl | rfl | rfl | rfl <;> rfl
theorem edCells_get : ∀ (l : List Ed) (i : Nat) (h : i < l.length) (j : Nat) (_ : j < 4), (l.flatMap edCells)[i * 4 + j]? = (edCells l[i])[j]?
 | [], i, h, _, _ => absurd h (by simp)
 | x :: r, 0, _, j, hj => by
  rw [List.flatMap_cons, Nat.zero_mul, Nat.zero_add, List.getElem?_append_left (by simpa [edCells] using hj)]
  rfl
 | x :: r, i + 1, h, j, hj => by
  have e4 : (edCells x).length = 4 := rfl
  rw [List.flatMap_cons, List.getElem?_append_right (by rw [e4]; omega), e4]
  have : (i + 1) * 4 + j - 4 = i * 4 + j := by omega
  rw [this, edCells_get r i (by simpa using h) j hj]
  rfl
/-- Edges in a row of their own, from block n on, away from block sb. -/
structure ERow (n sb : Nat) (w : World) (v : Value) (L : List Ed) : Prop where
 own : w.ownsRow n 56 4 v L.length (L.flatMap edCells)
 off : v.ownBlock ≠ some sb
 pics : ∀ e ∈ L, EdIn (fun b => n ≤ b ∧ b ≠ sb ∧ v.ownBlock ≠ some b) w e
section
variable {n sb : Nat} {w w' : World} {v v' : Value} {L : List Ed}
theorem ERow.nil (n sb : Nat) (w : World) : ERow n sb w (.slice none 0 0) [] := ⟨⟨rfl, .inl ⟨rfl, rfl⟩⟩, (fun h => by cases h), fun e he => by simp at he⟩
theorem ERow.same (h : ERow n sb w v L) (hs : ∀ b, n ≤ b → b ≠ sb → b < w.heap.size → w'.heap[b]? = w.heap[b]?) (hz : w.heap.size ≤ w'.heap.size) : ERow n sb w' v L :=
 ⟨ownsI_same h.own fun b hb => hs b (ownsI_lt h.own hb).2 (fun e => h.off (by rw [hb, e])) (ownsI_lt h.own hb).1, h.off, fun e he => ⟨((h.pics e he).1.same (fun b hb hlt => hs b hb.1 hb.2.1 hlt) hz).mono fun b hb _ => hb.1, (h.pics e he).2⟩⟩
theorem ERow.call (h : ERow n sb w v L) (hb : Below w.heap.size w w') : ERow n sb w' v L := h.same (fun b _ _ hlt => hb.block b hlt) hb.size
theorem ERow.grown (h : ERow n sb w v L) {e : Ed} (he : EdIn (fun b => n ≤ b ∧ b ≠ sb ∧ v.ownBlock ≠ some b) w e) (hr : w'.ownsRow n 56 4 v' (L.length + 1) (L.flatMap edCells ++ edCells e)) (hg : w.grownBy w' v.ownBlock) (hv : v'.ownBlock = v.ownBlock ∨ v'.ownBlock = some w.heap.size) (hsb : sb < w.heap.size) : ERow n sb w' v' (L ++ [e]) := by
 refine ⟨by rw [List.length_append, List.flatMap_append]; simpa using hr, fun e' => ?_, fun q hq => ?_⟩
 ·rcases hv with hv | hv
  ·rw [hv] at e'; exact h.off e'
  ·rw [hv] at e'; cases e'; exact absurd hsb (Nat.lt_irrefl _)
 ·have hq' : EdIn (fun b => n ≤ b ∧ b ≠ sb ∧ v.ownBlock ≠ some b) w q := by
   rcases List.mem_append.1 hq with hq | hq
   ·exact h.pics q hq
   ·rw [List.mem_singleton.1 hq]; exact he
  refine ⟨(hq'.1.same (fun b hb hlt => hg.block b hlt fun e => hb.2.2 e.symm) hg.size).mono fun b hb _ => ⟨hb.1.1, hb.1.2.1, ?_⟩, hq'.2⟩
  rcases hv with hv | hv
  ·rw [hv]; exact hb.1.2.2
  ·rw [hv]; intro e; cases e; exact absurd hb.2 (Nat.lt_irrefl _)
theorem ERow.form (h : ERow n sb w v L) : ∃ es ec, v = .slice es L.length ec ∧ L.length ≤ ec ∧ ec ≤ maxLen := by
 rcases h.own.2 with ⟨e, h0⟩ | ⟨g, cap, cur, e, _, _, k1, k2, _⟩
 ·exact ⟨none, 0, by rw [e, h0], by omega, Nat.zero_le _⟩
 ·exact ⟨some ⟨g, 0, none⟩, cap, e, k1, k2⟩
end
/-- Blocks in which the sites of an edge's picture may lie. -/
def ClT (n sb : Nat) (eb : Option Nat) (xb b : Nat) : Prop := n ≤ b ∧ b ≠ sb ∧ b ≠ xb ∧ eb ≠ some b
/-- What a change of a picture is handed, and leaves: a variable, and a picture whose rows lie in blocks from H on, away from it. -/
def ClPre (n sb : Nat) (eb : Option Nat) (H : Nat) (w : World) (xb : Nat) (v : Ro) (gs : Option Addr) (gc : Nat) (L : List Ro) (x : Pic) : Prop :=
 H ≤ xb ∧ Cells w xb [.bool false, .slice v.rs v.l.length v.rc, .slice gs L.length gc] ∧ PicG (ClT n sb eb xb) H w v gs gc L ∧ Off v (Value.slice gs L.length gc).ownBlock L xb ∧ picOf false v L = x
end
end Go.Proofs.YtmapdpcfanecdabGreat
