/- Walks over package picture: two rows put together. -/
import Derived.Test.YtmapdpcfanecdaaGreatKpicxp20
import Derived.Laws.OwnMore
import Derived.Test.YtmapdpcfanecdaaGreatKpicxp39
import Derived.Test.YtmapdpcfanecdaaGreatKpicxp07
import Derived.Deep.DeepCutAuto
import Derived.Deep.RegionHeldLaw
namespace Go.Proofs.YtmapdpcfanecdaaGreat
set_option linter.unusedVariables false
set_option linter.unusedSimpArgs false
open Go.RowKit
/-- A row of guesses, and where it lies. -/
structure Ro where
  rs : Option Addr
  rc : Nat
  l : List Gc
def roV (r : Ro) : Value := .slice r.rs r.l.length r.rc
def roG (r : Ro) : List Gs := r.l.map Gc.g
def roB (r : Ro) : Option Nat := (roV r).ownBlock
/-- A row of guesses in a block of its own, from block B on. -/
def RoOwn (w : World) (B : Nat) (r : Ro) : Prop := w.ownsRow B 29 7 (roV r) r.l.length (rowCells r.l)
section
variable {w w' : World} {B : Nat} {r : Ro}
theorem RoOwn.form (h : RoOwn w B r) (h0 : 0 < r.l.length) : ∃ b, r.rs = some ⟨b, 0, none⟩ ∧ roB r = some b ∧ B ≤ b ∧ b < w.heap.size := by
  obtain ⟨rs, rc, l⟩ := r
  rcases h.2 with ⟨e, h1⟩ | ⟨g, cap, cur, e, hb, hg, _⟩
  · simp only at h0 h1; omega
  · simp only [roV, Value.slice.injEq] at e
    exact ⟨g, e.1, by unfold roB roV; rw [e.1]; rfl, hb, (Array.getElem?_eq_some_iff.1 hg).1⟩
theorem RoOwn.caps (h : RoOwn w B r) : r.l.length ≤ r.rc ∧ r.rc ≤ maxLen := by
  rcases h.2 with ⟨e, h1⟩ | ⟨g, cap, cur, e, hb, hg, k1, k2, _⟩
  · simp only [roV, Value.slice.injEq] at e
    exact ⟨by omega, by rw [e.2.2]; exact Nat.zero_le _⟩
  · simp only [roV, Value.slice.injEq] at e
    rw [e.2.2]
    exact ⟨k1, k2⟩
theorem RoOwn.same (h : RoOwn w B r) (hs : ∀ b, roB r = some b → w'.heap[b]? = w.heap[b]?) : RoOwn w' B r := ownsI_same h hs
theorem RoOwn.lt (h : RoOwn w B r) {b : Nat} (hb : roB r = some b) : b < w.heap.size ∧ B ≤ b := ownsI_lt h hb
/-- What is read of a row. -/
theorem RoOwn.gets (h : RoOwn w B r) {S : Nat → Prop} (hg : ∀ x ∈ r.l, GcIn S w x) : GsIn (fun b => roB r = some b ∨ S b) w r.rs (roG r) := by
  intro i hi
  have hil : i < r.l.length := by simpa [roG] using hi
  obtain ⟨b, e, eb, hb, hz⟩ := h.form (by omega)
  have hx := hg _ (List.getElem_mem hil)
  have ei : (roG r)[i] = r.l[i].g := by simp [roG]
  rw [ei]
  have h1 : w.ownsRow B 29 7 (.slice (some ⟨b, 0, none⟩) r.l.length r.rc) r.l.length (rowCells r.l) := by rw [← e]; exact h
  refine ⟨b, 0, e, .inl eb, r.l[i].ss, r.l[i].cap, ⟨?_, hz⟩, hx.1.mono fun q hq _ => .inr hq, hx.2.1, hx.2.2⟩
  have hc : ∀ j, j < 7 → w.cell? ⟨b, i * 7 + j, none⟩ = (gcCells r.l[i])[j]? := fun j hj => by
    rw [← rowCells_get r.l i hil j hj]
    exact World.ownsRow.cellAt h1 _ (by omega)
  simp only [Nat.zero_add]
  exact ⟨hc 0 (by omega), hc 1 (by omega), hc 2 (by omega), hc 3 (by omega), hc 4 (by omega), hc 5 (by omega), hc 6 (by omega)⟩
end
/-- A block in which none of a picture's rows lies. -/
def Off (v : Ro) (fb : Option Nat) (L : List Ro) (b : Nat) : Prop := roB v ≠ some b ∧ fb ≠ some b ∧ ∀ r ∈ L, roB r ≠ some b
/-- A picture that may be changed: from block B on its rows lie each in a block of its own, their sites in others, of which T is true. -/
structure PicG (T : Nat → Prop) (B : Nat) (w : World) (v : Ro) (fs : Option Addr) (fc : Nat) (L : List Ro) : Prop where
  vars : RoOwn w B v
  flds : w.ownsRow B 41 1 (.slice fs L.length fc) L.length (L.map roV)
  rows : ∀ r ∈ L, RoOwn w B r
  sv : ∀ g ∈ v.l, GcIn (fun b => T b ∧ Off v (Value.slice fs L.length fc).ownBlock L b) w g
  sf : ∀ r ∈ L, ∀ g ∈ r.l, GcIn (fun b => T b ∧ Off v (Value.slice fs L.length fc).ownBlock L b) w g
  dv : ∀ b, roB v = some b → (Value.slice fs L.length fc).ownBlock ≠ some b ∧ ∀ r ∈ L, roB r ≠ some b
  df : ∀ b, (Value.slice fs L.length fc).ownBlock = some b → ∀ r ∈ L, roB r ≠ some b
  dr : L.Pairwise fun r q => ∀ b, roB r = some b → roB q ≠ some b
def picOf (n : Bool) (v : Ro) (L : List Ro) : Pic := ⟨n, roG v, L.map roG⟩
section
variable {T T' : Nat → Prop} {B : Nat} {w w' : World} {v : Ro} {fs : Option Addr} {fc : Nat} {L : List Ro}
theorem PicG.mono (h : PicG T B w v fs fc L) (hT : ∀ b, T b → b < w.heap.size → T' b) : PicG T' B w v fs fc L :=
  ⟨h.vars, h.flds, h.rows, fun g hg => ⟨(h.sv g hg).1.mono fun b hb hz => ⟨hT b hb.1 hz, hb.2⟩, (h.sv g hg).2⟩, fun r hr g hg => ⟨(h.sf r hr g hg).1.mono fun b hb hz => ⟨hT b hb.1 hz, hb.2⟩, (h.sf r hr g hg).2⟩, h.dv, h.df, h.dr⟩
theorem PicG.same (h : PicG T B w v fs fc L) (hs : ∀ b, T b ∨ B ≤ b → b < w.heap.size → w'.heap[b]? = w.heap[b]?) (hz : w.heap.size ≤ w'.heap.size) : PicG T B w' v fs fc L :=
  ⟨h.vars.same fun b hb => hs b (.inr (h.vars.lt hb).2) (h.vars.lt hb).1, ownsI_same h.flds fun b hb => hs b (.inr (ownsI_lt h.flds hb).2) (ownsI_lt h.flds hb).1, fun r hr => (h.rows r hr).same fun b hb => hs b (.inr ((h.rows r hr).lt hb).2) ((h.rows r hr).lt hb).1,
   fun g hg => ⟨(h.sv g hg).1.same (fun b hb hlt => hs b (.inl hb.1) hlt) hz, (h.sv g hg).2⟩, fun r hr g hg => ⟨(h.sf r hr g hg).1.same (fun b hb hlt => hs b (.inl hb.1) hlt) hz, (h.sf r hr g hg).2⟩, h.dv, h.df, h.dr⟩
theorem PicG.fcap (h : PicG T B w v fs fc L) : L.length ≤ fc ∧ fc ≤ maxLen := by
  rcases h.flds.2 with ⟨e, h1⟩ | ⟨g, cap, cur, e, hb, hg, k1, k2, _⟩
  · simp only [Value.slice.injEq] at e
    exact ⟨by omega, by rw [e.2.2]; exact Nat.zero_le _⟩
  · simp only [Value.slice.injEq] at e
    rw [e.2.2]
    exact ⟨k1, k2⟩
theorem PicG.fform (h : PicG T B w v fs fc L) (h0 : 0 < L.length) : ∃ b, fs = some ⟨b, 0, none⟩ ∧ B ≤ b ∧ b < w.heap.size ∧ ∀ k (hk : k < L.length), w.cell? ⟨b, k, none⟩ = some (roV L[k]) := by
  rcases h.flds.2 with ⟨e, h1⟩ | ⟨g, cap, cur, e, hb, hg, k1, k2, _⟩
  · omega
  · simp only [Value.slice.injEq] at e
    obtain ⟨e1, -, e3⟩ := e
    subst e1 e3
    refine ⟨g, rfl, hb, (Array.getElem?_eq_some_iff.1 hg).1, fun k hk => ?_⟩
    have := World.ownsRow.cellAt h.flds k (by omega)
    rw [this]
    simp [hk]
theorem PicG.at (h : PicG T B w v fs fc L) (n : Bool) : PicAt w (picOf n v L) v.rs fs := by
  refine ⟨(h.vars.gets h.sv).at, fun i hi => ?_⟩
  have hil : i < L.length := by simpa [picOf] using hi
  obtain ⟨b, e, hb, hz, hc⟩ := h.fform (by omega)
  have ei : (picOf n v L).flds[i] = roG L[i] := by simp [picOf]
  rw [ei]
  have hm := List.getElem_mem hil
  have hcp := (h.rows _ hm).caps
  refine ⟨b, 0, e, hz, L[i].rs, L[i].rc, ?_, by simpa [roG] using hcp.1, hcp.2, ((h.rows _ hm).gets (h.sf _ hm)).at⟩
  rw [Nat.zero_add, hc i hil]
  simp [roV, roG]
theorem PicG.on (h : PicG T B w v fs fc L) (n : Bool) : PicOn (fun b => T b ∨ B ≤ b) w (picOf n v L) v.rs fs := fun w2 hs hz => (h.same hs hz).at n
theorem PicG.vcap (h : PicG T B w v fs fc L) (n : Bool) : (picOf n v L).vars.length ≤ v.rc ∧ v.rc ≤ maxLen := by simpa [picOf, roG] using h.vars.caps
theorem PicG.fcap' (h : PicG T B w v fs fc L) (n : Bool) : (picOf n v L).flds.length ≤ fc ∧ fc ≤ maxLen := by simpa [picOf] using h.fcap
end
end Go.Proofs.YtmapdpcfanecdaaGreat

namespace Go.Proofs.YtmapdpcfanecdaaGreat
set_option linter.unusedVariables false
set_option linter.unusedSimpArgs false
open Go.RowKit
/-- A row of guesses in a block of its own; it and its sites lie where S is true of the block. -/
def VRow (S : Nat → Prop) (w : World) (B : Nat) (v : Value) (l : List Gc) : Prop := w.ownsRow B 29 7 v l.length (rowCells l) ∧ (∀ b, v.ownBlock = some b → S b) ∧ ∀ x ∈ l, GcIn (fun b => S b ∧ v.ownBlock ≠ some b) w x
section
variable {S S' : Nat → Prop} {w w' : World} {B : Nat} {v : Value} {l : List Gc}
theorem VRow.same (h : VRow S w B v l) (hs : ∀ b, S b → b < w.heap.size → w'.heap[b]? = w.heap[b]?) (hz : w.heap.size ≤ w'.heap.size) : VRow S w' B v l := ⟨ownsI_same h.1 fun b hb => hs b (h.2.1 b hb) (ownsI_lt h.1 hb).1, h.2.1, fun x hx => ⟨(h.2.2 x hx).1.same (fun b hb hlt => hs b hb.1 hlt) hz, (h.2.2 x hx).2⟩⟩
theorem VRow.mono (h : VRow S w B v l) (hs : ∀ b, S b → b < w.heap.size → S' b) : VRow S' w B v l := ⟨h.1, fun b hb => hs b (h.2.1 b hb) (ownsI_lt h.1 hb).1, fun x hx => ⟨(h.2.2 x hx).1.mono fun b hb hlt => ⟨hs b hb.1 hlt, hb.2⟩, (h.2.2 x hx).2⟩⟩
theorem VRow.call (h : VRow S w B v l) (hb : Below w.heap.size w w') : VRow S w' B v l := h.same (fun b _ hlt => hb.block b hlt) hb.size
theorem ownsI_lower {e : TypeId} {z n : Nat} {xs : List Value} {C : Nat} (h : w.ownsRow C e z v n xs) (hB : B ≤ C) : w.ownsRow B e z v n xs := by
  refine ⟨h.1, ?_⟩
  rcases h.2 with h2 | ⟨g, cap, cur, e1, hb, h3⟩
  · exact .inl h2
  · exact .inr ⟨g, cap, cur, e1, Nat.le_trans hB hb, h3⟩
theorem SRow.vrow (h : SRow w B v l) : VRow (fun b => B ≤ b) w B v l := ⟨h.1, fun b hb => (ownsI_lt h.1 hb).2, fun x hx => h.2 x hx⟩
theorem VRow.lower (h : VRow S w B v l) {C : Nat} (hB : C ≤ B) : VRow S w C v l := ⟨ownsI_lower h.1 hB, h.2⟩
end
/-- Rows that are made, each in a block of its own, from block B on. -/
structure FRowS (w : World) (B : Nat) (v : Value) (L : List Ro) : Prop where
  own : w.ownsRow B 41 1 v L.length (L.map roV)
  rows : ∀ r ∈ L, RoOwn w B r
  sites : ∀ r ∈ L, ∀ g ∈ r.l, GcIn (fun b => B ≤ b ∧ v.ownBlock ≠ some b ∧ ∀ q ∈ L, roB q ≠ some b) w g
  df : ∀ b, v.ownBlock = some b → ∀ r ∈ L, roB r ≠ some b
  dr : L.Pairwise fun r q => ∀ b, roB r = some b → roB q ≠ some b
section
variable {w w0 w' : World} {B : Nat} {v v' : Value} {L : List Ro}
theorem FRowS.nil (w : World) (B : Nat) : FRowS w B (.slice none 0 0) [] := ⟨⟨rfl, .inl ⟨rfl, rfl⟩⟩, fun r hr => by simp at hr, fun r hr => by simp at hr, fun b hb r hr => by simp at hr, List.Pairwise.nil⟩
theorem FRowS.olden (h : FRowS w B v L) (hs : ∀ b, B ≤ b → b < w.heap.size → w'.heap[b]? = w.heap[b]?) (hz : w.heap.size ≤ w'.heap.size) : FRowS w' B v L :=
  ⟨ownsI_same h.own fun b hb => hs b (ownsI_lt h.own hb).2 (ownsI_lt h.own hb).1, fun r hr => (h.rows r hr).same fun b hb => hs b ((h.rows r hr).lt hb).2 ((h.rows r hr).lt hb).1, fun r hr g hg => ⟨(h.sites r hr g hg).1.same (fun b hb hlt => hs b hb.1 hlt) hz, (h.sites r hr g hg).2⟩, h.df, h.dr⟩
theorem FRowS.call (h : FRowS w B v L) (hb : Below w.heap.size w w') : FRowS w' B v L := h.olden (fun b _ hlt => hb.block b hlt) hb.size
/-- .. behind an append of a row that was made since w0. -/
theorem FRowS.grown (h0 : FRowS w0 B v L) (hb : Below w0.heap.size w0 w) (hB : B ≤ w0.heap.size) {x : Ro} (hx : VRow (fun b => w0.heap.size ≤ b) w w0.heap.size (roV x) x.l) (hr : w'.ownsRow B 41 1 v' (L.length + 1) (L.map roV ++ [roV x])) (hg : w.grownBy w' v.ownBlock) (hv : v'.ownBlock = v.ownBlock ∨ v'.ownBlock = some w.heap.size) : FRowS w' B v' (L ++ [x]) := by
  have h := h0.call hb
  have hsz := hb.size
  have hxo : RoOwn w w0.heap.size x := hx.1
  have vlt : ∀ b, v.ownBlock = some b → b < w0.heap.size := fun b hb => (ownsI_lt h0.own hb).1
  have rlt : ∀ r ∈ L, ∀ b, roB r = some b → b < w0.heap.size := fun r hr b hb => ((h0.rows r hr).lt hb).1
  have xge : ∀ b, roB x = some b → w0.heap.size ≤ b ∧ b < w.heap.size := fun b hb => ⟨(hxo.lt hb).2, (hxo.lt hb).1⟩
  have keep : ∀ b, b < w.heap.size → v.ownBlock ≠ some b → w'.heap[b]? = w.heap[b]? := fun b hb hne => hg.block b hb fun e => hne e.symm
  refine ⟨by rw [List.length_append, List.map_append]; exact hr, fun r hr => ?_, fun r hr g hgm => ?_, fun b hb r hr => ?_, ?_⟩
  · rcases List.mem_append.1 hr with hr | hr
    · exact (h.rows r hr).same fun b hb => keep b ((h.rows r hr).lt hb).1 fun e => h.df b e r hr hb
    · rw [List.mem_singleton.1 hr]
      exact RoOwn.same (ownsI_lower hxo hB) fun b hb => keep b (xge b hb).2 fun e => by have := vlt b e; have := (xge b hb).1; omega
  · rcases List.mem_append.1 hr with hr | hr
    · have h1 : GcIn (fun b => (B ≤ b ∧ v.ownBlock ≠ some b ∧ ∀ q ∈ L, roB q ≠ some b) ∧ b < w0.heap.size) w g := ⟨((h0.sites r hr g hgm).1.mono fun b hb hlt => (⟨hb, hlt⟩ : _ ∧ b < w0.heap.size)).call hb, (h0.sites r hr g hgm).2⟩
      refine ⟨(h1.1.same (fun b hb hlt => keep b hlt hb.1.2.1) hg.size).mono fun b hb _ => ⟨hb.1.1, ?_, fun q hq => ?_⟩, h1.2⟩
      · rcases hv with e | e
        · rw [e]; exact hb.1.2.1
        · rw [e]; intro e'; cases e'; have := hb.2; omega
      · rcases List.mem_append.1 hq with hq | hq
        · exact hb.1.2.2 q hq
        · rw [List.mem_singleton.1 hq]
          intro e
          have := (xge b e).1
          have := hb.2
          omega
    · rw [List.mem_singleton.1 hr] at hgm
      have h1 : GcIn (fun b => (w0.heap.size ≤ b ∧ roB x ≠ some b) ∧ b < w.heap.size) w g := ⟨(hx.2.2 g hgm).1.mono fun b hb hlt => ⟨hb, hlt⟩, (hx.2.2 g hgm).2⟩
      refine ⟨(h1.1.same (fun b hb hlt => keep b hlt fun e => by have := vlt b e; have := hb.1.1; omega) hg.size).mono fun b hb _ => ⟨Nat.le_trans hB hb.1.1, ?_, fun q hq => ?_⟩, h1.2⟩
      · rcases hv with e | e
        · rw [e]; intro e'; have := vlt b e'; have := hb.1.1; omega
        · rw [e]; intro e'; cases e'; have := hb.2; omega
      · rcases List.mem_append.1 hq with hq | hq
        · intro e
          have := rlt q hq b e
          have := hb.1.1
          omega
        · rw [List.mem_singleton.1 hq]
          exact hb.1.2
  · rcases hv with e | e
    · rw [e] at hb
      rcases List.mem_append.1 hr with hr | hr
      · exact h0.df b hb r hr
      · rw [List.mem_singleton.1 hr]
        intro e'
        have := vlt b hb
        have := (xge b e').1
        omega
    · rw [e] at hb
      cases hb
      rcases List.mem_append.1 hr with hr | hr
      · intro e'
        have := rlt r hr _ e'
        omega
      · rw [List.mem_singleton.1 hr]
        intro e'
        have := (xge _ e').2
        omega
  · rw [List.pairwise_append]
    refine ⟨h0.dr, List.pairwise_singleton _ _, fun r hr q hq b hb e => ?_⟩
    rw [List.mem_singleton.1 hq] at e
    have := rlt r hr b hb
    have := (xge b e).1
    omega
theorem FRowS.form (h : FRowS w B v L) : ∃ fs fc, v = .slice fs L.length fc := by
  rcases h.own.2 with ⟨e, h0⟩ | ⟨g, cap, cur, e, _⟩
  · exact ⟨none, 0, by rw [e, h0]⟩
  · exact ⟨some ⟨g, 0, none⟩, cap, e⟩
/-- A row of variables below them makes a picture of it. -/
theorem FRowS.pic {S : Nat → Prop} {C : Nat} {vs fs : Option Addr} {vc fc : Nat} {l : List Gc} (h : FRowS w B (.slice fs L.length fc) L) (hv : VRow S w C (.slice vs l.length vc) l) (hS : ∀ b, S b → C ≤ b ∧ b < B) (hC : C ≤ B) : PicG (fun b => C ≤ b) C w ⟨vs, vc, l⟩ fs fc L := by
  have vlt : ∀ b, roB ⟨vs, vc, l⟩ = some b → b < B := fun b hb => (hS b (hv.2.1 b hb)).2
  have fge : ∀ b, (Value.slice fs L.length fc).ownBlock = some b → B ≤ b := fun b hb => (ownsI_lt h.own hb).2
  have rge : ∀ r ∈ L, ∀ b, roB r = some b → B ≤ b := fun r hr b hb => ((h.rows r hr).lt hb).2
  refine ⟨hv.1, ownsI_lower h.own hC, fun r hr => ownsI_lower (h.rows r hr) hC, fun g hg => ⟨(hv.2.2 g hg).1.mono fun b hb _ => ⟨(hS b hb.1).1, hb.2, fun e => ?_, fun r hr e => ?_⟩, (hv.2.2 g hg).2⟩, fun r hr g hg => ⟨(h.sites r hr g hg).1.mono fun b hb _ => ⟨Nat.le_trans hC hb.1, fun e => ?_, hb.2.1, hb.2.2⟩, (h.sites r hr g hg).2⟩, fun b hb => ⟨fun e => ?_, fun r hr e => ?_⟩, h.df, h.dr⟩
  · have := fge b e; have := (hS b hb.1).2; omega
  · have := rge r hr b e; have := (hS b hb.1).2; omega
  · have := vlt b e; have := hb.1; omega
  · have := fge b e; have := vlt b hb; omega
  · have := rge r hr b e; have := vlt b hb; omega
end
theorem PicG.down {T : Nat → Prop} {B C : Nat} {w : World} {v : Ro} {fs : Option Addr} {fc : Nat} {L : List Ro} (h : PicG T B w v fs fc L) (hC : C ≤ B) : PicG T C w v fs fc L := ⟨ownsI_lower h.vars hC, ownsI_lower h.flds hC, fun r hr => ownsI_lower (h.rows r hr) hC, h.sv, h.sf, h.dv, h.df, h.dr⟩
/-- What is answered is a picture that may be changed, in blocks from B on, beside an errno. -/
def PicS (B : Nat) (w' : World) (e : Ending) (x : Pic) (er : Int) : Prop := ∃ v fs fc L, x = picOf x.none v L ∧ e = .returned (.tuple #[.agg #[.bool x.none, .slice v.rs v.l.length v.rc, .slice fs L.length fc], .int .i64 er]) ∧ PicG (fun b => B ≤ b) B w' v fs fc L
/-- A row that is answered. -/
def RowN (w w' : World) (e : Ending) (l : List Gs) : Prop := ∃ rs rc gl, e = .returned (.slice rs gl.length rc) ∧ Hid (gl.map Gc.g = l) ∧ SRow w' w.heap.size (.slice rs gl.length rc) gl
theorem picG_zero (B : Nat) (w : World) : PicG (fun b => B ≤ b) B w ⟨none, 0, []⟩ none 0 [] := ⟨⟨rfl, .inl ⟨rfl, rfl⟩⟩, ⟨rfl, .inl ⟨rfl, rfl⟩⟩, fun r hr => by simp at hr, fun g hg => by simp at hg, fun r hr => by simp at hr, fun b hb => by simp [roB, roV, Value.ownBlock] at hb, fun b hb r hr => by simp at hr, List.Pairwise.nil⟩
end Go.Proofs.YtmapdpcfanecdaaGreat

namespace Go.Proofs.YtmapdpcfanecdaaGreat
set_option linter.unusedVariables false
set_option linter.unusedSimpArgs false
open Go.RowKit
attribute [local go_sem ↓] Go.wp_at_zero Go.wp_at_succ

theorem rising_pair : ∀ {l : List Int}, rising l = true → l.Pairwise (· < ·)
  | [], _ => List.Pairwise.nil
  | [a], _ => List.pairwise_singleton _ _
  | a :: b :: r, h => by
    unfold rising at h
    simp only [Bool.and_eq_true, decide_eq_true_eq] at h
    have ih := rising_pair h.2
    rw [List.pairwise_cons]
    refine ⟨fun x hx => ?_, ih⟩
    rw [List.pairwise_cons] at ih
    rcases List.mem_cons.1 hx with rfl | hx
    · exact h.1
    · have := ih.1 x hx
      omega
theorem sites_self {c : List Ins} {g : Gs} (h60 : c.length ≤ 60) (h : ckGs c g = 0) : sitesOf [g, g] = g.s := by
  obtain ⟨h1, h2⟩ := ckGs_sites h60 h
  rw [sitesOf_eq g g h1 h1]
  refine rising_ext _ _ (siteTo_rises _ _ _) (rising_pair h2) fun x => ?_
  rw [siteTo_mem]
  constructor
  · rintro ⟨-, h | h⟩ <;> exact h
  · intro hx
    exact ⟨h1 x hx, .inl hx⟩
theorem tog_self {c : List Ins} {g : Gs} {op : Sp → Sp → Sp} (hop : ∀ s, op s s = s) (h60 : c.length ≤ 60) (h : ckGs c g = 0) : togGs op g g = g := by
  unfold togGs
  rw [sites_self h60 h, hop]
  simp
theorem joinSp_self (s : Sp) : joinSp s s = s := by
  obtain ⟨n, lo, hi⟩ := s
  unfold joinSp
  cases n <;> simp
theorem wideSp_self (s : Sp) : wideSp s s = s := by
  obtain ⟨n, lo, hi⟩ := s
  unfold wideSp
  cases n <;> simp
theorem ints_keep {w w' : World} {js : Option Addr} {l : List Int} {N : Nat} (h : IntsAt w js l) (hf : ∀ a, js = some a → N ≤ a.block) (hs : ∀ b, N ≤ b → w'.heap[b]? = w.heap[b]?) (hz : w.heap.size ≤ w'.heap.size) : IntsAt w' js l := by
  rcases h with h | ⟨b, off, e, hb, hc⟩
  · exact .inl h
  · have hn := hf _ e
    exact .inr ⟨b, off, e, Nat.lt_of_lt_of_le hb hz, fun k hk => by rw [World.cell?_of_block (a := ⟨b, off + k, none⟩) (hs b hn)]; exact hc k hk⟩
theorem GuAt.put6 {w : World} {b : Nat} {g : Gs} {ss js : Option Addr} {gc jc : Nat} (h : GuAt w b 0 g ss gc) : GuAt (w.setCell ⟨b, 6, none⟩ (.slice js g.s.length jc)) b 0 g js jc := by
  obtain ⟨⟨h0, h1, h2, h3, h4, h5, h6⟩, hz⟩ := h
  simp only [Nat.zero_add] at h0 h1 h2 h3 h4 h5 h6
  have ne : ∀ i, i ≠ 6 → (w.setCell ⟨b, 6, none⟩ (.slice js g.s.length jc)).cell? ⟨b, i, none⟩ = w.cell? ⟨b, i, none⟩ := fun i hi => World.cell?_setCell_other _ _ _ _ (by intro e; cases e; exact hi rfl)
  simp only [GuAt, Nat.zero_add]
  exact ⟨⟨(ne _ (by omega)).trans h0, (ne _ (by omega)).trans h1, (ne _ (by omega)).trans h2, (ne _ (by omega)).trans h3, (ne _ (by omega)).trans h4, (ne _ (by omega)).trans h5, World.cell?_setCell_same _ _ _ h6⟩, by simpa [World.setCell] using hz⟩
theorem cloneP_any (ss : Option Addr) (cap : Nat) (l : List Int) (w : World) (hl : l.length ≤ 1000000) (hs : IntsAt w ss l) :
    Calls Tryz.prog 59 #[.slice ss l.length cap] w fun e w' => (∃ js jc, e = .returned (.slice js l.length jc) ∧ IntsAt w' js l ∧ l.length ≤ jc ∧ jc ≤ maxLen ∧ ∀ a, js = some a → w.heap.size ≤ a.block) ∧ Below w.heap.size w w' := by
  have key : Calls Tryz.prog 59 #[.slice ss l.length cap] w fun e w' => ∃ v, e = .returned v ∧ w'.ownsRow w.heap.size 3 1 v l.length (l.map (.int .i64)) ∧ Below w.heap.size w w' := by
    cases ss with
    | none =>
      have h0 : l = [] := by
        rcases hs with h | ⟨_, _, h, _⟩
        · exact h
        · cases h
      subst h0
      refine (Tryz.slices_Clone_int_nil _ _ _).mono ?_
      rintro e w' ⟨rfl, rfl⟩
      exact ⟨_, rfl, ⟨rfl, .inl ⟨rfl, rfl⟩⟩, Below.refl _ _⟩
    | some a =>
      by_cases h0 : l = []
      · subst h0
        refine (Tryz.slices_Clone_int_zero a cap w).mono ?_
        rintro e w' ⟨v, rfl, ho, -, hb⟩
        exact ⟨_, rfl, ho, hb⟩
      · obtain ⟨b, off, e, hb, hc⟩ := hs.get 0 (List.length_pos_iff.2 h0)
        cases e
        refine (Tryz.slices_Clone_int b off l.length cap l w (Nat.le_refl _) (by omega) (fun j hj => ?_)).mono ?_
        · rw [hc j hj]
          simp [List.getD, List.getElem?_eq_getElem hj]
        · rintro e w' ⟨v, rfl, ho, -, hb'⟩
          rw [List.take_length] at ho
          exact ⟨_, rfl, ho, hb'⟩
  refine key.mono ?_
  rintro e w' ⟨v, rfl, ho, hb⟩
  obtain ⟨js, jc, rfl, hi, k1, k2, hf⟩ := IntsAt.own ho
  exact ⟨⟨js, jc, rfl, hi, k1, k2, hf⟩, hb⟩
end Go.Proofs.YtmapdpcfanecdaaGreat
