/- Pictures that are made: rows of guesses, rows of rows. -/
import Derived.Test.YtmapdpcfanecdaaGreatKpicyp03
namespace Go.Proofs.YtmapdpcfanecdaaGreat
set_option linter.unusedVariables false
set_option linter.unusedSimpArgs false
open Go.RowKit

section
variable {w w' : World} {B : Nat} {v v' : Value} {l l2 : List Gc}
/-- What is read is a row of cells. -/
theorem GsAt.gcs {ls : Option Addr} {L : List Gs} (h : GsAt w ls L) : ∃ l : List Gc, l.map Gc.g = L ∧ (∀ ad, ls = some ad → ∀ j u, (rowCells l)[j]? = some u → w.cell? (ad.add j) = some u) ∧ (ls = none → l = []) ∧ ∀ y ∈ l, GcIn (fun b => b < w.heap.size) w y := by
  have h1 : ∀ i, i < L.length → ∃ x : Gc, ∃ b off, ls = some ⟨b, off, none⟩ ∧ (x.g = L.getD i noneG) ∧ (∀ j, j < 7 → w.cell? ⟨b, off + i * 7 + j, none⟩ = (gcCells x)[j]?) ∧ GcIn (fun b => b < w.heap.size) w x := by
    intro i hi
    obtain ⟨b, off, e, ss, cap, ⟨⟨c0, c1, c2, c3, c4, c5, c6⟩, hz⟩, hI, k1, k2⟩ := h i hi
    have eg : L.getD i noneG = L[i] := by simp [List.getD, hi]
    refine ⟨⟨L[i], ss, cap⟩, b, off, e, eg.symm, fun j hj => ?_, hI.inAll, k1, k2⟩
    match j, hj with
    | 0, _ => exact c0
    | 1, _ => exact c1
    | 2, _ => exact c2
    | 3, _ => exact c3
    | 4, _ => exact c4
    | 5, _ => exact c5
    | 6, _ => exact c6
    | j + 7, hj => omega
  have h2 : ∃ f : Nat → Gc, ∀ i, i < L.length → ∃ b off, ls = some ⟨b, off, none⟩ ∧ ((f i).g = L.getD i noneG) ∧ (∀ j, j < 7 → w.cell? ⟨b, off + i * 7 + j, none⟩ = (gcCells (f i))[j]?) ∧ GcIn (fun b => b < w.heap.size) w (f i) := by
    refine ⟨fun i => if hi : i < L.length then Classical.choose (h1 i hi) else ⟨noneG, none, 0⟩, fun i hi => ?_⟩
    simp only [dif_pos hi]
    exact Classical.choose_spec (h1 i hi)
  obtain ⟨f, hf⟩ := h2
  refine ⟨(List.range L.length).map f, ?_, ?_, ?_, ?_⟩
  · refine List.ext_getElem (by simp) fun i hi1 hi2 => ?_
    obtain ⟨_, _, _, e, _⟩ := hf i hi2
    simp only [List.getElem_map, List.getElem_range]
    rw [e]
    simp [List.getD, hi2]
  · intro ad had j u hju
    have hj : j < L.length * 7 := by
      have := (List.getElem?_eq_some_iff.1 hju).1
      rw [rowCells_len] at this
      simpa using this
    have e1 : j = j / 7 * 7 + j % 7 := by omega
    have hi : j / 7 < L.length := by omega
    rw [e1] at hju
    rw [rowCells_get _ (j / 7) (by simpa using hi) (j % 7) (by omega)] at hju
    obtain ⟨b, off, e, _, hc, _⟩ := hf (j / 7) hi
    rw [had] at e
    cases e
    have := hc (j % 7) (by omega)
    rw [Addr.add_lit]
    have e2 : off + j = off + j / 7 * 7 + j % 7 := by omega
    rw [e2, this]
    simpa using hju
  · intro h0
    cases L with
    | nil => rfl
    | cons a r =>
      obtain ⟨_, _, e, _⟩ := hf 0 (by simp)
      rw [h0] at e
      cases e
  · intro y hy
    rw [List.mem_map] at hy
    obtain ⟨i, hi, rfl⟩ := hy
    obtain ⟨_, _, _, _, _, hx⟩ := hf i (by simpa using hi)
    exact hx

/-- A row of guesses in memory of its own (from block B on), its sites in older memory. -/
def CRow (w : World) (B : Nat) (v : Value) (l : List Gc) : Prop := w.ownsRow B 29 7 v l.length (rowCells l) ∧ ∀ x ∈ l, GcIn (fun b => b < B) w x
theorem CRow.grown (h : CRow w B v l) (hx : ∀ x ∈ l2, GcIn (fun b => b < B) w x) (hr : w'.ownsRow B 29 7 v' (l.length + l2.length) (rowCells l ++ rowCells l2)) (hg : w.grownBy w' v.ownBlock) : CRow w' B v' (l ++ l2) := by
  refine ⟨by rw [List.length_append, rowCells_append]; exact hr, fun y hy => ?_⟩
  have hy' : GcIn (fun b => b < B) w y := by
    rcases List.mem_append.1 hy with hy | hy
    · exact h.2 y hy
    · exact hx y hy
  exact ⟨hy'.1.same (fun b hS hb => hg.block b hb (fun e => by have := (ownsI_lt h.1 e.symm).2; omega)) hg.size, hy'.2⟩
theorem CRow.at (h : CRow w B v l) : ∃ rs rc, v = .slice rs l.length rc ∧ l.length ≤ rc ∧ rc ≤ maxLen ∧ GsAt w rs (l.map Gc.g) ∧ ∀ a, rs = some a → B ≤ a.block := by
  refine GRow.at (B := B) ⟨h.1, fun x hx => ⟨(h.2 x hx).1.mono fun b hb _ e => ?_, (h.2 x hx).2⟩⟩
  have := (ownsI_lt h.1 e).2
  omega
end
theorem rowCells_one (l : List Gc) : ∀ u ∈ rowCells l, u.oneCell' = true := by
  intro u hu
  unfold rowCells at hu
  rw [List.mem_flatMap] at hu
  obtain ⟨x, -, hx⟩ := hu
  exact gcCells_one x u hx
/-- .. also in a later world. -/
theorem GsAt.gcsTo {w w' : World} {ls : Option Addr} {L : List Gs} (h : GsAt w ls L) (hb : Below w.heap.size w w') : ∃ l : List Gc, l.map Gc.g = L ∧ (∀ ad, ls = some ad → ∀ j u, (rowCells l)[j]? = some u → w'.cell? (ad.add j) = some u) ∧ (ls = none → L.length = 0) ∧ (∀ y ∈ l, GcIn (fun b => b < w.heap.size) w' y) ∧ (rowCells l).length = L.length * 7 := by
  obtain ⟨l, e, h1, h2, h3⟩ := h.gcs
  refine ⟨l, e, fun ad ha j u hj => ?_, fun h0 => by rw [← e, h2 h0]; rfl, fun y hy => ⟨(h3 y hy).1.call hb, (h3 y hy).2⟩, by rw [rowCells_len, ← e, List.length_map]⟩
  have := h1 ad ha j u hj
  rw [hb.cell (World.block_lt_of_cell? w _ this)]
  exact this
theorem strayAt_step (c : List Ins) (p : Gs → Bool) (L : List (List Gs)) (k : Nat) (h : k < L.length) : strayAt c p k (L.drop k) = ((!isSite c k && L[k].any p) || strayAt c p (k + 1) (L.drop (k + 1))) := by
  rw [List.drop_eq_getElem_cons h]
  rfl
theorem any_drop_stepJ {α : Type} (l : List α) (p : α → Bool) (k : Nat) (h : k < l.length) : (l.drop k).any p = (p l[k] || (l.drop (k + 1)).any p) := by
  rw [List.drop_eq_getElem_cons h]
  rfl
theorem Tryz.info_guess : (Tryz.prog.info? 29).map (fun i => (i.zero, i.size, i.bytes)) = some (some (.agg #[.bool false, .bool false, .int .i64 0, .int .i64 0, .bool false, .bool false, .slice none 0 0]), 7, 64) := by kernel_rfl
/-- As many as rows of one length have. -/
theorem flat_len {α : Type} {n : Nat} : ∀ {L : List (List α)}, (∀ r ∈ L, r.length = n) → L.flatten.length = L.length * n
  | [], _ => by simp
  | r :: L, h => by
    rw [List.flatten_cons, List.length_append, h r List.mem_cons_self, flat_len fun r' hr' => h r' (List.mem_cons_of_mem _ hr'), List.length_cons, Nat.add_mul]
    omega
theorem flat_take {α : Type} (L : List (List α)) (k : Nat) (h : k < L.length) : (L.take (k + 1)).flatten = (L.take k).flatten ++ L[k] := by
  rw [List.take_succ_eq_append_getElem h, List.flatten_append]
  simp
end Go.Proofs.YtmapdpcfanecdaaGreat

namespace Go.Proofs.YtmapdpcfanecdaaGreat
set_option linter.unusedVariables false
set_option linter.unusedSimpArgs false
open Go.RowKit

/-- A list of guesses behind a slice's address, in blocks of which S is true. -/
def GsIn (S : Nat → Prop) (w : World) (ls : Option Addr) (L : List Gs) : Prop :=
  ∀ i (h : i < L.length), ∃ b off, ls = some ⟨b, off, none⟩ ∧ S b ∧ ∃ ss cap, GuAt w b (off + i * 7) L[i] ss cap ∧ IntsIn S w ss L[i].s ∧ L[i].s.length ≤ cap ∧ cap ≤ maxLen
section
variable {S S' : Nat → Prop} {w w' : World} {ls : Option Addr} {L : List Gs} {B z : Nat} {v v' : Value} {l : List Gc}
theorem GsIn.at (h : GsIn S w ls L) : GsAt w ls L := by
  intro i hi
  obtain ⟨b, off, e, _, ss, cap, h1, h2, h3⟩ := h i hi
  exact ⟨b, off, e, ss, cap, h1, h2.at, h3⟩
theorem GsAt.inAll (h : GsAt w ls L) : GsIn (fun b => b < w.heap.size) w ls L := by
  intro i hi
  obtain ⟨b, off, e, ss, cap, h1, h2, h3⟩ := h i hi
  exact ⟨b, off, e, h1.2, ss, cap, h1, h2.inAll, h3⟩
theorem GuAt.same {b o : Nat} {g : Gs} {ss : Option Addr} {cap : Nat} (h : GuAt w b o g ss cap) (hb : w'.heap[b]? = w.heap[b]?) (hz : w.heap.size ≤ w'.heap.size) : GuAt w' b o g ss cap := by
  obtain ⟨⟨h0, h1, h2, h3, h4, h5, h6⟩, h7⟩ := h
  have hc : ∀ j, w'.cell? ⟨b, j, none⟩ = w.cell? ⟨b, j, none⟩ := fun j => World.cell?_of_block (a := ⟨b, j, none⟩) hb
  exact ⟨⟨(hc _).trans h0, (hc _).trans h1, (hc _).trans h2, (hc _).trans h3, (hc _).trans h4, (hc _).trans h5, (hc _).trans h6⟩, Nat.lt_of_lt_of_le h7 hz⟩
theorem GsIn.same (h : GsIn S w ls L) (hs : ∀ b, S b → b < w.heap.size → w'.heap[b]? = w.heap[b]?) (hz : w.heap.size ≤ w'.heap.size) : GsIn S w' ls L := by
  intro i hi
  obtain ⟨b, off, e, hS, ss, cap, h1, h2, h3⟩ := h i hi
  exact ⟨b, off, e, hS, ss, cap, h1.same (hs b hS h1.2) hz, h2.same hs hz, h3⟩
theorem GsIn.mono (h : GsIn S w ls L) (hs : ∀ b, S b → b < w.heap.size → S' b) : GsIn S' w ls L := by
  intro i hi
  obtain ⟨b, off, e, hS, ss, cap, h1, h2, h3⟩ := h i hi
  exact ⟨b, off, e, hs b hS h1.2, ss, cap, h1, h2.mono hs, h3⟩
theorem GsIn.call (h : GsIn S w ls L) (hb : Below w.heap.size w w') : GsIn S w' ls L := h.same (fun b _ hlt => hb.block b hlt) hb.size

/-- A row of guesses in memory of its own from block B on, their sites too, away from the row's block. -/
def SRow (w : World) (B : Nat) (v : Value) (l : List Gc) : Prop := w.ownsRow B 29 7 v l.length (rowCells l) ∧ ∀ x ∈ l, GcIn (fun b => B ≤ b ∧ v.ownBlock ≠ some b) w x
theorem SRow.nil (w : World) (B : Nat) : SRow w B (.slice none 0 0) [] := ⟨⟨rfl, .inl ⟨rfl, rfl⟩⟩, fun x hx => by simp at hx⟩
theorem SRow.call (h : SRow w B v l) (hb : Below w.heap.size w w') : SRow w' B v l := ⟨ownsI_call h.1 hb, fun x hx => ⟨(h.2 x hx).1.call hb, (h.2 x hx).2⟩⟩
theorem SRow.grown (h : SRow w B v l) {x : Gc} (hx : GcIn (fun b => B ≤ b ∧ v.ownBlock ≠ some b) w x) (hr : w'.ownsRow B 29 7 v' (l.length + 1) (rowCells l ++ gcCells x)) (hg : w.grownBy w' v.ownBlock) (hv : v'.ownBlock = v.ownBlock ∨ v'.ownBlock = some w.heap.size) : SRow w' B v' (l ++ [x]) := by
  refine ⟨by rw [List.length_append, rowCells_append]; simpa [rowCells] using hr, fun y hy => ?_⟩
  have hy' : GcIn (fun b => B ≤ b ∧ v.ownBlock ≠ some b) w y := by
    rcases List.mem_append.1 hy with hy | hy
    · exact h.2 y hy
    · rw [List.mem_singleton.1 hy]; exact hx
  have hm : IntsIn (fun b => (B ≤ b ∧ v.ownBlock ≠ some b) ∧ b < w.heap.size) w y.ss y.g.s := hy'.1.mono fun b h1 h2 => ⟨h1, h2⟩
  refine ⟨(hm.same (fun b hS hb => hg.block b hb (fun e => hS.1.2 e.symm)) hg.size).mono fun b hb _ => ⟨hb.1.1, ?_⟩, hy'.2⟩
  rcases hv with hv | hv
  · rw [hv]; exact hb.1.2
  · rw [hv]
    intro e
    cases e
    exact absurd hb.2 (Nat.lt_irrefl _)
theorem SRow.in (h : SRow w B v l) : ∃ rs rc, v = .slice rs l.length rc ∧ l.length ≤ rc ∧ rc ≤ maxLen ∧ GsIn (fun b => B ≤ b) w rs (l.map Gc.g) := by
  obtain ⟨h1, h2⟩ := h
  rcases h1.2 with ⟨rfl, h0⟩ | ⟨g, cap, cur, rfl, hb, hg, k1, k2, k3, k4⟩
  · have : l = [] := List.length_eq_zero_iff.1 h0
    subst this
    exact ⟨none, 0, rfl, Nat.le_refl _, by unfold maxLen; omega, fun i hi => absurd hi (by simp)⟩
  · refine ⟨some ⟨g, 0, none⟩, cap, rfl, k1, k2, fun i hi => ?_⟩
    have hil : i < l.length := by simpa using hi
    have e : (l.map Gc.g)[i] = l[i].g := by simp
    rw [e]
    have hx := h2 l[i] (List.getElem_mem hil)
    refine ⟨g, 0, rfl, hb, l[i].ss, l[i].cap, ⟨?_, (Array.getElem?_eq_some_iff.1 hg).1⟩, hx.1.mono fun b h _ => h.1, hx.2.1, hx.2.2⟩
    have hc : ∀ j, j < 7 → w.cell? ⟨g, i * 7 + j, none⟩ = (gcCells l[i])[j]? := fun j hj => by
      have := h1.cellAt (i * 7 + j) (by omega)
      rw [← rowCells_get l i hil j hj]
      exact this
    simp only [Nat.zero_add]
    exact ⟨hc 0 (by omega), hc 1 (by omega), hc 2 (by omega), hc 3 (by omega), hc 4 (by omega), hc 5 (by omega), hc 6 (by omega)⟩
end

/-- A row of guesses, as a field's row holds it. -/
structure Rw where
  rs : Option Addr
  rc : Nat
  l : List Gs
def rwV (x : Rw) : Value := .slice x.rs x.l.length x.rc
def RwIn (S : Nat → Prop) (w : World) (x : Rw) : Prop := GsIn S w x.rs x.l ∧ x.l.length ≤ x.rc ∧ x.rc ≤ maxLen
/-- A row of rows in memory of its own from block B on, the rows too, away from its block. -/
def FRow (w : World) (B : Nat) (v : Value) (L : List Rw) : Prop := w.ownsRow B 41 1 v L.length (L.map rwV) ∧ ∀ x ∈ L, RwIn (fun b => B ≤ b ∧ v.ownBlock ≠ some b) w x
section
variable {w w' : World} {B : Nat} {v v' : Value} {L : List Rw}
theorem FRow.nil (w : World) (B : Nat) : FRow w B (.slice none 0 0) [] := ⟨⟨rfl, .inl ⟨rfl, rfl⟩⟩, fun x hx => by simp at hx⟩
theorem FRow.call (h : FRow w B v L) (hb : Below w.heap.size w w') : FRow w' B v L := ⟨ownsI_call h.1 hb, fun x hx => ⟨(h.2 x hx).1.call hb, (h.2 x hx).2⟩⟩
theorem FRow.old (h : FRow w B v L) (hs : ∀ b, B ≤ b → w'.heap[b]? = w.heap[b]?) (hz : w.heap.size ≤ w'.heap.size) : FRow w' B v L := ⟨ownsI_same h.1 fun k hk => hs k (ownsI_lt h.1 hk).2, fun x hx => ⟨(h.2 x hx).1.same (fun b hS _ => hs b hS.1) hz, (h.2 x hx).2⟩⟩
theorem FRow.grown (h : FRow w B v L) {x : Rw} (hx : RwIn (fun b => B ≤ b ∧ v.ownBlock ≠ some b) w x) (hr : w'.ownsRow B 41 1 v' (L.length + 1) (L.map rwV ++ [rwV x])) (hg : w.grownBy w' v.ownBlock) (hv : v'.ownBlock = v.ownBlock ∨ v'.ownBlock = some w.heap.size) : FRow w' B v' (L ++ [x]) := by
  refine ⟨by rw [List.length_append, List.map_append]; exact hr, fun y hy => ?_⟩
  have hy' : RwIn (fun b => B ≤ b ∧ v.ownBlock ≠ some b) w y := by
    rcases List.mem_append.1 hy with hy | hy
    · exact h.2 y hy
    · rw [List.mem_singleton.1 hy]; exact hx
  have hm : GsIn (fun b => (B ≤ b ∧ v.ownBlock ≠ some b) ∧ b < w.heap.size) w y.rs y.l := hy'.1.mono fun b h1 h2 => ⟨h1, h2⟩
  refine ⟨(hm.same (fun b hS hb => hg.block b hb (fun e => hS.1.2 e.symm)) hg.size).mono fun b hb _ => ⟨hb.1.1, ?_⟩, hy'.2⟩
  rcases hv with hv | hv
  · rw [hv]; exact hb.1.2
  · rw [hv]
    intro e
    cases e
    exact absurd hb.2 (Nat.lt_irrefl _)
theorem FRow.rows (h : FRow w B v L) : ∃ fs fc, v = .slice fs L.length fc ∧ L.length ≤ fc ∧ fc ≤ maxLen ∧ RowsAt w fs (L.map Rw.l) := by
  obtain ⟨h1, h2⟩ := h
  rcases h1.2 with ⟨rfl, h0⟩ | ⟨g, cap, cur, rfl, hb, hg, k1, k2, k3, k4⟩
  · have : L = [] := List.length_eq_zero_iff.1 h0
    subst this
    exact ⟨none, 0, rfl, Nat.le_refl _, by unfold maxLen; omega, fun i hi => absurd hi (by simp)⟩
  · refine ⟨some ⟨g, 0, none⟩, cap, rfl, k1, k2, fun i hi => ?_⟩
    have hil : i < L.length := by simpa using hi
    have e : (L.map Rw.l)[i] = L[i].l := by simp
    rw [e]
    have hx := h2 L[i] (List.getElem_mem hil)
    have := h1.cellAt i (by omega)
    refine ⟨g, 0, rfl, (Array.getElem?_eq_some_iff.1 hg).1, L[i].rs, L[i].rc, ?_, hx.2.1, hx.2.2, hx.1.at⟩
    rw [Nat.zero_add, this]
    simp [hil, rwV]
end
/-- Three cells in a block: a variable of type Picture. -/
def X3 (w : World) (b : Nat) (x0 x1 x2 : Value) : Prop := (w.cell? ⟨b, 0, none⟩ = some x0 ∧ w.cell? ⟨b, 1, none⟩ = some x1 ∧ w.cell? ⟨b, 2, none⟩ = some x2) ∧ b < w.heap.size ∧ ∀ j, w.frozen? ⟨b, j, none⟩ = false
section
variable {w w' : World} {b : Nat} {x0 x1 x2 : Value}
theorem X3.same (h : X3 w b x0 x1 x2) (hb : w'.heap[b]? = w.heap[b]?) (hz : w.heap.size ≤ w'.heap.size) : X3 w' b x0 x1 x2 := by
  have hc : ∀ j, w'.cell? ⟨b, j, none⟩ = w.cell? ⟨b, j, none⟩ := fun j => World.cell?_of_block (a := ⟨b, j, none⟩) hb
  have hf : ∀ j, w'.frozen? ⟨b, j, none⟩ = w.frozen? ⟨b, j, none⟩ := fun j => World.frozen?_of_block (a := ⟨b, j, none⟩) hb
  obtain ⟨⟨h0, h1, h2⟩, h6, h7⟩ := h
  exact ⟨⟨(hc _).trans h0, (hc _).trans h1, (hc _).trans h2⟩, Nat.lt_of_lt_of_le h6 hz, fun j => (hf j).trans (h7 j)⟩
theorem X3.call (h : X3 w b x0 x1 x2) (hb : Below w.heap.size w w') : X3 w' b x0 x1 x2 := h.same (hb.block b h.2.1) hb.size
theorem X3.far (h : X3 w b x0 x1 x2) {a : Addr} (ha : b ≠ a.block) (y : Value) : X3 (w.setCell a y) b x0 x1 x2 := h.same (Below.heap_setCell _ _ _ _ ha) (by simp [World.setCell])
theorem X3.new (w : World) (t : TypeId) (x0 x1 x2 : Value) : X3 (w.alloc (.cells #[x0, x1, x2] t)) w.heap.size x0 x1 x2 := by
  refine ⟨⟨?_, ?_, ?_⟩, by simp, fun j => ?_⟩ <;> simp [go_sem]
theorem X3.put1 (h : X3 w b x0 x1 x2) (y : Value) : X3 (w.setCell ⟨b, 1, none⟩ y) b x0 y x2 := by
  obtain ⟨⟨h0, h1, h2⟩, h6, h7⟩ := h
  exact ⟨⟨by rw [World.cell?_setCell_other _ _ _ _ (by intro e; cases e)]; exact h0, World.cell?_setCell_same _ _ _ h1, by rw [World.cell?_setCell_other _ _ _ _ (by intro e; cases e)]; exact h2⟩, by simpa [World.setCell] using h6, fun j => by rw [World.frozen?_setCell]; exact h7 j⟩
theorem X3.put2 (h : X3 w b x0 x1 x2) (y : Value) : X3 (w.setCell ⟨b, 2, none⟩ y) b x0 x1 y := by
  obtain ⟨⟨h0, h1, h2⟩, h6, h7⟩ := h
  exact ⟨⟨by rw [World.cell?_setCell_other _ _ _ _ (by intro e; cases e)]; exact h0, by rw [World.cell?_setCell_other _ _ _ _ (by intro e; cases e)]; exact h1, World.cell?_setCell_same _ _ _ h2⟩, by simpa [World.setCell] using h6, fun j => by rw [World.frozen?_setCell]; exact h7 j⟩
end
theorem PrAt.low {w w' : World} {B b : Nat} {V F : Int} {s : Option Addr} {c : List Ins} {cap : Nat} (h : PrAt w b V F s c cap) (hb : Below B w w') (hB : b < B) : PrAt w' b V F s c cap := by
  obtain ⟨⟨h0, h1, h2⟩, hz⟩ := h
  exact ⟨⟨by rw [hb.cell hB]; exact h0, by rw [hb.cell hB]; exact h1, by rw [hb.cell hB]; exact h2⟩, Nat.lt_of_lt_of_le hz hb.size⟩
theorem PrAt.far {w : World} {b : Nat} {V F : Int} {s : Option Addr} {c : List Ins} {cap : Nat} (h : PrAt w b V F s c cap) {a : Addr} (ha : b ≠ a.block) (y : Value) : PrAt (w.setCell a y) b V F s c cap := by
  have hc : ∀ j, (w.setCell a y).cell? ⟨b, j, none⟩ = w.cell? ⟨b, j, none⟩ := fun j => World.cell?_of_block (a := ⟨b, j, none⟩) (Below.heap_setCell _ _ _ _ ha)
  obtain ⟨⟨h0, h1, h2⟩, hz⟩ := h
  exact ⟨⟨(hc _).trans h0, (hc _).trans h1, (hc _).trans h2⟩, by simpa [World.setCell] using hz⟩
/-- One guess in a block of its own, as what is appended. -/
theorem news7 (w : World) (x : Gc) (cs : Array Value) (t : TypeId) (hcs : cs.toList = gcCells x) : ∀ ad, some (⟨w.heap.size, 0, none⟩ : Addr) = some ad → ∀ j u, (gcCells x)[j]? = some u → (w.alloc (.cells cs t)).cell? (ad.add j) = some u := by
  intro ad e j u hj
  cases e
  rw [Addr.add_lit, Nat.zero_add]
  rw [← hcs] at hj
  simpa [go_sem] using hj
theorem news1 (w : World) (x : Value) (t : TypeId) : ∀ ad, some (⟨w.heap.size, 0, none⟩ : Addr) = some ad → ∀ j u, ([x] : List Value)[j]? = some u → (w.alloc (.cells #[x] t)).cell? (ad.add j) = some u := by
  intro ad e j u hj
  cases e
  rw [Addr.add_lit, Nat.zero_add]
  simpa [go_sem] using hj
theorem Tryz.info_row : (Tryz.prog.info? 41).map (fun i => (i.zero, i.size, i.bytes)) = some (some (.slice none 0 0), 1, 24) := by kernel_rfl
theorem GuAt.low {w w' : World} {B b o : Nat} {g : Gs} {ss : Option Addr} {cap : Nat} (h : GuAt w b o g ss cap) (hb : Below B w w') (hB : b < B) : GuAt w' b o g ss cap := h.same (hb.block b hB) hb.size
theorem gs_low {w : World} {b off : Nat} {L : List Gs} (h : GsAt w (some ⟨b, off, none⟩) L) (k : Nat) (hk : k < L.length) : b < w.heap.size := by
  obtain ⟨b', off', e, ss, cap, h1, _⟩ := h k hk
  cases e
  exact h1.2
/-- .. beside an errno. -/
def PicE (w' : World) (e : Ending) (x : Pic) (er : Int) : Prop := ∃ vs vc fs fc, e = .returned (.tuple #[.agg #[.bool x.none, .slice vs x.vars.length vc, .slice fs x.flds.length fc], .int .i64 er]) ∧ PicAt w' x vs fs ∧ (x.vars.length ≤ vc ∧ vc ≤ maxLen) ∧ (x.flds.length ≤ fc ∧ fc ≤ maxLen)
end Go.Proofs.YtmapdpcfanecdaaGreat
