/- Pictures that may be changed: their rows lie each in a block of its own. -/
import Derived.Test.YtmapdpcfanecdabGreatKstpxp03
import Derived.Test.YtmapdpcfanecdabGreatKstpxp04
import Derived.Laws.OwnMore
set_option linter.unusedSimpArgs false
set_option linter.unusedVariables false
namespace Go.Proofs.YtmapdpcfanecdabGreat
section
set_option maxRecDepth 100000
open Go.RowKit

/-- A list of guesses behind a slice's address, in blocks of which S is true. -/
def GsIn (S : Nat → Prop) (w : World) (ls : Option Addr) (L : List Gs) : Prop :=
 ∀ i (h : i < L.length), ∃ b off, ls = some ⟨b, off, none⟩ ∧ S b ∧ ∃ ss cap, GuAt w b (off + i * 7) L[i] ss cap ∧ IntsIn S w ss L[i].s ∧ L[i].s.length ≤ cap ∧ cap ≤ maxLen
section
variable {S S' : Nat → Prop} {w w' : World} {ls : Option Addr} {L : List Gs} {B z : Nat} {v v' : Value} {l : List Gc}
theorem GsIn.at (h : GsIn S w ls L) : GsAt w ls L := by
 intro i hi
 obtain ⟨b, off, e, _, ss, cap, h1, h2, h3⟩ := h i hi
 exact ⟨b, off, e, ss, cap, h1, h2.at, h3⟩
theorem GsAt.inAll (h : GsAt w ls L) : GsIn (fun b => b < w.heap.size) w ls L := by
 intro i hi
 obtain ⟨b, off, e, ss, cap, h1, h2, h3⟩ := h i hi
 exact ⟨b, off, e, h1.2, ss, cap, h1, h2.inAll, h3⟩
theorem GuAt.same {b o : Nat} {g : Gs} {ss : Option Addr} {cap : Nat} (h : GuAt w b o g ss cap) (hb : w'.heap[b]? = w.heap[b]?) (hz : w.heap.size ≤ w'.heap.size) : GuAt w' b o g ss cap := by
 obtain ⟨⟨h0, h1, h2, h3, h4, h5, h6⟩, h7⟩ := h
 have hc : ∀ j, w'.cell? ⟨b, j, none⟩ = w.cell? ⟨b, j, none⟩ := fun j => World.cell?_of_block (a := ⟨b, j, none⟩) hb
 exact ⟨⟨(hc _).trans h0, (hc _).trans h1, (hc _).trans h2, (hc _).trans h3, (hc _).trans h4, (hc _).trans h5, (hc _).trans h6⟩, Nat.lt_of_lt_of_le h7 hz⟩
theorem GsIn.same (h : GsIn S w ls L) (hs : ∀ b, S b → b < w.heap.size → w'.heap[b]? = w.heap[b]?) (hz : w.heap.size ≤ w'.heap.size) : GsIn S w' ls L := by
 intro i hi
 obtain ⟨b, off, e, hS, ss, cap, h1, h2, h3⟩ := h i hi
 exact ⟨b, off, e, hS, ss, cap, h1.same (hs b hS h1.2) hz, h2.same hs hz, h3⟩
theorem GsIn.mono (h : GsIn S w ls L) (hs : ∀ b, S b → b < w.heap.size → S' b) : GsIn S' w ls L := by
 intro i hi
 obtain ⟨b, off, e, hS, ss, cap, h1, h2, h3⟩ := h i hi
 exact ⟨b, off, e, hs b hS h1.2, ss, cap, h1, h2.mono hs, h3⟩
theorem GsIn.call (h : GsIn S w ls L) (hb : Below w.heap.size w w') : GsIn S w' ls L := h.same (fun b _ hlt => hb.block b hlt) hb.size

/-- A row of guesses in memory of its own from block B on, their sites too, away from the row's block. -/
def SRow (w : World) (B : Nat) (v : Value) (l : List Gc) : Prop := w.ownsRow B 61 7 v l.length (rowCells l) ∧ ∀ x ∈ l, GcIn (fun b => B ≤ b ∧ v.ownBlock ≠ some b) w x
theorem SRow.nil (w : World) (B : Nat) : SRow w B (.slice none 0 0) [] := ⟨⟨rfl, .inl ⟨rfl, rfl⟩⟩, fun x hx => by simp at hx⟩
theorem SRow.call (h : SRow w B v l) (hb : Below w.heap.size w w') : SRow w' B v l := ⟨ownsI_call h.1 hb, fun x hx => ⟨(h.2 x hx).1.call hb, (h.2 x hx).2⟩⟩
/-- .. where only older blocks have turned. -/
theorem SRow.old (h : SRow w B v l) (hs : ∀ b, B ≤ b → w'.heap[b]? = w.heap[b]?) (hz : w.heap.size ≤ w'.heap.size) : SRow w' B v l := ⟨ownsI_same h.1 fun k hk => hs k (ownsI_lt h.1 hk).2, fun x hx => ⟨(h.2 x hx).1.same (fun b hS _ => hs b hS.1) hz, (h.2 x hx).2⟩⟩
theorem prf_3b75e9 {p : Prop} (h : p := by
 refine ⟨(hm.same (fun b hS hb => hg.block b hb (fun e => hS.1.2 e.symm)) hg.size).mono fun b hb _ => ⟨hb.1.1, ?_⟩, hy'.2⟩
 rcases hv with hv | hv
 ·rw [hv]; exact hb.1.2
 ·rw [hv]
  intro e
  cases e
  exact absurd hb.2 (Nat.lt_irrefl _)) : p := h
theorem SRow.grown (h : SRow w B v l) {x : Gc} (hx : GcIn (fun b => B ≤ b ∧ v.ownBlock ≠ some b) w x) (hr : w'.ownsRow B 61 7 v' (l.length + 1) (rowCells l ++ gcCells x)) (hg : w.grownBy w' v.ownBlock) (hv : v'.ownBlock = v.ownBlock ∨ v'.ownBlock = some w.heap.size) : SRow w' B v' (l ++ [x]) := by
 refine ⟨by rw [List.length_append, rowCells_append]; simpa [rowCells] using hr, fun y hy => ?_⟩
 have hy' : GcIn (fun b => B ≤ b ∧ v.ownBlock ≠ some b) w y := by
  rcases List.mem_append.1 hy with hy | hy
  ·exact h.2 y hy
  ·rw [List.mem_singleton.1 hy]; exact hx
 have hm : IntsIn (fun b => (B ≤ b ∧ v.ownBlock ≠ some b) ∧ b < w.heap.size) w y.ss y.g.s := hy'.1.mono fun b h1 h2 => ⟨h1, h2⟩
 exact prf_3b75e9
theorem SRow.in (h : SRow w B v l) : ∃ rs rc, v = .slice rs l.length rc ∧ l.length ≤ rc ∧ rc ≤ maxLen ∧ GsIn (fun b => B ≤ b) w rs (l.map Gc.g) := by
 obtain ⟨h1, h2⟩ := h
 rcases h1.2 with ⟨rfl, h0⟩ | ⟨g, cap, cur, rfl, hb, hg, k1, k2, k3, k4⟩
 ·have : l = [] := List.length_eq_zero_iff.1 h0
  subst this
  exact ⟨none, 0, rfl, Nat.le_refl _, by unfold maxLen; omega, fun i hi => absurd hi (by simp)⟩
 ·refine ⟨some ⟨g, 0, none⟩, cap, rfl, k1, k2, fun i hi => ?_⟩
  have hil : i < l.length := by simpa using hi
  have e : (l.map Gc.g)[i] = l[i].g := by simp
  rw [e]
  have hx := h2 l[i] (List.getElem_mem hil)
  refine ⟨g, 0, rfl, hb, l[i].ss, l[i].cap, ⟨?_, (Array.getElem?_eq_some_iff.1 hg).1⟩, hx.1.mono fun b h _ => h.1, hx.2.1, hx.2.2⟩
  have hc : ∀ j, j < 7 → w.cell? ⟨g, i * 7 + j, none⟩ = (gcCells l[i])[j]? := fun j hj => by
   have := h1.cellAt (i * 7 + j) (by omega)
   rw [← rowCells_get l i hil j hj]
   exact this
  simp only [Nat.zero_add]
  exact ⟨hc 0 (by omega), hc 1 (by omega), hc 2 (by omega), hc 3 (by omega), hc 4 (by omega), hc 5 (by omega), hc 6 (by omega)⟩
end

/-- A row of guesses, as a field's row holds it. -/
structure Rw where
 rs : Option Addr
 rc : Nat
 l : List Gs
def rwV (x : Rw) : Value := .slice x.rs x.l.length x.rc
def RwIn (S : Nat → Prop) (w : World) (x : Rw) : Prop := GsIn S w x.rs x.l ∧ x.l.length ≤ x.rc ∧ x.rc ≤ maxLen
/-- A row of rows in memory of its own from block B on, the rows too, away from its block. -/
def FRow (w : World) (B : Nat) (v : Value) (L : List Rw) : Prop := w.ownsRow B 25 1 v L.length (L.map rwV) ∧ ∀ x ∈ L, RwIn (fun b => B ≤ b ∧ v.ownBlock ≠ some b) w x
section
variable {w w' : World} {B : Nat} {v v' : Value} {L : List Rw}
theorem FRow.nil (w : World) (B : Nat) : FRow w B (.slice none 0 0) [] := ⟨⟨rfl, .inl ⟨rfl, rfl⟩⟩, fun x hx => by simp at hx⟩
theorem FRow.call (h : FRow w B v L) (hb : Below w.heap.size w w') : FRow w' B v L := ⟨ownsI_call h.1 hb, fun x hx => ⟨(h.2 x hx).1.call hb, (h.2 x hx).2⟩⟩
theorem FRow.old (h : FRow w B v L) (hs : ∀ b, B ≤ b → w'.heap[b]? = w.heap[b]?) (hz : w.heap.size ≤ w'.heap.size) : FRow w' B v L := ⟨ownsI_same h.1 fun k hk => hs k (ownsI_lt h.1 hk).2, fun x hx => ⟨(h.2 x hx).1.same (fun b hS _ => hs b hS.1) hz, (h.2 x hx).2⟩⟩
theorem FRow.grown (h : FRow w B v L) {x : Rw} (hx : RwIn (fun b => B ≤ b ∧ v.ownBlock ≠ some b) w x) (hr : w'.ownsRow B 25 1 v' (L.length + 1) (L.map rwV ++ [rwV x])) (hg : w.grownBy w' v.ownBlock) (hv : v'.ownBlock = v.ownBlock ∨ v'.ownBlock = some w.heap.size) : FRow w' B v' (L ++ [x]) := by
 refine ⟨by rw [List.length_append, List.map_append]; exact hr, fun y hy => ?_⟩
 have hy' : RwIn (fun b => B ≤ b ∧ v.ownBlock ≠ some b) w y := by
  rcases List.mem_append.1 hy with hy | hy
  ·exact h.2 y hy
  ·rw [List.mem_singleton.1 hy]; exact hx
 have hm : GsIn (fun b => (B ≤ b ∧ v.ownBlock ≠ some b) ∧ b < w.heap.size) w y.rs y.l := hy'.1.mono fun b h1 h2 => ⟨h1, h2⟩
 exact prf_3b75e9
theorem FRow.rows (h : FRow w B v L) : ∃ fs fc, v = .slice fs L.length fc ∧ L.length ≤ fc ∧ fc ≤ maxLen ∧ RowsAt w fs (L.map Rw.l) := by
 obtain ⟨h1, h2⟩ := h
 rcases h1.2 with ⟨rfl, h0⟩ | ⟨g, cap, cur, rfl, hb, hg, k1, k2, k3, k4⟩
 ·have : L = [] := List.length_eq_zero_iff.1 h0
  subst this
  exact ⟨none, 0, rfl, Nat.le_refl _, by unfold maxLen; omega, fun i hi => absurd hi (by simp)⟩
 ·refine ⟨some ⟨g, 0, none⟩, cap, rfl, k1, k2, fun i hi => ?_⟩
  have hil : i < L.length := by simpa using hi
  have e : (L.map Rw.l)[i] = L[i].l := by simp
  rw [e]
  have hx := h2 L[i] (List.getElem_mem hil)
  have := h1.cellAt i (by omega)
  refine ⟨g, 0, rfl, (Array.getElem?_eq_some_iff.1 hg).1, L[i].rs, L[i].rc, ?_, hx.2.1, hx.2.2, hx.1.at⟩
  rw [Nat.zero_add, this]
  simp [hil, rwV]
end
/-- Three cells in a block: a variable of type Picture. -/
def X3 (w : World) (b : Nat) (x0 x1 x2 : Value) : Prop := (w.cell? ⟨b, 0, none⟩ = some x0 ∧ w.cell? ⟨b, 1, none⟩ = some x1 ∧ w.cell? ⟨b, 2, none⟩ = some x2) ∧ b < w.heap.size ∧ ∀ j, w.frozen? ⟨b, j, none⟩ = false
section
variable {w w' : World} {b : Nat} {x0 x1 x2 : Value}
theorem X3.same (h : X3 w b x0 x1 x2) (hb : w'.heap[b]? = w.heap[b]?) (hz : w.heap.size ≤ w'.heap.size) : X3 w' b x0 x1 x2 := prf_11cae4
theorem X3.call (h : X3 w b x0 x1 x2) (hb : Below w.heap.size w w') : X3 w' b x0 x1 x2 := h.same (hb.block b h.2.1) hb.size
theorem X3.far (h : X3 w b x0 x1 x2) {a : Addr} (ha : b ≠ a.block) (y : Value) : X3 (w.setCell a y) b x0 x1 x2 := h.same (Below.heap_setCell _ _ _ _ ha) (by simp [World.setCell])
theorem X3.new (w : World) (t : TypeId) (x0 x1 x2 : Value) : X3 (w.alloc (.cells #[x0, x1, x2] t)) w.heap.size x0 x1 x2 := by
 refine ⟨⟨?_, ?_, ?_⟩, by simp, fun j => ?_⟩ <;> simp [go_sem]
theorem X3.put1 (h : X3 w b x0 x1 x2) (y : Value) : X3 (w.setCell ⟨b, 1, none⟩ y) b x0 y x2 := by
 obtain ⟨⟨h0, h1, h2⟩, h6, h7⟩ := h
 exact ⟨⟨by rw [World.cell?_setCell_other _ _ _ _ (by intro e; cases e)]; exact h0, World.cell?_setCell_same _ _ _ h1, by rw [World.cell?_setCell_other _ _ _ _ (by intro e; cases e)]; exact h2⟩, by simpa [World.setCell] using h6, fun j => by rw [World.frozen?_setCell]; exact h7 j⟩
theorem X3.put2 (h : X3 w b x0 x1 x2) (y : Value) : X3 (w.setCell ⟨b, 2, none⟩ y) b x0 x1 y := by
 obtain ⟨⟨h0, h1, h2⟩, h6, h7⟩ := h
 exact ⟨⟨by rw [World.cell?_setCell_other _ _ _ _ (by intro e; cases e)]; exact h0, by rw [World.cell?_setCell_other _ _ _ _ (by intro e; cases e)]; exact h1, World.cell?_setCell_same _ _ _ h2⟩, by simpa [World.setCell] using h6, fun j => by rw [World.frozen?_setCell]; exact h7 j⟩
end
theorem PrAt.low {w w' : World} {B b : Nat} {V F : Int} {s : Option Addr} {c : List Ins} {cap : Nat} (h : PrAt w b V F s c cap) (hb : Below B w w') (hB : b < B) : PrAt w' b V F s c cap := by
 obtain ⟨⟨h0, h1, h2⟩, hz⟩ := h
 exact ⟨⟨by rw [hb.cell hB]; exact h0, by rw [hb.cell hB]; exact h1, by rw [hb.cell hB]; exact h2⟩, Nat.lt_of_lt_of_le hz hb.size⟩
theorem PrAt.far {w : World} {b : Nat} {V F : Int} {s : Option Addr} {c : List Ins} {cap : Nat} (h : PrAt w b V F s c cap) {a : Addr} (ha : b ≠ a.block) (y : Value) : PrAt (w.setCell a y) b V F s c cap := by
 have hc : ∀ j, (w.setCell a y).cell? ⟨b, j, none⟩ = w.cell? ⟨b, j, none⟩ := fun j => World.cell?_of_block (a := ⟨b, j, none⟩) (Below.heap_setCell _ _ _ _ ha)
 obtain ⟨⟨h0, h1, h2⟩, hz⟩ := h
 exact ⟨⟨(hc _).trans h0, (hc _).trans h1, (hc _).trans h2⟩, by simpa [World.setCell] using hz⟩
/-- One guess in a block of its own, as what is appended. -/
theorem news7 (w : World) (x : Gc) (cs : Array Value) (t : TypeId) (hcs : cs.toList = gcCells x) : ∀ ad, some (⟨w.heap.size, 0, none⟩ : Addr) = some ad → ∀ j u, (gcCells x)[j]? = some u → (w.alloc (.cells cs t)).cell? (ad.add j) = some u := by
 intro ad e j u hj
 cases e
 rw [Addr.add_lit, Nat.zero_add]
 rw [← hcs] at hj
 simpa [go_sem] using hj
theorem news1 (w : World) (x : Value) (t : TypeId) : ∀ ad, some (⟨w.heap.size, 0, none⟩ : Addr) = some ad → ∀ j u, ([x] : List Value)[j]? = some u → (w.alloc (.cells #[x] t)).cell? (ad.add j) = some u := by
 intro ad e j u hj
 cases e
 rw [Addr.add_lit, Nat.zero_add]
 simpa [go_sem] using hj
theorem Tryz.info_row : (Tryz.prog.info? 25).map (fun i => (i.zero, i.size, i.bytes)) = some (some (.slice none 0 0), 1, 24) := by kernel_rfl
theorem GuAt.low {w w' : World} {B b o : Nat} {g : Gs} {ss : Option Addr} {cap : Nat} (h : GuAt w b o g ss cap) (hb : Below B w w') (hB : b < B) : GuAt w' b o g ss cap := h.same (hb.block b hB) hb.size
theorem gs_low {w : World} {b off : Nat} {L : List Gs} (h : GsAt w (some ⟨b, off, none⟩) L) (k : Nat) (hk : k < L.length) : b < w.heap.size := by
 obtain ⟨b', off', e, ss, cap, h1, _⟩ := h k hk
 cases e
 exact h1.2
/-- .. beside an errno. -/
def PicE (w' : World) (e : Ending) (x : Pic) (er : Int) : Prop := ∃ vs vc fs fc, e = .returned (.tuple #[.agg #[.bool x.none, .slice vs x.vars.length vc, .slice fs x.flds.length fc], .int .i64 er]) ∧ PicAt w' x vs fs ∧ (x.vars.length ≤ vc ∧ vc ≤ maxLen) ∧ (x.flds.length ≤ fc ∧ fc ≤ maxLen)
end
section
open Go.RowKit
theorem FRow.olden {w w' : World} {B : Nat} {v : Value} {L : List Rw} (h : FRow w B v L) (hs : ∀ b, B ≤ b → b < w.heap.size → w'.heap[b]? = w.heap[b]?) (hz : w.heap.size ≤ w'.heap.size) : FRow w' B v L := ⟨ownsI_same h.1 fun k hk => hs k (ownsI_lt h.1 hk).2 (ownsI_lt h.1 hk).1, fun x hx => ⟨(h.2 x hx).1.same (fun b hS hlt => hs b hS.1 hlt) hz, (h.2 x hx).2⟩⟩
/-- A picture that lies where S is true of the block. -/
def PicOn (S : Nat → Prop) (w : World) (x : Pic) (vs fs : Option Addr) : Prop := ∀ w2 : World, (∀ b, S b → b < w.heap.size → w2.heap[b]? = w.heap[b]?) → w.heap.size ≤ w2.heap.size → PicAt w2 x vs fs
section
variable {S S' : Nat → Prop} {w w' : World} {x : Pic} {vs fs : Option Addr}
theorem PicOn.at (h : PicOn S w x vs fs) : PicAt w x vs fs := h w (fun _ _ _ => rfl) (Nat.le_refl _)
theorem PicOn.same (h : PicOn S w x vs fs) (hs : ∀ b, S b → b < w.heap.size → w'.heap[b]? = w.heap[b]?) (hz : w.heap.size ≤ w'.heap.size) : PicOn (fun b => S b ∧ b < w.heap.size) w' x vs fs := fun w2 h2 hz2 => h w2 (fun b hb hlt => by rw [h2 b ⟨hb, hlt⟩ (by omega), hs b hb hlt]) (Nat.le_trans hz hz2)
theorem PicOn.mono (h : PicOn S w x vs fs) (hs : ∀ b, S b → b < w.heap.size → S' b) : PicOn S' w x vs fs := fun w2 h2 hz2 => h w2 (fun b hb hlt => h2 b (hs b hb hlt) hlt) hz2
theorem PicAt.same (h : PicAt w x vs fs) (hs : ∀ b, b < w.heap.size → w'.heap[b]? = w.heap[b]?) (hz : w.heap.size ≤ w'.heap.size) : PicAt w' x vs fs := by
 refine ⟨(h.1.inAll.same (fun b _ hb => hs b hb) hz).at, fun i hi => ?_⟩
 obtain ⟨b, off, e, hb, rs, rc, h1, h2, h3, h4⟩ := h.2 i hi
 exact ⟨b, off, e, Nat.lt_of_lt_of_le hb hz, rs, rc, by rw [World.cell?_of_block (a := ⟨b, off + i, none⟩) (hs b hb)]; exact h1, h2, h3, (h4.inAll.same (fun b _ hb => hs b hb) hz).at⟩
end
end
section
open Go.RowKit
/-- A row of guesses, and where it lies. -/
structure Ro where
  rs : Option Addr
  rc : Nat
  l : List Gc
def roV (r : Ro) : Value := .slice r.rs r.l.length r.rc
def roG (r : Ro) : List Gs := r.l.map Gc.g
def roB (r : Ro) : Option Nat := (roV r).ownBlock
/-- A row of guesses in a block of its own, from block B on. -/
def RoOwn (w : World) (B : Nat) (r : Ro) : Prop := w.ownsRow B 61 7 (roV r) r.l.length (rowCells r.l)
theorem rowCells_set : ∀ {l : List Gc} {k j : Nat} {u : Value} {x' : Gc} (hk : k < l.length) (_ : j < 7) (_ : gcCells x' = (gcCells l[k]).set j u), rowCells (l.set k x') = (rowCells l).set (k * 7 + j) u
  | [], k, _, _, _, hk, _, _ => absurd hk (by simp)
  | x :: r, 0, j, u, x', _, hj, h => by
    have e : ∀ y, rowCells (y :: r) = gcCells y ++ rowCells r := fun _ => rfl
    simp only [List.getElem_cons_zero] at h
    rw [List.set_cons_zero, e, e, Nat.zero_mul, Nat.zero_add, List.set_append_left _ _ (by rw [gcCells_len]; exact hj), h]
  | x :: r, k + 1, j, u, x', hk, hj, h => by
    have e : ∀ (y : Gc) (q : List Gc), rowCells (y :: q) = gcCells y ++ rowCells q := fun _ _ => rfl
    simp only [List.getElem_cons_succ] at h
    rw [List.set_cons_succ, e, e, rowCells_set (by simpa using hk) hj h, List.set_append_right _ _ (by rw [gcCells_len]; omega), gcCells_len]
    congr 2
    omega
section
variable {w w' : World} {B : Nat} {r : Ro}
theorem RoOwn.form (h : RoOwn w B r) (h0 : 0 < r.l.length) : ∃ b, r.rs = some ⟨b, 0, none⟩ ∧ roB r = some b ∧ B ≤ b ∧ b < w.heap.size := by
  obtain ⟨rs, rc, l⟩ := r
  rcases h.2 with ⟨e, h1⟩ | ⟨g, cap, cur, e, hb, hg, _⟩
  · simp only at h0 h1; omega
  · simp only [roV, Value.slice.injEq] at e
    exact ⟨g, e.1, by unfold roB roV; rw [e.1]; rfl, hb, (Array.getElem?_eq_some_iff.1 hg).1⟩
theorem RoOwn.caps (h : RoOwn w B r) : r.l.length ≤ r.rc ∧ r.rc ≤ maxLen := by
  rcases h.2 with ⟨e, h1⟩ | ⟨g, cap, cur, e, hb, hg, k1, k2, _⟩
  · simp only [roV, Value.slice.injEq] at e
    exact ⟨by omega, by rw [e.2.2]; exact Nat.zero_le _⟩
  · simp only [roV, Value.slice.injEq] at e
    rw [e.2.2]
    exact ⟨k1, k2⟩
theorem RoOwn.same (h : RoOwn w B r) (hs : ∀ b, roB r = some b → w'.heap[b]? = w.heap[b]?) : RoOwn w' B r := ownsI_same h hs
theorem RoOwn.lt (h : RoOwn w B r) {b : Nat} (hb : roB r = some b) : b < w.heap.size ∧ B ≤ b := ownsI_lt h hb
/-- A cell of a guess is written. -/
theorem RoOwn.put (h : RoOwn w B r) {b : Nat} (hb : r.rs = some ⟨b, 0, none⟩) {k j : Nat} {u : Value} {x' : Gc} (hk : k < r.l.length) (hj : j < 7) (hx : gcCells x' = (gcCells r.l[k]).set j u) : RoOwn (w.setCell ⟨b, k * 7 + j, none⟩ u) B ⟨r.rs, r.rc, r.l.set k x'⟩ := by
  obtain ⟨rs, rc, l⟩ := r
  simp only at hb hk hx
  subst hb
  have h1 := (World.ownsRow.stored h (k * 7 + j) u).1
  unfold RoOwn roV
  simp only [List.length_set]
  rw [rowCells_set hk hj hx]
  exact h1
/-- What is read of a row. -/
theorem RoOwn.gets (h : RoOwn w B r) {S : Nat → Prop} (hg : ∀ x ∈ r.l, GcIn S w x) : GsIn (fun b => roB r = some b ∨ S b) w r.rs (roG r) := by
  intro i hi
  have hil : i < r.l.length := by simpa [roG] using hi
  obtain ⟨b, e, eb, hb, hz⟩ := h.form (by omega)
  have hx := hg _ (List.getElem_mem hil)
  have ei : (roG r)[i] = r.l[i].g := by simp [roG]
  rw [ei]
  have h1 : w.ownsRow B 61 7 (.slice (some ⟨b, 0, none⟩) r.l.length r.rc) r.l.length (rowCells r.l) := by rw [← e]; exact h
  refine ⟨b, 0, e, .inl eb, r.l[i].ss, r.l[i].cap, ⟨?_, hz⟩, hx.1.mono fun q hq _ => .inr hq, hx.2.1, hx.2.2⟩
  have hc : ∀ j, j < 7 → w.cell? ⟨b, i * 7 + j, none⟩ = (gcCells r.l[i])[j]? := fun j hj => by
    rw [← rowCells_get r.l i hil j hj]
    exact World.ownsRow.cellAt h1 _ (by omega)
  simp only [Nat.zero_add]
  exact ⟨hc 0 (by omega), hc 1 (by omega), hc 2 (by omega), hc 3 (by omega), hc 4 (by omega), hc 5 (by omega), hc 6 (by omega)⟩
theorem RoOwn.thaw (h : RoOwn w B r) {b : Nat} (hb : r.rs = some ⟨b, 0, none⟩) (j : Nat) : w.frozen? ⟨b, j, none⟩ = false := by
  have h1 : w.ownsRow B 61 7 (.slice (some ⟨b, 0, none⟩) r.l.length r.rc) r.l.length (rowCells r.l) := by rw [← hb]; exact h
  exact World.ownsRow.frozenAt h1 j
end
/-- A block in which none of a picture's rows lies. -/
def Off (v : Ro) (fb : Option Nat) (L : List Ro) (b : Nat) : Prop := roB v ≠ some b ∧ fb ≠ some b ∧ ∀ r ∈ L, roB r ≠ some b
/-- A picture that may be changed: from block B on its rows lie each in a block of its own, their sites in others, of which T is true. -/
structure PicG (T : Nat → Prop) (B : Nat) (w : World) (v : Ro) (fs : Option Addr) (fc : Nat) (L : List Ro) : Prop where
  vars : RoOwn w B v
  flds : w.ownsRow B 25 1 (.slice fs L.length fc) L.length (L.map roV)
  rows : ∀ r ∈ L, RoOwn w B r
  sv : ∀ g ∈ v.l, GcIn (fun b => T b ∧ Off v (Value.slice fs L.length fc).ownBlock L b) w g
  sf : ∀ r ∈ L, ∀ g ∈ r.l, GcIn (fun b => T b ∧ Off v (Value.slice fs L.length fc).ownBlock L b) w g
  dv : ∀ b, roB v = some b → (Value.slice fs L.length fc).ownBlock ≠ some b ∧ ∀ r ∈ L, roB r ≠ some b
  df : ∀ b, (Value.slice fs L.length fc).ownBlock = some b → ∀ r ∈ L, roB r ≠ some b
  dr : L.Pairwise fun r q => ∀ b, roB r = some b → roB q ≠ some b
def picOf (n : Bool) (v : Ro) (L : List Ro) : Pic := ⟨n, roG v, L.map roG⟩
section
variable {T T' : Nat → Prop} {B : Nat} {w w' : World} {v : Ro} {fs : Option Addr} {fc : Nat} {L : List Ro}
theorem PicG.mono (h : PicG T B w v fs fc L) (hT : ∀ b, T b → b < w.heap.size → T' b) : PicG T' B w v fs fc L :=
  ⟨h.vars, h.flds, h.rows, fun g hg => ⟨(h.sv g hg).1.mono fun b hb hz => ⟨hT b hb.1 hz, hb.2⟩, (h.sv g hg).2⟩, fun r hr g hg => ⟨(h.sf r hr g hg).1.mono fun b hb hz => ⟨hT b hb.1 hz, hb.2⟩, (h.sf r hr g hg).2⟩, h.dv, h.df, h.dr⟩
theorem PicG.same (h : PicG T B w v fs fc L) (hs : ∀ b, T b ∨ B ≤ b → b < w.heap.size → w'.heap[b]? = w.heap[b]?) (hz : w.heap.size ≤ w'.heap.size) : PicG T B w' v fs fc L :=
  ⟨h.vars.same fun b hb => hs b (.inr (h.vars.lt hb).2) (h.vars.lt hb).1, ownsI_same h.flds fun b hb => hs b (.inr (ownsI_lt h.flds hb).2) (ownsI_lt h.flds hb).1, fun r hr => (h.rows r hr).same fun b hb => hs b (.inr ((h.rows r hr).lt hb).2) ((h.rows r hr).lt hb).1,
   fun g hg => ⟨(h.sv g hg).1.same (fun b hb hlt => hs b (.inl hb.1) hlt) hz, (h.sv g hg).2⟩, fun r hr g hg => ⟨(h.sf r hr g hg).1.same (fun b hb hlt => hs b (.inl hb.1) hlt) hz, (h.sf r hr g hg).2⟩, h.dv, h.df, h.dr⟩
theorem PicG.call (h : PicG T B w v fs fc L) (hb : Below w.heap.size w w') : PicG T B w' v fs fc L := h.same (fun b _ hlt => hb.block b hlt) hb.size
theorem PicG.fcap (h : PicG T B w v fs fc L) : L.length ≤ fc ∧ fc ≤ maxLen := by
  rcases h.flds.2 with ⟨e, h1⟩ | ⟨g, cap, cur, e, hb, hg, k1, k2, _⟩
  · simp only [Value.slice.injEq] at e
    exact ⟨by omega, by rw [e.2.2]; exact Nat.zero_le _⟩
  · simp only [Value.slice.injEq] at e
    rw [e.2.2]
    exact ⟨k1, k2⟩
theorem PicG.fform (h : PicG T B w v fs fc L) (h0 : 0 < L.length) : ∃ b, fs = some ⟨b, 0, none⟩ ∧ B ≤ b ∧ b < w.heap.size ∧ ∀ k (hk : k < L.length), w.cell? ⟨b, k, none⟩ = some (roV L[k]) := by
  rcases h.flds.2 with ⟨e, h1⟩ | ⟨g, cap, cur, e, hb, hg, k1, k2, _⟩
  · omega
  · simp only [Value.slice.injEq] at e
    obtain ⟨e1, -, e3⟩ := e
    subst e1 e3
    refine ⟨g, rfl, hb, (Array.getElem?_eq_some_iff.1 hg).1, fun k hk => ?_⟩
    have := World.ownsRow.cellAt h.flds k (by omega)
    rw [this]
    simp [hk]
theorem PicG.at (h : PicG T B w v fs fc L) (n : Bool) : PicAt w (picOf n v L) v.rs fs := by
  refine ⟨(h.vars.gets h.sv).at, fun i hi => ?_⟩
  have hil : i < L.length := by simpa [picOf] using hi
  obtain ⟨b, e, hb, hz, hc⟩ := h.fform (by omega)
  have ei : (picOf n v L).flds[i] = roG L[i] := by simp [picOf]
  rw [ei]
  have hm := List.getElem_mem hil
  have hcp := (h.rows _ hm).caps
  refine ⟨b, 0, e, hz, L[i].rs, L[i].rc, ?_, by simpa [roG] using hcp.1, hcp.2, ((h.rows _ hm).gets (h.sf _ hm)).at⟩
  rw [Nat.zero_add, hc i hil]
  simp [roV, roG]
theorem PicG.on (h : PicG T B w v fs fc L) (n : Bool) : PicOn (fun b => T b ∨ B ≤ b) w (picOf n v L) v.rs fs := fun w2 hs hz => (h.same hs hz).at n
theorem PicG.vcap (h : PicG T B w v fs fc L) (n : Bool) : (picOf n v L).vars.length ≤ v.rc ∧ v.rc ≤ maxLen := by simpa [picOf, roG] using h.vars.caps
theorem PicG.fcap' (h : PicG T B w v fs fc L) (n : Bool) : (picOf n v L).flds.length ≤ fc ∧ fc ≤ maxLen := by simpa [picOf] using h.fcap
/-- Blocks that are not the row's stay behind a store. -/
theorem gcIn_put {S : Nat → Prop} {x : Gc} {a : Addr} {u : Value} (h : GcIn S w x) (hs : ∀ b, S b → b ≠ a.block) : GcIn S (w.setCell a u) x := ⟨h.1.same (fun b hb _ => Below.heap_setCell _ _ _ _ (hs b hb)) (by simp [World.setCell]), h.2⟩
/-- A cell of a variable's guess is written. -/
theorem PicG.putV (h : PicG T B w v fs fc L) {b : Nat} (hb : v.rs = some ⟨b, 0, none⟩) {k j : Nat} {u : Value} {x' : Gc} (hk : k < v.l.length) (hj : j < 7) (hx : gcCells x' = (gcCells v.l[k]).set j u) (hg : GcIn (fun b => T b ∧ Off v (Value.slice fs L.length fc).ownBlock L b) w x') :
    PicG T B (w.setCell ⟨b, k * 7 + j, none⟩ u) ⟨v.rs, v.rc, v.l.set k x'⟩ fs fc L := by
  have eb : roB v = some b := by unfold roB roV; rw [hb]; rfl
  have eb' : roB ⟨v.rs, v.rc, v.l.set k x'⟩ = roB v := by unfold roB roV; rw [hb]; rfl
  have eO : ∀ q, Off ⟨v.rs, v.rc, v.l.set k x'⟩ (Value.slice fs L.length fc).ownBlock L q = Off v (Value.slice fs L.length fc).ownBlock L q := fun q => by unfold Off; rw [eb']
  have hd := h.dv b eb
  have hp : ∀ g, GcIn (fun b => T b ∧ Off v (Value.slice fs L.length fc).ownBlock L b) w g → GcIn (fun b => T b ∧ Off ⟨v.rs, v.rc, v.l.set k x'⟩ (Value.slice fs L.length fc).ownBlock L b) (w.setCell ⟨b, k * 7 + j, none⟩ u) g := fun g hg => by
    simp only [eO]
    exact gcIn_put hg fun q hq e => hq.2.1 (by rw [eb]; exact congrArg some e.symm)
  refine ⟨h.vars.put hb hk hj hx, ownsI_same h.flds fun q hq => Below.heap_setCell _ _ _ _ fun e => hd.1 (by rw [hq]; exact congrArg some e), fun r hr => (h.rows r hr).same fun q hq => Below.heap_setCell _ _ _ _ fun e => hd.2 r hr (by rw [hq]; exact congrArg some e), fun g hgm => hp g ?_, fun r hr g hgm => hp g (h.sf r hr g hgm), by rw [eb']; exact h.dv, h.df, h.dr⟩
  rcases List.mem_or_eq_of_mem_set hgm with hgm | rfl
  · exact h.sv g hgm
  · exact hg
/-- A cell of a field's guess is written. -/
theorem PicG.putF (h : PicG T B w v fs fc L) {s : Nat} (hs : s < L.length) {b : Nat} (hb : L[s].rs = some ⟨b, 0, none⟩) {k j : Nat} {u : Value} {x' : Gc} (hk : k < L[s].l.length) (hj : j < 7) (hx : gcCells x' = (gcCells L[s].l[k]).set j u) (hg : GcIn (fun b => T b ∧ Off v (Value.slice fs L.length fc).ownBlock L b) w x') :
    PicG T B (w.setCell ⟨b, k * 7 + j, none⟩ u) v fs fc (L.set s ⟨L[s].rs, L[s].rc, L[s].l.set k x'⟩) := by
  have hm := List.getElem_mem hs
  have eb : roB L[s] = some b := by unfold roB roV; rw [hb]; rfl
  have ebn : roB ⟨L[s].rs, L[s].rc, L[s].l.set k x'⟩ = roB L[s] := by unfold roB roV; rw [hb]; rfl
  have evn : roV ⟨L[s].rs, L[s].rc, L[s].l.set k x'⟩ = roV L[s] := by unfold roV; simp
  have eL : (L.set s ⟨L[s].rs, L[s].rc, L[s].l.set k x'⟩).map roB = L.map roB := by
    rw [List.map_set, ebn, ← List.getElem_map (f := roB) (h := by simpa using hs), List.set_getElem_self]
  have eV : (L.set s ⟨L[s].rs, L[s].rc, L[s].l.set k x'⟩).map roV = L.map roV := by
    rw [List.map_set, evn, ← List.getElem_map (f := roV) (h := by simpa using hs), List.set_getElem_self]
  have allB : ∀ {M : List Ro} {q : Nat}, (∀ r ∈ M, roB r ≠ some q) ↔ ∀ o ∈ M.map roB, o ≠ some q := by
    intro M q
    simp only [List.mem_map, forall_exists_index, and_imp, forall_apply_eq_imp_iff₂]
  have eO : ∀ q, Off v (Value.slice fs L.length fc).ownBlock (L.set s ⟨L[s].rs, L[s].rc, L[s].l.set k x'⟩) q ↔ Off v (Value.slice fs L.length fc).ownBlock L q := fun q => by
    unfold Off
    rw [allB, allB, eL]
  have hp : ∀ g, GcIn (fun b => T b ∧ Off v (Value.slice fs L.length fc).ownBlock L b) w g → GcIn (fun b => T b ∧ Off v (Value.slice fs (L.set s ⟨L[s].rs, L[s].rc, L[s].l.set k x'⟩).length fc).ownBlock (L.set s ⟨L[s].rs, L[s].rc, L[s].l.set k x'⟩) b) (w.setCell ⟨b, k * 7 + j, none⟩ u) g := fun g hg => by
    rw [List.length_set]
    simp only [eO]
    exact gcIn_put hg fun q hq e => hq.2.2.2 _ hm (by rw [eb]; exact congrArg some e.symm)
  have pwB : ∀ {M : List Ro}, M.Pairwise (fun r q => ∀ b, roB r = some b → roB q ≠ some b) ↔ (M.map roB).Pairwise fun o p => ∀ b, o = some b → p ≠ some b := by
    intro M
    rw [List.pairwise_map]
  refine ⟨h.vars.same fun q hq => Below.heap_setCell _ _ _ _ fun e => (h.dv q hq).2 _ hm (by rw [eb]; exact congrArg some e.symm), ?_, fun r hr => ?_, fun g hgm => hp g (h.sv g hgm), fun r hr g hgm => hp g ?_, fun q hq => ?_, fun q hq => ?_, ?_⟩
  · rw [List.length_set, eV]
    exact ownsI_same h.flds fun q hq => Below.heap_setCell _ _ _ _ fun e => h.df q hq _ hm (by rw [eb]; exact congrArg some e.symm)
  · rw [List.mem_iff_getElem] at hr
    obtain ⟨i, hi, rfl⟩ := hr
    rw [List.length_set] at hi
    rw [List.getElem_set]
    split
    · exact (h.rows _ hm).put hb hk hj hx
    · rename_i hne
      refine (h.rows _ (List.getElem_mem hi)).same fun q hq => Below.heap_setCell _ _ _ _ fun e => ?_
      simp only at e
      subst e
      have pw := List.pairwise_iff_getElem.1 h.dr
      rcases Nat.lt_or_gt_of_ne hne with hlt | hlt
      · exact pw s i hs hi hlt q eb hq
      · exact pw i s hi hs hlt q hq eb
  · rw [List.mem_iff_getElem] at hr
    obtain ⟨i, hi, rfl⟩ := hr
    rw [List.length_set] at hi
    rw [List.getElem_set] at hgm
    split at hgm
    · rcases List.mem_or_eq_of_mem_set hgm with hgm | rfl
      · exact h.sf _ hm g hgm
      · exact hg
    · exact h.sf _ (List.getElem_mem hi) g hgm
  · rw [List.length_set, allB, eL, ← allB]
    exact h.dv q hq
  · rw [List.length_set] at hq
    rw [allB, eL, ← allB]
    exact h.df q hq
  · rw [pwB, eL, ← pwB]
    exact h.dr
end
end
end Go.Proofs.YtmapdpcfanecdabGreat
