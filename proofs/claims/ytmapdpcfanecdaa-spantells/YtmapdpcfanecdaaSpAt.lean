/- A span that lies in memory. -/
import Derived.Test.YtmapdpcfanecdaaSpB
namespace Go.Proofs.Ytmapdpcfanecdaa
set_option linter.unusedVariables false
set_option linter.unusedSimpArgs false
open Go.RowKit

/-- A span lies in a block. -/
def SpAt (w : World) (b : Nat) (s : Sp) : Prop := (w.cell? ⟨b, 0, none⟩ = some (.bool s.n) ∧ w.cell? ⟨b, 1, none⟩ = some (.int .i64 s.lo) ∧ w.cell? ⟨b, 2, none⟩ = some (.int .i64 s.hi)) ∧ b < w.heap.size

theorem SpAt.below {B b : Nat} {s : Sp} {w w' : World} (h : SpAt w b s) (hb : Below B w w') (hB : w.heap.size ≤ B) : SpAt w' b s := by
  obtain ⟨⟨h0, h1, h2⟩, hz⟩ := h
  refine ⟨?_, Nat.lt_of_lt_of_le hz hb.size⟩
  rw [hb.cell (by simp; omega), hb.cell (by simp; omega), hb.cell (by simp; omega)]
  exact ⟨h0, h1, h2⟩
theorem SpAt.call {b : Nat} {s : Sp} {w w' : World} (h : SpAt w b s) (hb : Below w.heap.size w w') : SpAt w' b s := h.below hb (Nat.le_refl _)
theorem SpAt.alloc {b : Nat} {s : Sp} {w : World} (h : SpAt w b s) (o : Obj) : SpAt (w.alloc o) b s := h.below (Below.alloc (Below.refl _ _) (Nat.le_refl _) o) (Nat.le_refl _)
theorem SpAt.drew {b : Nat} {s : Sp} {w : World} (h : SpAt w b s) : SpAt w.drew b s := h
theorem SpAt.new (w : World) (s : Sp) : SpAt (w.alloc (.cells #[.bool s.n, .int .i64 s.lo, .int .i64 s.hi] 23)) w.heap.size s := ⟨by simp [go_sem], by simp⟩

/-- A block's three cells may be written. -/
def FrAt (w : World) (b : Nat) : Prop := (w.frozen? ⟨b, 0, none⟩ = false ∧ w.frozen? ⟨b, 1, none⟩ = false ∧ w.frozen? ⟨b, 2, none⟩ = false) ∧ b < w.heap.size
theorem FrAt.call {b : Nat} {w w' : World} (h : FrAt w b) (hb : Below w.heap.size w w') : FrAt w' b := by
  obtain ⟨⟨h0, h1, h2⟩, hz⟩ := h
  refine ⟨?_, Nat.lt_of_lt_of_le hz hb.size⟩
  rw [hb.frozen (by simpa using hz), hb.frozen (by simpa using hz), hb.frozen (by simpa using hz)]
  exact ⟨h0, h1, h2⟩
theorem FrAt.drew {b : Nat} {w : World} (h : FrAt w b) : FrAt w.drew b := h
theorem FrAt.alloc {b : Nat} {w : World} (h : FrAt w b) (o : Obj) : FrAt (w.alloc o) b := h.call (Below.alloc (Below.refl _ _) (Nat.le_refl _) o)
theorem FrAt.new (w : World) (s : Sp) : FrAt (w.alloc (.cells #[.bool s.n, .int .i64 s.lo, .int .i64 s.hi] 23)) w.heap.size := ⟨by simp [go_sem], by simp⟩

/-- A span is stored. -/
abbrev put3 (w : World) (g : Nat) (r : Sp) : World := ((w.setCell ⟨g, 0, none⟩ (.bool r.n)).setCell ⟨g, 1, none⟩ (.int .i64 r.lo)).setCell ⟨g, 2, none⟩ (.int .i64 r.hi)
theorem put3_size (w : World) (g : Nat) (r : Sp) : (put3 w g r).heap.size = w.heap.size := by simp [put3]
theorem SpAt.put {b g : Nat} {s r : Sp} {w : World} (h : SpAt w b s) (hne : b ≠ g) : SpAt (put3 w g r) b s := by
  obtain ⟨⟨h0, h1, h2⟩, hz⟩ := h
  refine ⟨?_, by rw [put3_size]; exact hz⟩
  unfold put3
  have hx : g ≠ b := fun e => hne e.symm
  simp only [World.cell?_setCell_far _ ⟨g, 0, none⟩ ⟨b, _, none⟩ _ hx, World.cell?_setCell_far _ ⟨g, 1, none⟩ ⟨b, _, none⟩ _ hx, World.cell?_setCell_far _ ⟨g, 2, none⟩ ⟨b, _, none⟩ _ hx]
  exact ⟨h0, h1, h2⟩
theorem SpAt.set {g : Nat} {s r : Sp} {w : World} (h : SpAt w g s) : SpAt (put3 w g r) g r := by
  obtain ⟨⟨h0, h1, h2⟩, hz⟩ := h
  refine ⟨?_, by rw [put3_size]; exact hz⟩
  unfold put3
  simp [go_sem, h0, h1, h2]
theorem FrAt.put {b g : Nat} {r : Sp} {w : World} (h : FrAt w b) : FrAt (put3 w g r) b := by
  obtain ⟨⟨h0, h1, h2⟩, hz⟩ := h
  refine ⟨?_, by rw [put3_size]; exact hz⟩
  unfold put3
  simp [go_sem, h0, h1, h2]
theorem below_put {B g : Nat} {r : Sp} {a w : World} (h : Below B a w) (hg : B ≤ g) : Below B a (put3 w g r) := ((h.setCell (by simpa using hg) _).setCell (by simpa using hg) _).setCell (by simpa using hg) _

/-- A list of spans lies behind a slice's address. -/
def SpsAt (w : World) (ls : Option Addr) (L : List Sp) : Prop := L = [] ∨ ∃ b off, ls = some ⟨b, off, none⟩ ∧ b < w.heap.size ∧ ∀ i (h : i < L.length), w.cell? ⟨b, off + i * 3, none⟩ = some (.bool L[i].n) ∧ w.cell? ⟨b, off + i * 3 + 1, none⟩ = some (.int .i64 L[i].lo) ∧ w.cell? ⟨b, off + i * 3 + 2, none⟩ = some (.int .i64 L[i].hi)

/-- Four spans are declared. -/
abbrev w4z (w : World) : World := (((w.alloc (.cells #[.bool false, .int .i64 0, .int .i64 0] 23)).alloc (.cells #[.bool false, .int .i64 0, .int .i64 0] 23)).alloc (.cells #[.bool false, .int .i64 0, .int .i64 0] 23)).alloc (.cells #[.bool false, .int .i64 0, .int .i64 0] 23)
theorem w4_at (w : World) : (SpAt (w4z w) w.heap.size zeroSp ∧ FrAt (w4z w) w.heap.size) ∧ (SpAt (w4z w) (w.heap.size + 1) zeroSp ∧ FrAt (w4z w) (w.heap.size + 1)) ∧ (SpAt (w4z w) (w.heap.size + 1 + 1) zeroSp ∧ FrAt (w4z w) (w.heap.size + 1 + 1)) ∧ SpAt (w4z w) (w.heap.size + 1 + 1 + 1) zeroSp ∧ FrAt (w4z w) (w.heap.size + 1 + 1 + 1) := by
  unfold SpAt FrAt w4z zeroSp
  simp [go_sem]
theorem SpAt.w4 {b : Nat} {s : Sp} {w : World} (h : SpAt w b s) : SpAt (w4z w) b s := (((h.alloc _).alloc _).alloc _).alloc _
theorem below_w4 {B : Nat} {a w : World} (h : Below B a w) (hB : B ≤ w.heap.size) : Below B a (w4z w) := (((h.alloc hB _).alloc (by simp; omega) _).alloc (by simp; omega) _).alloc (by simp; omega) _
theorem w4_size (w : World) : (w4z w).heap.size = w.heap.size + 4 := by simp [w4z]
end Go.Proofs.Ytmapdpcfanecdaa
