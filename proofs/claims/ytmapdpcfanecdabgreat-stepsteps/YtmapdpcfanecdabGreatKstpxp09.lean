/- Cells of a block stored one behind the other: what stands then, told once. -/
import Derived.Test.YtmapdpcfanecdabGreatKstpxp02
import Derived.Test.YtmapdpcfanecdabGreatKstpxp01
import Derived.WalkSmall
import Derived.Lib.SmallJoins
import Derived.Deep.Slices
import Derived.ProofKit
import Derived.Laws.OwnMore
import Derived.Test.YtmapdpcfanecdabGreatKstpxp03
import Derived.Lib.ItoaNum
import Derived.Lib.ItoaLen
import Derived.Lib.QuietBelow
import Derived.BigQuiet
import Derived.Deep.RegionHeld
import Derived.WalkKit
import Derived.WalkSpells
import Derived.WalkLawsBesides
import Derived.Handy
import Derived.Deep.DeepCutAuto
import Derived.OwnWalk
import Derived.Deep.DrawnRows
import Derived.Deep.QuietTactic
import Derived.Lib.MinMax
import Derived.Test.YtmapdpcfanecdabGreatShelf
import Derived.Laws.MakeOwn
import Derived.Laws.CopyOwn
import Derived.Deep.AppendLies
set_option linter.unusedSimpArgs false
set_option linter.unusedVariables false
namespace Go.Proofs.YtmapdpcfanecdabGreat
section
open Go.RowKit

/-- A span lies in a block. -/
def SpAt (w : World) (b : Nat) (s : Sp) : Prop := (w.cell? ⟨b, 0, none⟩ = some (.bool s.n) ∧ w.cell? ⟨b, 1, none⟩ = some (.int .i64 s.lo) ∧ w.cell? ⟨b, 2, none⟩ = some (.int .i64 s.hi)) ∧ b < w.heap.size

theorem SpAt.below {B b : Nat} {s : Sp} {w w' : World} (h : SpAt w b s) (hb : Below B w w') (hB : w.heap.size ≤ B) : SpAt w' b s := by
 obtain ⟨⟨h0, h1, h2⟩, hz⟩ := h
 refine ⟨?_, Nat.lt_of_lt_of_le hz hb.size⟩
 rw [hb.cell (by simp; omega), hb.cell (by simp; omega), hb.cell (by simp; omega)]
 exact ⟨h0, h1, h2⟩
theorem SpAt.call {b : Nat} {s : Sp} {w w' : World} (h : SpAt w b s) (hb : Below w.heap.size w w') : SpAt w' b s := h.below hb (Nat.le_refl _)
theorem SpAt.alloc {b : Nat} {s : Sp} {w : World} (h : SpAt w b s) (o : Obj) : SpAt (w.alloc o) b s := h.below (Below.alloc (Below.refl _ _) (Nat.le_refl _) o) (Nat.le_refl _)
theorem SpAt.drew {b : Nat} {s : Sp} {w : World} (h : SpAt w b s) : SpAt w.drew b s := h
theorem SpAt.new (w : World) (s : Sp) : SpAt (w.alloc (.cells #[.bool s.n, .int .i64 s.lo, .int .i64 s.hi] 58)) w.heap.size s := ⟨by simp [go_sem], by simp⟩
end
section
open Go.RowKit

theorem hideH {p : Prop} (h : p) : Hid p := h

theorem IntsAt.get {w : World} {ss : Option Addr} {l : List Int} (h : IntsAt w ss l) (k : Nat) (hk : k < l.length) :
  ∃ b off, ss = some ⟨b, off, none⟩ ∧ b < w.heap.size ∧ ∀ k (h : k < l.length), w.cell? ⟨b, off + k, none⟩ = some (.int .i64 l[k]) := by
 rcases h with rfl | h
 ·exact absurd hk (by simp)
 ·exact h
theorem IntsAt.call {w w' : World} {ss : Option Addr} {l : List Int} (h : IntsAt w ss l) (hb : Below w.heap.size w w') : IntsAt w' ss l := h.below hb (Nat.le_refl _)
theorem IntsAt.alloc {w : World} {ss : Option Addr} {l : List Int} (h : IntsAt w ss l) (o : Obj) : IntsAt (w.alloc o) ss l := h.call (Below.alloc (Below.refl _ _) (Nat.le_refl _) o)
theorem IntsAt.drew {w : World} {ss : Option Addr} {l : List Int} (h : IntsAt w ss l) : IntsAt w.drew ss l := h
theorem IntsAt.drewN {w : World} {ss : Option Addr} {l : List Int} (h : IntsAt w ss l) (n : Nat) : IntsAt (w.drewN n) ss l := h.call (below_drewN (Below.refl _ _) n)
theorem CodeAt.get {w : World} {s : Option Addr} {c : List Ins} (h : CodeAt w s c) (k : Nat) (hk : k < c.length) :
  ∃ b off, s = some ⟨b, off, none⟩ ∧ b < w.heap.size ∧ ∀ k (h : k < c.length), InsAt w b (off + k * 6) c[k] := by
 rcases h with rfl | h
 ·exact absurd hk (by simp)
 ·exact h
theorem CodeAt.call {w w' : World} {s : Option Addr} {c : List Ins} (h : CodeAt w s c) (hb : Below w.heap.size w w') : CodeAt w' s c := h.below hb (Nat.le_refl _)
theorem CodeAt.alloc {w : World} {s : Option Addr} {c : List Ins} (h : CodeAt w s c) (o : Obj) : CodeAt (w.alloc o) s c := h.call (Below.alloc (Below.refl _ _) (Nat.le_refl _) o)

/-- A guess as the program holds it: its sites lie behind a slice. -/
abbrev gv (g : Gs) (ss : Option Addr) (cap : Nat) : Value := .agg #[.bool g.n, .bool g.sp.n, .int .i64 g.sp.lo, .int .i64 g.sp.hi, .bool g.t, .bool g.f, .slice ss g.s.length cap]
/-- A program as it is held. -/
abbrev pv (V F : Int) (s : Option Addr) (c : List Ins) (cap : Nat) : Value := .agg #[.int .i64 V, .int .i64 F, .slice s c.length cap]

/-- A guess lies in seven cells. -/
def GuAt (w : World) (b o : Nat) (g : Gs) (ss : Option Addr) (cap : Nat) : Prop :=
 (w.cell? ⟨b, o, none⟩ = some (.bool g.n) ∧ w.cell? ⟨b, o + 1, none⟩ = some (.bool g.sp.n) ∧ w.cell? ⟨b, o + 2, none⟩ = some (.int .i64 g.sp.lo) ∧ w.cell? ⟨b, o + 3, none⟩ = some (.int .i64 g.sp.hi) ∧ w.cell? ⟨b, o + 4, none⟩ = some (.bool g.t) ∧ w.cell? ⟨b, o + 5, none⟩ = some (.bool g.f) ∧ w.cell? ⟨b, o + 6, none⟩ = some (.slice ss g.s.length cap)) ∧ b < w.heap.size
theorem GuAt.below {B : Nat} {w w' : World} {b o : Nat} {g : Gs} {ss : Option Addr} {cap : Nat} (h : GuAt w b o g ss cap) (hb : Below B w w') (hB : w.heap.size ≤ B) : GuAt w' b o g ss cap := by
 obtain ⟨⟨h0, h1, h2, h3, h4, h5, h6⟩, hz⟩ := h
 refine ⟨⟨?_, ?_, ?_, ?_, ?_, ?_, ?_⟩, Nat.lt_of_lt_of_le hz hb.size⟩ <;> rw [hb.cell (by simp; omega)] <;> assumption
theorem GuAt.call {w w' : World} {b o : Nat} {g : Gs} {ss : Option Addr} {cap : Nat} (h : GuAt w b o g ss cap) (hb : Below w.heap.size w w') : GuAt w' b o g ss cap := h.below hb (Nat.le_refl _)
theorem GuAt.alloc {w : World} {b o : Nat} {g : Gs} {ss : Option Addr} {cap : Nat} (h : GuAt w b o g ss cap) (x : Obj) : GuAt (w.alloc x) b o g ss cap := h.call (Below.alloc (Below.refl _ _) (Nat.le_refl _) x)
theorem GuAt.drew {w : World} {b o : Nat} {g : Gs} {ss : Option Addr} {cap : Nat} (h : GuAt w b o g ss cap) : GuAt w.drew b o g ss cap := h
theorem GuAt.new (w : World) (g : Gs) (ss : Option Addr) (cap : Nat) : GuAt (w.alloc (.cells #[.bool g.n, .bool g.sp.n, .int .i64 g.sp.lo, .int .i64 g.sp.hi, .bool g.t, .bool g.f, .slice ss g.s.length cap] 61)) w.heap.size 0 g ss cap := ⟨by simp [go_sem], by simp⟩

/-- A program lies in a block. -/
def PrAt (w : World) (b : Nat) (V F : Int) (s : Option Addr) (c : List Ins) (cap : Nat) : Prop :=
 (w.cell? ⟨b, 0, none⟩ = some (.int .i64 V) ∧ w.cell? ⟨b, 1, none⟩ = some (.int .i64 F) ∧ w.cell? ⟨b, 2, none⟩ = some (.slice s c.length cap)) ∧ b < w.heap.size
theorem PrAt.below {B : Nat} {w w' : World} {b : Nat} {V F : Int} {s : Option Addr} {c : List Ins} {cap : Nat} (h : PrAt w b V F s c cap) (hb : Below B w w') (hB : w.heap.size ≤ B) : PrAt w' b V F s c cap := by
 obtain ⟨⟨h0, h1, h2⟩, hz⟩ := h
 refine ⟨⟨?_, ?_, ?_⟩, Nat.lt_of_lt_of_le hz hb.size⟩ <;> rw [hb.cell (by simp; omega)] <;> assumption
theorem PrAt.call {w w' : World} {b : Nat} {V F : Int} {s : Option Addr} {c : List Ins} {cap : Nat} (h : PrAt w b V F s c cap) (hb : Below w.heap.size w w') : PrAt w' b V F s c cap := h.below hb (Nat.le_refl _)
theorem PrAt.alloc {w : World} {b : Nat} {V F : Int} {s : Option Addr} {c : List Ins} {cap : Nat} (h : PrAt w b V F s c cap) (x : Obj) : PrAt (w.alloc x) b V F s c cap := h.call (Below.alloc (Below.refl _ _) (Nat.le_refl _) x)
theorem PrAt.new (w : World) (V F : Int) (s : Option Addr) (c : List Ins) (cap : Nat) : PrAt (w.alloc (.cells #[.int .i64 V, .int .i64 F, .slice s c.length cap] 24)) w.heap.size V F s c cap := ⟨by simp [go_sem], by simp⟩

/-- A list of guesses lies behind a slice's address, each with its sites. -/
def GsAt (w : World) (ls : Option Addr) (L : List Gs) : Prop :=
 ∀ i (h : i < L.length), ∃ b off, ls = some ⟨b, off, none⟩ ∧ ∃ ss cap, GuAt w b (off + i * 7) L[i] ss cap ∧ IntsAt w ss L[i].s ∧ L[i].s.length ≤ cap ∧ cap ≤ maxLen
theorem GsAt.below {B : Nat} {w w' : World} {ls : Option Addr} {L : List Gs} (h : GsAt w ls L) (hb : Below B w w') (hB : w.heap.size ≤ B) : GsAt w' ls L := by
 intro i hi
 obtain ⟨b, off, e, ss, cap, h1, h2, h3, h4⟩ := h i hi
 exact ⟨b, off, e, ss, cap, h1.below hb hB, h2.below hb hB, h3, h4⟩
theorem GsAt.call {w w' : World} {ls : Option Addr} {L : List Gs} (h : GsAt w ls L) (hb : Below w.heap.size w w') : GsAt w' ls L := h.below hb (Nat.le_refl _)
theorem GsAt.alloc {w : World} {ls : Option Addr} {L : List Gs} (h : GsAt w ls L) (o : Obj) : GsAt (w.alloc o) ls L := h.call (Below.alloc (Below.refl _ _) (Nat.le_refl _) o)

/-- .. without their sites. -/
def GhAt (w : World) (ls : Option Addr) (L : List Gs) : Prop :=
 ∀ i (h : i < L.length), ∃ b off, ls = some ⟨b, off, none⟩ ∧ ∃ ss cap, GuAt w b (off + i * 7) L[i] ss cap
theorem GhAt.below {B : Nat} {w w' : World} {ls : Option Addr} {L : List Gs} (h : GhAt w ls L) (hb : Below B w w') (hB : w.heap.size ≤ B) : GhAt w' ls L := by
 intro i hi
 obtain ⟨b, off, e, ss, cap, h1⟩ := h i hi
 exact ⟨b, off, e, ss, cap, h1.below hb hB⟩
theorem GhAt.call {w w' : World} {ls : Option Addr} {L : List Gs} (h : GhAt w ls L) (hb : Below w.heap.size w w') : GhAt w' ls L := h.below hb (Nat.le_refl _)

/-- One guess in a block of its own. -/
theorem GsAt.new1 (w : World) (g : Gs) (ss : Option Addr) (gc : Nat) (hs : IntsAt w ss g.s) (h1 : g.s.length ≤ gc) (h2 : gc ≤ maxLen) :
  GsAt (w.alloc (.cells #[.bool g.n, .bool g.sp.n, .int .i64 g.sp.lo, .int .i64 g.sp.hi, .bool g.t, .bool g.f, .slice ss g.s.length gc] 61)) (some ⟨w.heap.size, 0, none⟩) [g] := by
 intro i hi
 obtain rfl : i = 0 := by simp at hi; omega
 exact ⟨w.heap.size, 0, rfl, ss, gc, GuAt.new w g ss gc, hs.alloc _, h1, h2⟩

theorem GhAt.new1 (w : World) (g : Gs) (ss : Option Addr) (gc : Nat) :
  GhAt (w.alloc (.cells #[.bool g.n, .bool g.sp.n, .int .i64 g.sp.lo, .int .i64 g.sp.hi, .bool g.t, .bool g.f, .slice ss g.s.length gc] 61)) (some ⟨w.heap.size, 0, none⟩) [g] := by
 intro i hi
 obtain rfl : i = 0 := by simp at hi; omega
 exact ⟨w.heap.size, 0, rfl, ss, gc, GuAt.new w g ss gc⟩

/-- Two guesses in a block of their own. -/
abbrev twoW (w : World) (g : Gs) (ss : Option Addr) (gc : Nat) (h : Gs) (st : Option Addr) (hc : Nat) : World :=
 w.alloc (.cells #[.bool g.n, .bool g.sp.n, .int .i64 g.sp.lo, .int .i64 g.sp.hi, .bool g.t, .bool g.f, .slice ss g.s.length gc, .bool h.n, .bool h.sp.n, .int .i64 h.sp.lo, .int .i64 h.sp.hi, .bool h.t, .bool h.f, .slice st h.s.length hc] 61)
theorem GuAt.two0 (w : World) (g : Gs) (ss : Option Addr) (gc : Nat) (h : Gs) (st : Option Addr) (hc : Nat) : GuAt (twoW w g ss gc h st hc) w.heap.size 0 g ss gc := ⟨by simp [go_sem], by simp⟩
theorem GuAt.two1 (w : World) (g : Gs) (ss : Option Addr) (gc : Nat) (h : Gs) (st : Option Addr) (hc : Nat) : GuAt (twoW w g ss gc h st hc) w.heap.size 7 h st hc := ⟨by simp [go_sem], by simp⟩
theorem GsAt.new2 (w : World) (g : Gs) (ss : Option Addr) (gc : Nat) (h : Gs) (st : Option Addr) (hc : Nat) (hs : IntsAt w ss g.s) (h1 : g.s.length ≤ gc) (h2 : gc ≤ maxLen) (ht : IntsAt w st h.s) (h3 : h.s.length ≤ hc) (h4 : hc ≤ maxLen) :
  GsAt (twoW w g ss gc h st hc) (some ⟨w.heap.size, 0, none⟩) [g, h] := by
 intro i hi
 by_cases e : i = 0
 ·subst e; exact ⟨w.heap.size, 0, rfl, ss, gc, GuAt.two0 w g ss gc h st hc, hs.alloc _, h1, h2⟩
 ·obtain rfl : i = 1 := by simp at hi; omega
  exact ⟨w.heap.size, 0, rfl, st, hc, GuAt.two1 w g ss gc h st hc, ht.alloc _, h3, h4⟩
theorem GhAt.new2 (w : World) (g : Gs) (ss : Option Addr) (gc : Nat) (h : Gs) (st : Option Addr) (hc : Nat) : GhAt (twoW w g ss gc h st hc) (some ⟨w.heap.size, 0, none⟩) [g, h] := by
 intro i hi
 by_cases e : i = 0
 ·subst e; exact ⟨w.heap.size, 0, rfl, ss, gc, GuAt.two0 w g ss gc h st hc⟩
 ·obtain rfl : i = 1 := by simp at hi; omega
  exact ⟨w.heap.size, 0, rfl, st, hc, GuAt.two1 w g ss gc h st hc⟩
end
section
set_option maxRecDepth 100000
open Go.RowKit

/-- Numbers behind a slice, in a block of which S is true. -/
def IntsIn (S : Nat → Prop) (w : World) (ss : Option Addr) (l : List Int) : Prop :=
 l = [] ∨ ∃ b off, ss = some ⟨b, off, none⟩ ∧ S b ∧ b < w.heap.size ∧ ∀ k (h : k < l.length), w.cell? ⟨b, off + k, none⟩ = some (.int .i64 l[k])
section
variable {S S' : Nat → Prop} {w w' : World} {ss : Option Addr} {l : List Int}
theorem IntsIn.at (h : IntsIn S w ss l) : IntsAt w ss l := by
 rcases h with h | ⟨b, off, e, -, hb, hc⟩
 ·exact .inl h
 ·exact .inr ⟨b, off, e, hb, hc⟩
theorem IntsAt.inAll (h : IntsAt w ss l) : IntsIn (fun b => b < w.heap.size) w ss l := by
 rcases h with h | ⟨b, off, e, hb, hc⟩
 ·exact .inl h
 ·exact .inr ⟨b, off, e, hb, hb, hc⟩
theorem IntsIn.same (h : IntsIn S w ss l) (hs : ∀ b, S b → b < w.heap.size → w'.heap[b]? = w.heap[b]?) (hz : w.heap.size ≤ w'.heap.size) : IntsIn S w' ss l := by
 rcases h with h | ⟨b, off, e, hS, hb, hc⟩
 ·exact .inl h
 ·exact .inr ⟨b, off, e, hS, Nat.lt_of_lt_of_le hb hz, fun k hk => by rw [World.cell?_of_block (a := ⟨b, off + k, none⟩) (hs b hS hb)]; exact hc k hk⟩
theorem IntsIn.mono (h : IntsIn S w ss l) (hs : ∀ b, S b → b < w.heap.size → S' b) : IntsIn S' w ss l := by
 rcases h with h | ⟨b, off, e, hS, hb, hc⟩
 ·exact .inl h
 ·exact .inr ⟨b, off, e, hs b hS hb, hb, hc⟩
theorem IntsIn.call (h : IntsIn S w ss l) (hb : Below w.heap.size w w') : IntsIn S w' ss l := h.same (fun b _ hlt => hb.block b hlt) hb.size
end

theorem ownsI_lt {w : World} {B : Nat} {e : TypeId} {z : Nat} {v : Value} {n : Nat} {xs : List Value} (h : w.ownsRow B e z v n xs) {k : Nat} (hk : v.ownBlock = some k) : k < w.heap.size ∧ B ≤ k := by
 rcases h.2 with ⟨rfl, _⟩ | ⟨g, cap, cur, rfl, hb, hg, _⟩
 ·cases hk
 ·cases hk
  exact ⟨(Array.getElem?_eq_some_iff.1 hg).1, hb⟩
theorem ownsI_same {w w' : World} {B : Nat} {e : TypeId} {z : Nat} {v : Value} {n : Nat} {xs : List Value} (h : w.ownsRow B e z v n xs) (hb : ∀ k, v.ownBlock = some k → w'.heap[k]? = w.heap[k]?) : w'.ownsRow B e z v n xs := by
 obtain ⟨hl, h2⟩ := h
 rcases h2 with h2 | ⟨g, cap, cur, rfl, h1, hg, hr⟩
 ·exact ⟨hl, .inl h2⟩
 ·exact ⟨hl, .inr ⟨g, cap, cur, rfl, h1, by rw [hb g rfl]; exact hg, hr⟩⟩
theorem ownsI_call {w w' : World} {B : Nat} {e : TypeId} {z : Nat} {v : Value} {n : Nat} {xs : List Value} (h : w.ownsRow B e z v n xs) (hb : Below w.heap.size w w') : w'.ownsRow B e z v n xs := ownsI_same h fun k hk => hb.block k (ownsI_lt h hk).1

/-- A guess and where its sites lie. -/
structure Gc where
 g : Gs
 ss : Option Addr
 cap : Nat
def gcCells (x : Gc) : List Value := [.bool x.g.n, .bool x.g.sp.n, .int .i64 x.g.sp.lo, .int .i64 x.g.sp.hi, .bool x.g.t, .bool x.g.f, .slice x.ss x.g.s.length x.cap]
def rowCells (l : List Gc) : List Value := l.flatMap gcCells
/-- Its sites lie where S is true. -/
def GcIn (S : Nat → Prop) (w : World) (x : Gc) : Prop := IntsIn S w x.ss x.g.s ∧ x.g.s.length ≤ x.cap ∧ x.cap ≤ maxLen
theorem gcCells_len (x : Gc) : (gcCells x).length = 7 := rfl
theorem rowCells_len (l : List Gc) : (rowCells l).length = l.length * 7 := by
 induction l with
 | nil => rfl
 | cons x r ih =>
  have : rowCells (x :: r) = gcCells x ++ rowCells r := rfl
  rw [this, List.length_append, ih, gcCells_len, List.length_cons]
  omega
theorem rowCells_append (a b : List Gc) : rowCells (a ++ b) = rowCells a ++ rowCells b := by simp [rowCells]
theorem gcCells_one (x : Gc) : ∀ u ∈ gcCells x, u.oneCell' = true := by
 intro u hu
 simp only [gcCells, List.mem_cons, List.not_mem_nil, or_false] at hu
 rcases hu with rfl | rfl | rfl | rfl | rfl | rfl | rfl <;> rfl
theorem rowCells_get : ∀ (l : List Gc) (i : Nat) (h : i < l.length) (j : Nat) (_ : j < 7), (rowCells l)[i * 7 + j]? = (gcCells l[i])[j]?
 | [], i, h, _, _ => absurd h (by simp)
 | x :: r, 0, _, j, hj => by
  have e : rowCells (x :: r) = gcCells x ++ rowCells r := rfl
  rw [e, Nat.zero_mul, Nat.zero_add, List.getElem?_append_left (by rw [gcCells_len]; exact hj)]
  rfl
 | x :: r, i + 1, h, j, hj => by
  have e : rowCells (x :: r) = gcCells x ++ rowCells r := rfl
  rw [e, List.getElem?_append_right (by rw [gcCells_len]; omega), gcCells_len]
  have : (i + 1) * 7 + j - 7 = i * 7 + j := by omega
  rw [this, rowCells_get r i (by simpa using h) j hj]
  rfl

/-- A row of guesses in memory of its own (from block B on), its sites away from the row's block. -/
def GRow (w : World) (B : Nat) (v : Value) (l : List Gc) : Prop := w.ownsRow B 61 7 v l.length (rowCells l) ∧ ∀ x ∈ l, GcIn (fun b => v.ownBlock ≠ some b) w x
section
variable {w w' : World} {B : Nat} {v v' : Value} {l : List Gc}
/-- A row as it is read. -/
theorem GRow.at (h : GRow w B v l) : ∃ rs rc, v = .slice rs l.length rc ∧ l.length ≤ rc ∧ rc ≤ maxLen ∧ GsAt w rs (l.map Gc.g) ∧ ∀ a, rs = some a → B ≤ a.block := by
 obtain ⟨h1, h2⟩ := h
 rcases h1.2 with ⟨rfl, h0⟩ | ⟨g, cap, cur, rfl, hb, hg, k1, k2, k3, k4⟩
 ·have : l = [] := List.length_eq_zero_iff.1 h0
  subst this
  exact ⟨none, 0, rfl, Nat.le_refl _, by unfold maxLen; omega, fun i hi => absurd hi (by simp), fun a ha => by cases ha⟩
 ·refine ⟨some ⟨g, 0, none⟩, cap, rfl, k1, k2, fun i hi => ?_, fun a ha => by cases ha; exact hb⟩
  have hil : i < l.length := by simpa using hi
  have e : (l.map Gc.g)[i] = l[i].g := by simp
  rw [e]
  have hx := h2 l[i] (List.getElem_mem hil)
  refine ⟨g, 0, rfl, l[i].ss, l[i].cap, ⟨?_, (Array.getElem?_eq_some_iff.1 hg).1⟩, hx.1.at, hx.2.1, hx.2.2⟩
  have hc : ∀ j, j < 7 → w.cell? ⟨g, i * 7 + j, none⟩ = (gcCells l[i])[j]? := fun j hj => by
   have := h1.cellAt (i * 7 + j) (by omega)
   rw [← rowCells_get l i hil j hj]
   exact this
  simp only [Nat.zero_add]
  exact ⟨hc 0 (by omega), hc 1 (by omega), hc 2 (by omega), hc 3 (by omega), hc 4 (by omega), hc 5 (by omega), hc 6 (by omega)⟩
end

/-- Rows of guesses behind a slice. -/
def RowsAt (w : World) (fs : Option Addr) (L : List (List Gs)) : Prop :=
 ∀ i (h : i < L.length), ∃ b off, fs = some ⟨b, off, none⟩ ∧ b < w.heap.size ∧ ∃ rs rc, w.cell? ⟨b, off + i, none⟩ = some (.slice rs L[i].length rc) ∧ L[i].length ≤ rc ∧ rc ≤ maxLen ∧ GsAt w rs L[i]
theorem RowsAt.below {B : Nat} {w w' : World} {fs : Option Addr} {L : List (List Gs)} (h : RowsAt w fs L) (hb : Below B w w') (hB : w.heap.size ≤ B) : RowsAt w' fs L := by
 intro i hi
 obtain ⟨b, off, e, hz, rs, rc, h1, h2, h3, h4⟩ := h i hi
 exact ⟨b, off, e, Nat.lt_of_lt_of_le hz hb.size, rs, rc, by rw [hb.cell (by simp; omega)]; exact h1, h2, h3, h4.below hb hB⟩
/-- What a picture's slices lead to. -/
def PicAt (w : World) (x : Pic) (vs fs : Option Addr) : Prop := GsAt w vs x.vars ∧ RowsAt w fs x.flds
theorem PicAt.below {B : Nat} {w w' : World} {x : Pic} {vs fs : Option Addr} (h : PicAt w x vs fs) (hb : Below B w w') (hB : w.heap.size ≤ B) : PicAt w' x vs fs := ⟨h.1.below hb hB, h.2.below hb hB⟩
theorem PicAt.call {w w' : World} {x : Pic} {vs fs : Option Addr} (h : PicAt w x vs fs) (hb : Below w.heap.size w w') : PicAt w' x vs fs := h.below hb (Nat.le_refl _)
/-- A picture, as a value. -/
abbrev xv (x : Pic) (vs : Option Addr) (vc : Nat) (fs : Option Addr) (fc : Nat) : Value := .agg #[.bool x.none, .slice vs x.vars.length vc, .slice fs x.flds.length fc]
/-- Its lengths are lengths. -/
def LenPic (x : Pic) : Prop := x.vars.length ≤ maxLen ∧ x.flds.length ≤ maxLen
/-- A variable of type Picture. -/
def XAt (w : World) (b : Nat) (x : Pic) (vs : Option Addr) (vc : Nat) (fs : Option Addr) (fc : Nat) : Prop :=
 (w.cell? ⟨b, 0, none⟩ = some (.bool x.none) ∧ w.cell? ⟨b, 1, none⟩ = some (.slice vs x.vars.length vc) ∧ w.cell? ⟨b, 2, none⟩ = some (.slice fs x.flds.length fc)) ∧ b < w.heap.size ∧ ∀ j, w.frozen? ⟨b, j, none⟩ = false
section
variable {w w' : World} {b : Nat} {x : Pic} {vs fs : Option Addr} {vc fc : Nat}
theorem prf_11cae4 {p : Prop} (h : p := by
 have hc : ∀ j, w'.cell? ⟨b, j, none⟩ = w.cell? ⟨b, j, none⟩ := fun j => World.cell?_of_block (a := ⟨b, j, none⟩) hb
 have hf : ∀ j, w'.frozen? ⟨b, j, none⟩ = w.frozen? ⟨b, j, none⟩ := fun j => World.frozen?_of_block (a := ⟨b, j, none⟩) hb
 obtain ⟨⟨h0, h1, h2⟩, h6, h7⟩ := h
 exact ⟨⟨(hc _).trans h0, (hc _).trans h1, (hc _).trans h2⟩, Nat.lt_of_lt_of_le h6 hz, fun j => (hf j).trans (h7 j)⟩) : p := h
theorem XAt.same (h : XAt w b x vs vc fs fc) (hb : w'.heap[b]? = w.heap[b]?) (hz : w.heap.size ≤ w'.heap.size) : XAt w' b x vs vc fs fc := prf_11cae4
theorem XAt.call (h : XAt w b x vs vc fs fc) (hb : Below w.heap.size w w') : XAt w' b x vs vc fs fc := h.same (hb.block b h.2.1) hb.size
theorem XAt.new (w : World) (x : Pic) (vs : Option Addr) (vc : Nat) (fs : Option Addr) (fc : Nat) : XAt (w.alloc (.cells #[.bool x.none, .slice vs x.vars.length vc, .slice fs x.flds.length fc] 28)) w.heap.size x vs vc fs fc := by
 refine ⟨⟨?_, ?_, ?_⟩, by simp, fun j => ?_⟩ <;> simp [go_sem]
end
end
section
open Go.RowKit Go.ChangeShapes Go.WideShapes Go.Joins Go.Deep

theorem cells_span : Tryz.prog.cellsOf 58 = 3 := by kernel_rfl

section
variable {H : Type} {enc : TypeId × Value → H} {w : World} {base : Nat} {spare : Nat → Bool} {held : Bool}

end
end
section
set_option maxRecDepth 100000
open Go.RowKit Go.ChangeShapes Go.WideShapes Go.Joins Go.Deep

theorem cells_int1 : Tryz.prog.cellsOf 3 = 1 := by kernel_rfl
theorem cells_bool1 : Tryz.prog.cellsOf 4 = 1 := by kernel_rfl
theorem list_three {α : Type} (l : List α) (h : l.length = 3) : ∃ a b c, l = [a, b, c] := by
 match l, h with
 | [a, b, c], _ => exact ⟨a, b, c, rfl⟩

theorem cells_guess : Tryz.prog.cellsOf 61 = 7 := by kernel_rfl
theorem cells_ints : Tryz.prog.cellsOf 59 = 1 := by kernel_rfl
theorem list_seven {α : Type} (l : List α) (h : l.length = 7) : ∃ a b c d e f g, l = [a, b, c, d, e, f, g] := by
 match l, h with
 | [a, b, c, d, e, f, g], _ => exact ⟨a, b, c, d, e, f, g, rfl⟩
theorem list_five {α : Type} (l : List α) (h : l.length = 5) : ∃ a b c d e, l = [a, b, c, d, e] := by
 match l, h with
 | [a, b, c, d, e], _ => exact ⟨a, b, c, d, e, rfl⟩

section
variable {H : Type} {enc : TypeId × Value → H} {w : World} {base : Nat} {spare : Nat → Bool} {held : Bool}

theorem read_span {fuel : Nat} {cs : List Value} {x : DataW H × List MemPlace} (h : DataW.trod enc Tryz.prog w base spare held fuel 58 cs = some x) :
  ∃ i : Sp, cs = [.bool i.n, .int .i64 i.lo, .int .i64 i.hi] := by
 obtain ⟨xs, n, _, _, hl, hx, hf⟩ := DataW.trod_struct Tryz.underlying58 h
 rw [cells_span] at hl
 obtain ⟨c0, c1, c2, rfl⟩ := list_three cs hl
 obtain ⟨y0, y1, y2, rfl⟩ := list_three xs hx
 have g0 := hf 0 _ rfl
 have g1 := hf 1 _ rfl
 have g2 := hf 2 _ rfl
 simp [cells_int1, cells_bool1] at g0 g1 g2
 obtain ⟨a0, e0, _⟩ := DataW.trod_bool Tryz.underlying4 g0
 obtain ⟨a1, e1, _, _⟩ := DataW.trod_int Tryz.underlying3 g1
 obtain ⟨a2, e2, _, _⟩ := DataW.trod_int Tryz.underlying3 g2
 simp at e0 e1 e2
 subst e0 e1 e2
 exact ⟨⟨a0, a1, a2⟩, rfl⟩

/-- A slice of numbers. -/
theorem read_ints {fuel : Nat} {v : Value} {x : DataW H × List MemPlace} (h : DataW.trod enc Tryz.prog w base spare held fuel 59 [v] = some x) :
  ∃ (s : Option Addr) (cap : Nat) (c : List Int), v = .slice s c.length cap ∧ c.length ≤ cap ∧ cap ≤ maxLen ∧ IntsAt w s c := by
 rcases open_slice Tryz.underlying59 h with ⟨hv, _⟩ | ⟨a, len, cap, m, n, D, Pl, hv, hb, hl, hm, hmm, hx, hi⟩
 ·simp at hv
  subst hv
  exact ⟨none, 0, [], rfl, Nat.le_refl _, by unfold maxLen; omega, .inl rfl⟩
 ·simp at hv
  subst hv
  have hlm : len ≤ m := by rw [hmm]; split <;> omega
  have each : ∀ i, i < len → ∃ q : Int, w.cell? (a.add i) = some (.int .i64 q) := by
   intro i hil
   obtain ⟨cs', h1, h2⟩ := hi i (by omega)
   rw [cells_int1] at h1
   obtain ⟨_, _, hcell⟩ := World.cells?_some h1
   obtain ⟨q, e, _, _⟩ := DataW.trod_int Tryz.underlying3 h2
   subst e
   refine ⟨q, ?_⟩
   have := hcell 0 (by omega)
   rw [Deep.add_add] at this
   simpa using this
  have hch : ∃ f : Nat → Int, ∀ i, i < len → w.cell? (a.add i) = some (.int .i64 (f i)) := by
   refine ⟨fun i => if hi : i < len then Classical.choose (each i hi) else 0, fun i hi => ?_⟩
   simp only [dif_pos hi]
   exact Classical.choose_spec (each i hi)
  obtain ⟨f, hf⟩ := hch
  refine ⟨some a, cap, (List.range len).map f, by simp, by simpa using hl, hm, ?_⟩
  by_cases h0 : len = 0
  ·left; subst h0; rfl
  ·right
   have ha := hf 0 (by omega)
   simp [Addr.add] at ha
   obtain ⟨b, off, sp⟩ := a
   have hsp : sp = none := by
    cases sp with
    | none => rfl
    | some z => simp [World.cell?] at ha; split at ha <;> simp_all
   subst hsp
   refine ⟨b, off, rfl, World.block_lt_of_cell? w _ ha, fun k hk => ?_⟩
   have hkl : k < len := by simpa using hk
   have := hf k hkl
   have e : ((List.range len).map f)[k] = f k := by simp
   rw [e]
   have pl : ∀ n, (⟨b, off, none⟩ : Addr).add n = ⟨b, off + n, none⟩ := fun n => by unfold Addr.add; split <;> simp_all
   simpa [pl] using this

theorem read_guess {fuel : Nat} {cs : List Value} {x : DataW H × List MemPlace} (h : DataW.trod enc Tryz.prog w base spare held fuel 61 cs = some x) :
  ∃ (g : Gs) (ss : Option Addr) (gc : Nat), cs = [.bool g.n, .bool g.sp.n, .int .i64 g.sp.lo, .int .i64 g.sp.hi, .bool g.t, .bool g.f, .slice ss g.s.length gc] ∧ g.s.length ≤ gc ∧ gc ≤ maxLen ∧ IntsAt w ss g.s := by
 obtain ⟨xs, n, _, _, hl, hx, hf⟩ := DataW.trod_struct Tryz.underlying61 h
 rw [cells_guess] at hl
 obtain ⟨c0, c1, c2, c3, c4, c5, c6, rfl⟩ := list_seven cs hl
 obtain ⟨y0, y1, y2, y3, y4, rfl⟩ := list_five xs hx
 have g0 := hf 0 _ rfl
 have g1 := hf 1 _ rfl
 have g2 := hf 2 _ rfl
 have g3 := hf 3 _ rfl
 have g4 := hf 4 _ rfl
 simp [cells_int1, cells_bool1, cells_span, cells_ints] at g0 g1 g2 g3 g4
 obtain ⟨a0, e0, _⟩ := DataW.trod_bool Tryz.underlying4 g0
 obtain ⟨sp, e1⟩ := read_span g1
 obtain ⟨a2, e2, _⟩ := DataW.trod_bool Tryz.underlying4 g2
 obtain ⟨a3, e3, _⟩ := DataW.trod_bool Tryz.underlying4 g3
 obtain ⟨ss, gc, l, e4, q1, q2, q3⟩ := read_ints g4
 simp at e0 e1 e2 e3
 obtain ⟨r1, r2, r3⟩ := e1
 subst e0 r1 r2 r3 e2 e3 e4
 exact ⟨⟨a0, sp, a2, a3, l⟩, ss, gc, rfl, q1, q2, q3⟩

end
end
section
set_option maxRecDepth 100000
open Go.RowKit Go.ChangeShapes Go.WideShapes Go.Joins Go.Deep

theorem cellsW_guesses : Tryz.prog.cellsOf 25 = 1 := by kernel_rfl
theorem cellsW_rows : Tryz.prog.cellsOf 26 = 1 := by kernel_rfl
theorem cellsW_picture : Tryz.prog.cellsOf 28 = 3 := by kernel_rfl
section
variable {H : Type} {enc : TypeId × Value → H} {w : World} {base : Nat} {spare : Nat → Bool} {held : Bool}
theorem read_guesses {fuel : Nat} {v : Value} {x : DataW H × List MemPlace} (h : DataW.trod enc Tryz.prog w base spare held fuel 25 [v] = some x) :
  ∃ (s : Option Addr) (cap : Nat) (l : List Gs), v = .slice s l.length cap ∧ l.length ≤ cap ∧ cap ≤ maxLen ∧ GsAt w s l := by
 obtain ⟨s, cap, l, rfl, h1, h2, h3, -⟩ := read_list (n := 7) (by omega) Tryz.underlying25 cells_guess (fun (g : Gs) cs => ∃ (ss : Option Addr) (gc : Nat), cs = [.bool g.n, .bool g.sp.n, .int .i64 g.sp.lo, .int .i64 g.sp.hi, .bool g.t, .bool g.f, .slice ss g.s.length gc] ∧ g.s.length ≤ gc ∧ gc ≤ maxLen ∧ IntsAt w ss g.s) ⟨noneG⟩ (fun fuel cs x h => read_guess h) h
 refine ⟨s, cap, l, rfl, h1, h2, ?_⟩
 rcases h3 with h3 | ⟨b, off, rfl, hb, hc⟩
 ·subst h3
  exact fun i hi => absurd hi (by simp)
 ·intro i hi
  obtain ⟨cs, hc1, ss, gc, rfl, k1, k2, k3⟩ := hc i hi
  exact ⟨b, off, rfl, ss, gc, ⟨⟨hc1 0 (by omega), hc1 1 (by omega), hc1 2 (by omega), hc1 3 (by omega), hc1 4 (by omega), hc1 5 (by omega), hc1 6 (by omega)⟩, hb⟩, k3, k1, k2⟩
theorem read_rows {fuel : Nat} {v : Value} {x : DataW H × List MemPlace} (h : DataW.trod enc Tryz.prog w base spare held fuel 26 [v] = some x) :
  ∃ (s : Option Addr) (cap : Nat) (l : List (List Gs)), v = .slice s l.length cap ∧ l.length ≤ cap ∧ cap ≤ maxLen ∧ RowsAt w s l := by
 obtain ⟨s, cap, l, rfl, h1, h2, h3, -⟩ := read_list (n := 1) (by omega) Tryz.underlying26 cellsW_guesses (fun (r : List Gs) cs => ∃ (rs : Option Addr) (rc : Nat), cs = [.slice rs r.length rc] ∧ r.length ≤ rc ∧ rc ≤ maxLen ∧ GsAt w rs r) ⟨[]⟩ (fun fuel cs x h => by
  have hl : cs.length = 1 := by
   rcases open_slice Tryz.underlying25 h with ⟨hv, _⟩ | ⟨a, len, cap, m, n', D, Pl, hv, _⟩
   ·rw [hv]; rfl
   ·rw [hv]; rfl
  obtain ⟨v, rfl⟩ : ∃ v, cs = [v] := by
   match cs, hl with
   | [v], _ => exact ⟨v, rfl⟩
  obtain ⟨s, cap, l, rfl, k1, k2, k3⟩ := read_guesses h
  exact ⟨l, s, cap, rfl, k1, k2, k3⟩) h
 refine ⟨s, cap, l, rfl, h1, h2, ?_⟩
 rcases h3 with h3 | ⟨b, off, rfl, hb, hc⟩
 ·subst h3
  exact fun i hi => absurd hi (by simp)
 ·intro i hi
  obtain ⟨cs, hc1, rs, rc, rfl, k1, k2, k3⟩ := hc i hi
  have h0 := hc1 0 (by omega)
  rw [Nat.mul_one] at h0
  exact ⟨b, off, rfl, hb, rs, rc, h0, k1, k2, k3⟩
theorem read_picture {fuel : Nat} {cs : List Value} {x : DataW H × List MemPlace} (h : DataW.trod enc Tryz.prog w base spare held fuel 28 cs = some x) :
  ∃ (q : Pic) (vs : Option Addr) (vc : Nat) (fs : Option Addr) (fc : Nat), cs = [.bool q.none, .slice vs q.vars.length vc, .slice fs q.flds.length fc] ∧ (q.vars.length ≤ vc ∧ vc ≤ maxLen) ∧ (q.flds.length ≤ fc ∧ fc ≤ maxLen) ∧ PicAt w q vs fs := by
 obtain ⟨xs, n, _, _, hl, hx, hf⟩ := DataW.trod_struct Tryz.underlying28 h
 rw [cellsW_picture] at hl
 obtain ⟨c0, c1, c2, rfl⟩ := list_three cs hl
 obtain ⟨y0, y1, y2, rfl⟩ := list_three xs hx
 have g0 := hf 0 _ rfl
 have g1 := hf 1 _ rfl
 have g2 := hf 2 _ rfl
 simp [cells_bool1, cellsW_guesses, cellsW_rows] at g0 g1 g2
 obtain ⟨a0, e0, _⟩ := DataW.trod_bool Tryz.underlying4 g0
 obtain ⟨vs, vc, l1, e1, k1, m1, p1⟩ := read_guesses g1
 obtain ⟨fs, fc, l2, e2, k2, m2, p2⟩ := read_rows g2
 simp at e0
 subst e0 e1 e2
 exact ⟨⟨a0, l1, l2⟩, vs, vc, fs, fc, rfl, ⟨k1, m1⟩, ⟨k2, m2⟩, p1, p2⟩
/-- A picture that is handed in. -/
theorem open_picture {r : Reach} {b0 : Nat} {v : Value} {d : DataW H} {p : List MemPlace} (hv : Value.okWide Tryz.prog w r b0 28 v) (h : DataW.Trod enc Tryz.prog w base spare held 28 v d p) :
  ∃ (q : Pic) (vs : Option Addr) (vc : Nat) (fs : Option Addr) (fc : Nat), v = xv q vs vc fs fc ∧ (q.vars.length ≤ vc ∧ vc ≤ maxLen) ∧ (q.flds.length ≤ fc ∧ fc ≤ maxLen) ∧ PicAt w q vs fs := by
 obtain ⟨cs, rfl, hsz⟩ := okWide_struct Tryz.underlying28 hv
 obtain ⟨fuel, hf⟩ := h
 obtain ⟨q, vs, vc, fs, fc, e, k⟩ := read_picture (by simpa [Value.cells] using hf)
 refine ⟨q, vs, vc, fs, fc, ?_, k⟩
 have : cs = #[.bool q.none, .slice vs q.vars.length vc, .slice fs q.flds.length fc] := by
  cases cs; simp_all
 rw [this]
end
end
section
open Go.RowKit

section
variable {w w' : World} {B : Nat} {v v' : Value} {l l2 : List Gc}
/-- What is read is a row of cells. -/
theorem GsAt.gcs {ls : Option Addr} {L : List Gs} (h : GsAt w ls L) : ∃ l : List Gc, l.map Gc.g = L ∧ (∀ ad, ls = some ad → ∀ j u, (rowCells l)[j]? = some u → w.cell? (ad.add j) = some u) ∧ (ls = none → l = []) ∧ ∀ y ∈ l, GcIn (fun b => b < w.heap.size) w y := by
 have h1 : ∀ i, i < L.length → ∃ x : Gc, ∃ b off, ls = some ⟨b, off, none⟩ ∧ (x.g = L.getD i noneG) ∧ (∀ j, j < 7 → w.cell? ⟨b, off + i * 7 + j, none⟩ = (gcCells x)[j]?) ∧ GcIn (fun b => b < w.heap.size) w x := by
  intro i hi
  obtain ⟨b, off, e, ss, cap, ⟨⟨c0, c1, c2, c3, c4, c5, c6⟩, hz⟩, hI, k1, k2⟩ := h i hi
  have eg : L.getD i noneG = L[i] := by simp [List.getD, hi]
  refine ⟨⟨L[i], ss, cap⟩, b, off, e, eg.symm, fun j hj => ?_, hI.inAll, k1, k2⟩
  match j, hj with
  | 0, _ => exact c0
  | 1, _ => exact c1
  | 2, _ => exact c2
  | 3, _ => exact c3
  | 4, _ => exact c4
  | 5, _ => exact c5
  | 6, _ => exact c6
  | j + 7, hj => omega
 have h2 : ∃ f : Nat → Gc, ∀ i, i < L.length → ∃ b off, ls = some ⟨b, off, none⟩ ∧ ((f i).g = L.getD i noneG) ∧ (∀ j, j < 7 → w.cell? ⟨b, off + i * 7 + j, none⟩ = (gcCells (f i))[j]?) ∧ GcIn (fun b => b < w.heap.size) w (f i) := by
  refine ⟨fun i => if hi : i < L.length then Classical.choose (h1 i hi) else ⟨noneG, none, 0⟩, fun i hi => ?_⟩
  simp only [dif_pos hi]
  exact Classical.choose_spec (h1 i hi)
 obtain ⟨f, hf⟩ := h2
 refine ⟨(List.range L.length).map f, ?_, ?_, ?_, ?_⟩
 ·refine List.ext_getElem (by simp) fun i hi1 hi2 => ?_
  obtain ⟨_, _, _, e, _⟩ := hf i hi2
  simp only [List.getElem_map, List.getElem_range]
  rw [e]
  simp [List.getD, hi2]
 ·intro ad had j u hju
  have hj : j < L.length * 7 := by
   have := (List.getElem?_eq_some_iff.1 hju).1
   rw [rowCells_len] at this
   simpa using this
  have e1 : j = j / 7 * 7 + j % 7 := by omega
  have hi : j / 7 < L.length := by omega
  rw [e1] at hju
  rw [rowCells_get _ (j / 7) (by simpa using hi) (j % 7) (by omega)] at hju
  obtain ⟨b, off, e, _, hc, _⟩ := hf (j / 7) hi
  rw [had] at e
  cases e
  have := hc (j % 7) (by omega)
  rw [Addr.add_lit]
  have e2 : off + j = off + j / 7 * 7 + j % 7 := by omega
  rw [e2, this]
  simpa using hju
 ·intro h0
  cases L with
  | nil => rfl
  | cons a r =>
   obtain ⟨_, _, e, _⟩ := hf 0 (by simp)
   rw [h0] at e
   cases e
 ·intro y hy
  rw [List.mem_map] at hy
  obtain ⟨i, hi, rfl⟩ := hy
  obtain ⟨_, _, _, _, _, hx⟩ := hf i (by simpa using hi)
  exact hx

/-- A row of guesses in memory of its own (from block B on), its sites in older memory. -/
def CRow (w : World) (B : Nat) (v : Value) (l : List Gc) : Prop := w.ownsRow B 61 7 v l.length (rowCells l) ∧ ∀ x ∈ l, GcIn (fun b => b < B) w x
theorem CRow.grown (h : CRow w B v l) (hx : ∀ x ∈ l2, GcIn (fun b => b < B) w x) (hr : w'.ownsRow B 61 7 v' (l.length + l2.length) (rowCells l ++ rowCells l2)) (hg : w.grownBy w' v.ownBlock) : CRow w' B v' (l ++ l2) := by
 refine ⟨by rw [List.length_append, rowCells_append]; exact hr, fun y hy => ?_⟩
 have hy' : GcIn (fun b => b < B) w y := by
  rcases List.mem_append.1 hy with hy | hy
  ·exact h.2 y hy
  ·exact hx y hy
 exact ⟨hy'.1.same (fun b hS hb => hg.block b hb (fun e => by have := (ownsI_lt h.1 e.symm).2; omega)) hg.size, hy'.2⟩
theorem CRow.at (h : CRow w B v l) : ∃ rs rc, v = .slice rs l.length rc ∧ l.length ≤ rc ∧ rc ≤ maxLen ∧ GsAt w rs (l.map Gc.g) ∧ ∀ a, rs = some a → B ≤ a.block := by
 refine GRow.at (B := B) ⟨h.1, fun x hx => ⟨(h.2 x hx).1.mono fun b hb _ e => ?_, (h.2 x hx).2⟩⟩
 have := (ownsI_lt h.1 e).2
 omega
end
theorem rowCells_one (l : List Gc) : ∀ u ∈ rowCells l, u.oneCell' = true := by
 intro u hu
 unfold rowCells at hu
 rw [List.mem_flatMap] at hu
 obtain ⟨x, -, hx⟩ := hu
 exact gcCells_one x u hx
/-- .. also in a later world. -/
theorem GsAt.gcsTo {w w' : World} {ls : Option Addr} {L : List Gs} (h : GsAt w ls L) (hb : Below w.heap.size w w') : ∃ l : List Gc, l.map Gc.g = L ∧ (∀ ad, ls = some ad → ∀ j u, (rowCells l)[j]? = some u → w'.cell? (ad.add j) = some u) ∧ (ls = none → L.length = 0) ∧ (∀ y ∈ l, GcIn (fun b => b < w.heap.size) w' y) ∧ (rowCells l).length = L.length * 7 := by
 obtain ⟨l, e, h1, h2, h3⟩ := h.gcs
 refine ⟨l, e, fun ad ha j u hj => ?_, fun h0 => by rw [← e, h2 h0]; rfl, fun y hy => ⟨(h3 y hy).1.call hb, (h3 y hy).2⟩, by rw [rowCells_len, ← e, List.length_map]⟩
 have := h1 ad ha j u hj
 rw [hb.cell (World.block_lt_of_cell? w _ this)]
 exact this
theorem strayAt_step (c : List Ins) (p : Gs → Bool) (L : List (List Gs)) (k : Nat) (h : k < L.length) : strayAt c p k (L.drop k) = ((!isSite c k && L[k].any p) || strayAt c p (k + 1) (L.drop (k + 1))) := by
 rw [List.drop_eq_getElem_cons h]
 rfl
theorem any_drop_stepJ {α : Type} (l : List α) (p : α → Bool) (k : Nat) (h : k < l.length) : (l.drop k).any p = (p l[k] || (l.drop (k + 1)).any p) := by
 rw [List.drop_eq_getElem_cons h]
 rfl
theorem Tryz.info_guess : (Tryz.prog.info? 61).map (fun i => (i.zero, i.size, i.bytes)) = some (some (.agg #[.bool false, .bool false, .int .i64 0, .int .i64 0, .bool false, .bool false, .slice none 0 0]), 7, 64) := by kernel_rfl
/-- As many as rows of one length have. -/
theorem flat_len {α : Type} {n : Nat} : ∀ {L : List (List α)}, (∀ r ∈ L, r.length = n) → L.flatten.length = L.length * n
 | [], _ => by simp
 | r :: L, h => by
  rw [List.flatten_cons, List.length_append, h r List.mem_cons_self, flat_len fun r' hr' => h r' (List.mem_cons_of_mem _ hr'), List.length_cons, Nat.add_mul]
  omega
theorem flat_take {α : Type} (L : List (List α)) (k : Nat) (h : k < L.length) : (L.take (k + 1)).flatten = (L.take k).flatten ++ L[k] := by
 rw [List.take_succ_eq_append_getElem h, List.flatten_append]
 simp
end
section
set_option maxRecDepth 100000
open Go.RowKit

/-- A list of guesses behind a slice's address, in blocks of which S is true. -/
def GsIn (S : Nat → Prop) (w : World) (ls : Option Addr) (L : List Gs) : Prop :=
 ∀ i (h : i < L.length), ∃ b off, ls = some ⟨b, off, none⟩ ∧ S b ∧ ∃ ss cap, GuAt w b (off + i * 7) L[i] ss cap ∧ IntsIn S w ss L[i].s ∧ L[i].s.length ≤ cap ∧ cap ≤ maxLen
section
variable {S S' : Nat → Prop} {w w' : World} {ls : Option Addr} {L : List Gs} {B z : Nat} {v v' : Value} {l : List Gc}
theorem GsIn.at (h : GsIn S w ls L) : GsAt w ls L := by
 intro i hi
 obtain ⟨b, off, e, _, ss, cap, h1, h2, h3⟩ := h i hi
 exact ⟨b, off, e, ss, cap, h1, h2.at, h3⟩
theorem GsAt.inAll (h : GsAt w ls L) : GsIn (fun b => b < w.heap.size) w ls L := by
 intro i hi
 obtain ⟨b, off, e, ss, cap, h1, h2, h3⟩ := h i hi
 exact ⟨b, off, e, h1.2, ss, cap, h1, h2.inAll, h3⟩
theorem GuAt.same {b o : Nat} {g : Gs} {ss : Option Addr} {cap : Nat} (h : GuAt w b o g ss cap) (hb : w'.heap[b]? = w.heap[b]?) (hz : w.heap.size ≤ w'.heap.size) : GuAt w' b o g ss cap := by
 obtain ⟨⟨h0, h1, h2, h3, h4, h5, h6⟩, h7⟩ := h
 have hc : ∀ j, w'.cell? ⟨b, j, none⟩ = w.cell? ⟨b, j, none⟩ := fun j => World.cell?_of_block (a := ⟨b, j, none⟩) hb
 exact ⟨⟨(hc _).trans h0, (hc _).trans h1, (hc _).trans h2, (hc _).trans h3, (hc _).trans h4, (hc _).trans h5, (hc _).trans h6⟩, Nat.lt_of_lt_of_le h7 hz⟩
theorem GsIn.same (h : GsIn S w ls L) (hs : ∀ b, S b → b < w.heap.size → w'.heap[b]? = w.heap[b]?) (hz : w.heap.size ≤ w'.heap.size) : GsIn S w' ls L := by
 intro i hi
 obtain ⟨b, off, e, hS, ss, cap, h1, h2, h3⟩ := h i hi
 exact ⟨b, off, e, hS, ss, cap, h1.same (hs b hS h1.2) hz, h2.same hs hz, h3⟩
theorem GsIn.mono (h : GsIn S w ls L) (hs : ∀ b, S b → b < w.heap.size → S' b) : GsIn S' w ls L := by
 intro i hi
 obtain ⟨b, off, e, hS, ss, cap, h1, h2, h3⟩ := h i hi
 exact ⟨b, off, e, hs b hS h1.2, ss, cap, h1, h2.mono hs, h3⟩
theorem GsIn.call (h : GsIn S w ls L) (hb : Below w.heap.size w w') : GsIn S w' ls L := h.same (fun b _ hlt => hb.block b hlt) hb.size

/-- A row of guesses in memory of its own from block B on, their sites too, away from the row's block. -/
def SRow (w : World) (B : Nat) (v : Value) (l : List Gc) : Prop := w.ownsRow B 61 7 v l.length (rowCells l) ∧ ∀ x ∈ l, GcIn (fun b => B ≤ b ∧ v.ownBlock ≠ some b) w x
theorem SRow.nil (w : World) (B : Nat) : SRow w B (.slice none 0 0) [] := ⟨⟨rfl, .inl ⟨rfl, rfl⟩⟩, fun x hx => by simp at hx⟩
theorem SRow.call (h : SRow w B v l) (hb : Below w.heap.size w w') : SRow w' B v l := ⟨ownsI_call h.1 hb, fun x hx => ⟨(h.2 x hx).1.call hb, (h.2 x hx).2⟩⟩
/-- .. where only older blocks have turned. -/
theorem SRow.old (h : SRow w B v l) (hs : ∀ b, B ≤ b → w'.heap[b]? = w.heap[b]?) (hz : w.heap.size ≤ w'.heap.size) : SRow w' B v l := ⟨ownsI_same h.1 fun k hk => hs k (ownsI_lt h.1 hk).2, fun x hx => ⟨(h.2 x hx).1.same (fun b hS _ => hs b hS.1) hz, (h.2 x hx).2⟩⟩
theorem prf_3b75e9 {p : Prop} (h : p := by
 refine ⟨(hm.same (fun b hS hb => hg.block b hb (fun e => hS.1.2 e.symm)) hg.size).mono fun b hb _ => ⟨hb.1.1, ?_⟩, hy'.2⟩
 rcases hv with hv | hv
 ·rw [hv]; exact hb.1.2
 ·rw [hv]
  intro e
  cases e
  exact absurd hb.2 (Nat.lt_irrefl _)) : p := h
theorem SRow.grown (h : SRow w B v l) {x : Gc} (hx : GcIn (fun b => B ≤ b ∧ v.ownBlock ≠ some b) w x) (hr : w'.ownsRow B 61 7 v' (l.length + 1) (rowCells l ++ gcCells x)) (hg : w.grownBy w' v.ownBlock) (hv : v'.ownBlock = v.ownBlock ∨ v'.ownBlock = some w.heap.size) : SRow w' B v' (l ++ [x]) := by
 refine ⟨by rw [List.length_append, rowCells_append]; simpa [rowCells] using hr, fun y hy => ?_⟩
 have hy' : GcIn (fun b => B ≤ b ∧ v.ownBlock ≠ some b) w y := by
  rcases List.mem_append.1 hy with hy | hy
  ·exact h.2 y hy
  ·rw [List.mem_singleton.1 hy]; exact hx
 have hm : IntsIn (fun b => (B ≤ b ∧ v.ownBlock ≠ some b) ∧ b < w.heap.size) w y.ss y.g.s := hy'.1.mono fun b h1 h2 => ⟨h1, h2⟩
 exact prf_3b75e9
theorem SRow.in (h : SRow w B v l) : ∃ rs rc, v = .slice rs l.length rc ∧ l.length ≤ rc ∧ rc ≤ maxLen ∧ GsIn (fun b => B ≤ b) w rs (l.map Gc.g) := by
 obtain ⟨h1, h2⟩ := h
 rcases h1.2 with ⟨rfl, h0⟩ | ⟨g, cap, cur, rfl, hb, hg, k1, k2, k3, k4⟩
 ·have : l = [] := List.length_eq_zero_iff.1 h0
  subst this
  exact ⟨none, 0, rfl, Nat.le_refl _, by unfold maxLen; omega, fun i hi => absurd hi (by simp)⟩
 ·refine ⟨some ⟨g, 0, none⟩, cap, rfl, k1, k2, fun i hi => ?_⟩
  have hil : i < l.length := by simpa using hi
  have e : (l.map Gc.g)[i] = l[i].g := by simp
  rw [e]
  have hx := h2 l[i] (List.getElem_mem hil)
  refine ⟨g, 0, rfl, hb, l[i].ss, l[i].cap, ⟨?_, (Array.getElem?_eq_some_iff.1 hg).1⟩, hx.1.mono fun b h _ => h.1, hx.2.1, hx.2.2⟩
  have hc : ∀ j, j < 7 → w.cell? ⟨g, i * 7 + j, none⟩ = (gcCells l[i])[j]? := fun j hj => by
   have := h1.cellAt (i * 7 + j) (by omega)
   rw [← rowCells_get l i hil j hj]
   exact this
  simp only [Nat.zero_add]
  exact ⟨hc 0 (by omega), hc 1 (by omega), hc 2 (by omega), hc 3 (by omega), hc 4 (by omega), hc 5 (by omega), hc 6 (by omega)⟩
end

/-- A row of guesses, as a field's row holds it. -/
structure Rw where
 rs : Option Addr
 rc : Nat
 l : List Gs
def rwV (x : Rw) : Value := .slice x.rs x.l.length x.rc
def RwIn (S : Nat → Prop) (w : World) (x : Rw) : Prop := GsIn S w x.rs x.l ∧ x.l.length ≤ x.rc ∧ x.rc ≤ maxLen
/-- A row of rows in memory of its own from block B on, the rows too, away from its block. -/
def FRow (w : World) (B : Nat) (v : Value) (L : List Rw) : Prop := w.ownsRow B 25 1 v L.length (L.map rwV) ∧ ∀ x ∈ L, RwIn (fun b => B ≤ b ∧ v.ownBlock ≠ some b) w x
section
variable {w w' : World} {B : Nat} {v v' : Value} {L : List Rw}
theorem FRow.nil (w : World) (B : Nat) : FRow w B (.slice none 0 0) [] := ⟨⟨rfl, .inl ⟨rfl, rfl⟩⟩, fun x hx => by simp at hx⟩
theorem FRow.call (h : FRow w B v L) (hb : Below w.heap.size w w') : FRow w' B v L := ⟨ownsI_call h.1 hb, fun x hx => ⟨(h.2 x hx).1.call hb, (h.2 x hx).2⟩⟩
theorem FRow.old (h : FRow w B v L) (hs : ∀ b, B ≤ b → w'.heap[b]? = w.heap[b]?) (hz : w.heap.size ≤ w'.heap.size) : FRow w' B v L := ⟨ownsI_same h.1 fun k hk => hs k (ownsI_lt h.1 hk).2, fun x hx => ⟨(h.2 x hx).1.same (fun b hS _ => hs b hS.1) hz, (h.2 x hx).2⟩⟩
theorem FRow.grown (h : FRow w B v L) {x : Rw} (hx : RwIn (fun b => B ≤ b ∧ v.ownBlock ≠ some b) w x) (hr : w'.ownsRow B 25 1 v' (L.length + 1) (L.map rwV ++ [rwV x])) (hg : w.grownBy w' v.ownBlock) (hv : v'.ownBlock = v.ownBlock ∨ v'.ownBlock = some w.heap.size) : FRow w' B v' (L ++ [x]) := by
 refine ⟨by rw [List.length_append, List.map_append]; exact hr, fun y hy => ?_⟩
 have hy' : RwIn (fun b => B ≤ b ∧ v.ownBlock ≠ some b) w y := by
  rcases List.mem_append.1 hy with hy | hy
  ·exact h.2 y hy
  ·rw [List.mem_singleton.1 hy]; exact hx
 have hm : GsIn (fun b => (B ≤ b ∧ v.ownBlock ≠ some b) ∧ b < w.heap.size) w y.rs y.l := hy'.1.mono fun b h1 h2 => ⟨h1, h2⟩
 exact prf_3b75e9
theorem FRow.rows (h : FRow w B v L) : ∃ fs fc, v = .slice fs L.length fc ∧ L.length ≤ fc ∧ fc ≤ maxLen ∧ RowsAt w fs (L.map Rw.l) := by
 obtain ⟨h1, h2⟩ := h
 rcases h1.2 with ⟨rfl, h0⟩ | ⟨g, cap, cur, rfl, hb, hg, k1, k2, k3, k4⟩
 ·have : L = [] := List.length_eq_zero_iff.1 h0
  subst this
  exact ⟨none, 0, rfl, Nat.le_refl _, by unfold maxLen; omega, fun i hi => absurd hi (by simp)⟩
 ·refine ⟨some ⟨g, 0, none⟩, cap, rfl, k1, k2, fun i hi => ?_⟩
  have hil : i < L.length := by simpa using hi
  have e : (L.map Rw.l)[i] = L[i].l := by simp
  rw [e]
  have hx := h2 L[i] (List.getElem_mem hil)
  have := h1.cellAt i (by omega)
  refine ⟨g, 0, rfl, (Array.getElem?_eq_some_iff.1 hg).1, L[i].rs, L[i].rc, ?_, hx.2.1, hx.2.2, hx.1.at⟩
  rw [Nat.zero_add, this]
  simp [hil, rwV]
end
/-- Three cells in a block: a variable of type Picture. -/
def X3 (w : World) (b : Nat) (x0 x1 x2 : Value) : Prop := (w.cell? ⟨b, 0, none⟩ = some x0 ∧ w.cell? ⟨b, 1, none⟩ = some x1 ∧ w.cell? ⟨b, 2, none⟩ = some x2) ∧ b < w.heap.size ∧ ∀ j, w.frozen? ⟨b, j, none⟩ = false
section
variable {w w' : World} {b : Nat} {x0 x1 x2 : Value}
theorem X3.same (h : X3 w b x0 x1 x2) (hb : w'.heap[b]? = w.heap[b]?) (hz : w.heap.size ≤ w'.heap.size) : X3 w' b x0 x1 x2 := prf_11cae4
theorem X3.call (h : X3 w b x0 x1 x2) (hb : Below w.heap.size w w') : X3 w' b x0 x1 x2 := h.same (hb.block b h.2.1) hb.size
theorem X3.far (h : X3 w b x0 x1 x2) {a : Addr} (ha : b ≠ a.block) (y : Value) : X3 (w.setCell a y) b x0 x1 x2 := h.same (Below.heap_setCell _ _ _ _ ha) (by simp [World.setCell])
theorem X3.new (w : World) (t : TypeId) (x0 x1 x2 : Value) : X3 (w.alloc (.cells #[x0, x1, x2] t)) w.heap.size x0 x1 x2 := by
 refine ⟨⟨?_, ?_, ?_⟩, by simp, fun j => ?_⟩ <;> simp [go_sem]
theorem X3.put1 (h : X3 w b x0 x1 x2) (y : Value) : X3 (w.setCell ⟨b, 1, none⟩ y) b x0 y x2 := by
 obtain ⟨⟨h0, h1, h2⟩, h6, h7⟩ := h
 exact ⟨⟨by rw [World.cell?_setCell_other _ _ _ _ (by intro e; cases e)]; exact h0, World.cell?_setCell_same _ _ _ h1, by rw [World.cell?_setCell_other _ _ _ _ (by intro e; cases e)]; exact h2⟩, by simpa [World.setCell] using h6, fun j => by rw [World.frozen?_setCell]; exact h7 j⟩
theorem X3.put2 (h : X3 w b x0 x1 x2) (y : Value) : X3 (w.setCell ⟨b, 2, none⟩ y) b x0 x1 y := by
 obtain ⟨⟨h0, h1, h2⟩, h6, h7⟩ := h
 exact ⟨⟨by rw [World.cell?_setCell_other _ _ _ _ (by intro e; cases e)]; exact h0, by rw [World.cell?_setCell_other _ _ _ _ (by intro e; cases e)]; exact h1, World.cell?_setCell_same _ _ _ h2⟩, by simpa [World.setCell] using h6, fun j => by rw [World.frozen?_setCell]; exact h7 j⟩
end
theorem PrAt.low {w w' : World} {B b : Nat} {V F : Int} {s : Option Addr} {c : List Ins} {cap : Nat} (h : PrAt w b V F s c cap) (hb : Below B w w') (hB : b < B) : PrAt w' b V F s c cap := by
 obtain ⟨⟨h0, h1, h2⟩, hz⟩ := h
 exact ⟨⟨by rw [hb.cell hB]; exact h0, by rw [hb.cell hB]; exact h1, by rw [hb.cell hB]; exact h2⟩, Nat.lt_of_lt_of_le hz hb.size⟩
theorem PrAt.far {w : World} {b : Nat} {V F : Int} {s : Option Addr} {c : List Ins} {cap : Nat} (h : PrAt w b V F s c cap) {a : Addr} (ha : b ≠ a.block) (y : Value) : PrAt (w.setCell a y) b V F s c cap := by
 have hc : ∀ j, (w.setCell a y).cell? ⟨b, j, none⟩ = w.cell? ⟨b, j, none⟩ := fun j => World.cell?_of_block (a := ⟨b, j, none⟩) (Below.heap_setCell _ _ _ _ ha)
 obtain ⟨⟨h0, h1, h2⟩, hz⟩ := h
 exact ⟨⟨(hc _).trans h0, (hc _).trans h1, (hc _).trans h2⟩, by simpa [World.setCell] using hz⟩
/-- One guess in a block of its own, as what is appended. -/
theorem news7 (w : World) (x : Gc) (cs : Array Value) (t : TypeId) (hcs : cs.toList = gcCells x) : ∀ ad, some (⟨w.heap.size, 0, none⟩ : Addr) = some ad → ∀ j u, (gcCells x)[j]? = some u → (w.alloc (.cells cs t)).cell? (ad.add j) = some u := by
 intro ad e j u hj
 cases e
 rw [Addr.add_lit, Nat.zero_add]
 rw [← hcs] at hj
 simpa [go_sem] using hj
theorem news1 (w : World) (x : Value) (t : TypeId) : ∀ ad, some (⟨w.heap.size, 0, none⟩ : Addr) = some ad → ∀ j u, ([x] : List Value)[j]? = some u → (w.alloc (.cells #[x] t)).cell? (ad.add j) = some u := by
 intro ad e j u hj
 cases e
 rw [Addr.add_lit, Nat.zero_add]
 simpa [go_sem] using hj
theorem Tryz.info_row : (Tryz.prog.info? 25).map (fun i => (i.zero, i.size, i.bytes)) = some (some (.slice none 0 0), 1, 24) := by kernel_rfl
theorem GuAt.low {w w' : World} {B b o : Nat} {g : Gs} {ss : Option Addr} {cap : Nat} (h : GuAt w b o g ss cap) (hb : Below B w w') (hB : b < B) : GuAt w' b o g ss cap := h.same (hb.block b hB) hb.size
theorem gs_low {w : World} {b off : Nat} {L : List Gs} (h : GsAt w (some ⟨b, off, none⟩) L) (k : Nat) (hk : k < L.length) : b < w.heap.size := by
 obtain ⟨b', off', e, ss, cap, h1, _⟩ := h k hk
 cases e
 exact h1.2
/-- .. beside an errno. -/
def PicE (w' : World) (e : Ending) (x : Pic) (er : Int) : Prop := ∃ vs vc fs fc, e = .returned (.tuple #[.agg #[.bool x.none, .slice vs x.vars.length vc, .slice fs x.flds.length fc], .int .i64 er]) ∧ PicAt w' x vs fs ∧ (x.vars.length ≤ vc ∧ vc ≤ maxLen) ∧ (x.flds.length ≤ fc ∧ fc ≤ maxLen)
end
section
open Go.RowKit
theorem FRow.olden {w w' : World} {B : Nat} {v : Value} {L : List Rw} (h : FRow w B v L) (hs : ∀ b, B ≤ b → b < w.heap.size → w'.heap[b]? = w.heap[b]?) (hz : w.heap.size ≤ w'.heap.size) : FRow w' B v L := ⟨ownsI_same h.1 fun k hk => hs k (ownsI_lt h.1 hk).2 (ownsI_lt h.1 hk).1, fun x hx => ⟨(h.2 x hx).1.same (fun b hS hlt => hs b hS.1 hlt) hz, (h.2 x hx).2⟩⟩
/-- A picture that lies where S is true of the block. -/
def PicOn (S : Nat → Prop) (w : World) (x : Pic) (vs fs : Option Addr) : Prop := ∀ w2 : World, (∀ b, S b → b < w.heap.size → w2.heap[b]? = w.heap[b]?) → w.heap.size ≤ w2.heap.size → PicAt w2 x vs fs
section
variable {S S' : Nat → Prop} {w w' : World} {x : Pic} {vs fs : Option Addr}
theorem PicOn.at (h : PicOn S w x vs fs) : PicAt w x vs fs := h w (fun _ _ _ => rfl) (Nat.le_refl _)
theorem PicOn.same (h : PicOn S w x vs fs) (hs : ∀ b, S b → b < w.heap.size → w'.heap[b]? = w.heap[b]?) (hz : w.heap.size ≤ w'.heap.size) : PicOn (fun b => S b ∧ b < w.heap.size) w' x vs fs := fun w2 h2 hz2 => h w2 (fun b hb hlt => by rw [h2 b ⟨hb, hlt⟩ (by omega), hs b hb hlt]) (Nat.le_trans hz hz2)
theorem PicOn.mono (h : PicOn S w x vs fs) (hs : ∀ b, S b → b < w.heap.size → S' b) : PicOn S' w x vs fs := fun w2 h2 hz2 => h w2 (fun b hb hlt => h2 b (hs b hb hlt) hlt) hz2
theorem PicAt.same (h : PicAt w x vs fs) (hs : ∀ b, b < w.heap.size → w'.heap[b]? = w.heap[b]?) (hz : w.heap.size ≤ w'.heap.size) : PicAt w' x vs fs := by
 refine ⟨(h.1.inAll.same (fun b _ hb => hs b hb) hz).at, fun i hi => ?_⟩
 obtain ⟨b, off, e, hb, rs, rc, h1, h2, h3, h4⟩ := h.2 i hi
 exact ⟨b, off, e, Nat.lt_of_lt_of_le hb hz, rs, rc, by rw [World.cell?_of_block (a := ⟨b, off + i, none⟩) (hs b hb)]; exact h1, h2, h3, (h4.inAll.same (fun b _ hb => hs b hb) hz).at⟩
end
end
section
open Go.RowKit
/-- A row of guesses, and where it lies. -/
structure Ro where
  rs : Option Addr
  rc : Nat
  l : List Gc
def roV (r : Ro) : Value := .slice r.rs r.l.length r.rc
def roG (r : Ro) : List Gs := r.l.map Gc.g
def roB (r : Ro) : Option Nat := (roV r).ownBlock
/-- A row of guesses in a block of its own, from block B on. -/
def RoOwn (w : World) (B : Nat) (r : Ro) : Prop := w.ownsRow B 61 7 (roV r) r.l.length (rowCells r.l)
theorem rowCells_set : ∀ {l : List Gc} {k j : Nat} {u : Value} {x' : Gc} (hk : k < l.length) (_ : j < 7) (_ : gcCells x' = (gcCells l[k]).set j u), rowCells (l.set k x') = (rowCells l).set (k * 7 + j) u
  | [], k, _, _, _, hk, _, _ => absurd hk (by simp)
  | x :: r, 0, j, u, x', _, hj, h => by
    have e : ∀ y, rowCells (y :: r) = gcCells y ++ rowCells r := fun _ => rfl
    simp only [List.getElem_cons_zero] at h
    rw [List.set_cons_zero, e, e, Nat.zero_mul, Nat.zero_add, List.set_append_left _ _ (by rw [gcCells_len]; exact hj), h]
  | x :: r, k + 1, j, u, x', hk, hj, h => by
    have e : ∀ (y : Gc) (q : List Gc), rowCells (y :: q) = gcCells y ++ rowCells q := fun _ _ => rfl
    simp only [List.getElem_cons_succ] at h
    rw [List.set_cons_succ, e, e, rowCells_set (by simpa using hk) hj h, List.set_append_right _ _ (by rw [gcCells_len]; omega), gcCells_len]
    congr 2
    omega
section
variable {w w' : World} {B : Nat} {r : Ro}
theorem RoOwn.form (h : RoOwn w B r) (h0 : 0 < r.l.length) : ∃ b, r.rs = some ⟨b, 0, none⟩ ∧ roB r = some b ∧ B ≤ b ∧ b < w.heap.size := by
  obtain ⟨rs, rc, l⟩ := r
  rcases h.2 with ⟨e, h1⟩ | ⟨g, cap, cur, e, hb, hg, _⟩
  · simp only at h0 h1; omega
  · simp only [roV, Value.slice.injEq] at e
    exact ⟨g, e.1, by unfold roB roV; rw [e.1]; rfl, hb, (Array.getElem?_eq_some_iff.1 hg).1⟩
theorem RoOwn.caps (h : RoOwn w B r) : r.l.length ≤ r.rc ∧ r.rc ≤ maxLen := by
  rcases h.2 with ⟨e, h1⟩ | ⟨g, cap, cur, e, hb, hg, k1, k2, _⟩
  · simp only [roV, Value.slice.injEq] at e
    exact ⟨by omega, by rw [e.2.2]; exact Nat.zero_le _⟩
  · simp only [roV, Value.slice.injEq] at e
    rw [e.2.2]
    exact ⟨k1, k2⟩
theorem RoOwn.same (h : RoOwn w B r) (hs : ∀ b, roB r = some b → w'.heap[b]? = w.heap[b]?) : RoOwn w' B r := ownsI_same h hs
theorem RoOwn.lt (h : RoOwn w B r) {b : Nat} (hb : roB r = some b) : b < w.heap.size ∧ B ≤ b := ownsI_lt h hb
/-- A cell of a guess is written. -/
theorem RoOwn.put (h : RoOwn w B r) {b : Nat} (hb : r.rs = some ⟨b, 0, none⟩) {k j : Nat} {u : Value} {x' : Gc} (hk : k < r.l.length) (hj : j < 7) (hx : gcCells x' = (gcCells r.l[k]).set j u) : RoOwn (w.setCell ⟨b, k * 7 + j, none⟩ u) B ⟨r.rs, r.rc, r.l.set k x'⟩ := by
  obtain ⟨rs, rc, l⟩ := r
  simp only at hb hk hx
  subst hb
  have h1 := (World.ownsRow.stored h (k * 7 + j) u).1
  unfold RoOwn roV
  simp only [List.length_set]
  rw [rowCells_set hk hj hx]
  exact h1
/-- What is read of a row. -/
theorem RoOwn.gets (h : RoOwn w B r) {S : Nat → Prop} (hg : ∀ x ∈ r.l, GcIn S w x) : GsIn (fun b => roB r = some b ∨ S b) w r.rs (roG r) := by
  intro i hi
  have hil : i < r.l.length := by simpa [roG] using hi
  obtain ⟨b, e, eb, hb, hz⟩ := h.form (by omega)
  have hx := hg _ (List.getElem_mem hil)
  have ei : (roG r)[i] = r.l[i].g := by simp [roG]
  rw [ei]
  have h1 : w.ownsRow B 61 7 (.slice (some ⟨b, 0, none⟩) r.l.length r.rc) r.l.length (rowCells r.l) := by rw [← e]; exact h
  refine ⟨b, 0, e, .inl eb, r.l[i].ss, r.l[i].cap, ⟨?_, hz⟩, hx.1.mono fun q hq _ => .inr hq, hx.2.1, hx.2.2⟩
  have hc : ∀ j, j < 7 → w.cell? ⟨b, i * 7 + j, none⟩ = (gcCells r.l[i])[j]? := fun j hj => by
    rw [← rowCells_get r.l i hil j hj]
    exact World.ownsRow.cellAt h1 _ (by omega)
  simp only [Nat.zero_add]
  exact ⟨hc 0 (by omega), hc 1 (by omega), hc 2 (by omega), hc 3 (by omega), hc 4 (by omega), hc 5 (by omega), hc 6 (by omega)⟩
theorem RoOwn.thaw (h : RoOwn w B r) {b : Nat} (hb : r.rs = some ⟨b, 0, none⟩) (j : Nat) : w.frozen? ⟨b, j, none⟩ = false := by
  have h1 : w.ownsRow B 61 7 (.slice (some ⟨b, 0, none⟩) r.l.length r.rc) r.l.length (rowCells r.l) := by rw [← hb]; exact h
  exact World.ownsRow.frozenAt h1 j
end
/-- A block in which none of a picture's rows lies. -/
def Off (v : Ro) (fb : Option Nat) (L : List Ro) (b : Nat) : Prop := roB v ≠ some b ∧ fb ≠ some b ∧ ∀ r ∈ L, roB r ≠ some b
/-- A picture that may be changed: from block B on its rows lie each in a block of its own, their sites in others, of which T is true. -/
structure PicG (T : Nat → Prop) (B : Nat) (w : World) (v : Ro) (fs : Option Addr) (fc : Nat) (L : List Ro) : Prop where
  vars : RoOwn w B v
  flds : w.ownsRow B 25 1 (.slice fs L.length fc) L.length (L.map roV)
  rows : ∀ r ∈ L, RoOwn w B r
  sv : ∀ g ∈ v.l, GcIn (fun b => T b ∧ Off v (Value.slice fs L.length fc).ownBlock L b) w g
  sf : ∀ r ∈ L, ∀ g ∈ r.l, GcIn (fun b => T b ∧ Off v (Value.slice fs L.length fc).ownBlock L b) w g
  dv : ∀ b, roB v = some b → (Value.slice fs L.length fc).ownBlock ≠ some b ∧ ∀ r ∈ L, roB r ≠ some b
  df : ∀ b, (Value.slice fs L.length fc).ownBlock = some b → ∀ r ∈ L, roB r ≠ some b
  dr : L.Pairwise fun r q => ∀ b, roB r = some b → roB q ≠ some b
def picOf (n : Bool) (v : Ro) (L : List Ro) : Pic := ⟨n, roG v, L.map roG⟩
section
variable {T T' : Nat → Prop} {B : Nat} {w w' : World} {v : Ro} {fs : Option Addr} {fc : Nat} {L : List Ro}
theorem PicG.mono (h : PicG T B w v fs fc L) (hT : ∀ b, T b → b < w.heap.size → T' b) : PicG T' B w v fs fc L :=
  ⟨h.vars, h.flds, h.rows, fun g hg => ⟨(h.sv g hg).1.mono fun b hb hz => ⟨hT b hb.1 hz, hb.2⟩, (h.sv g hg).2⟩, fun r hr g hg => ⟨(h.sf r hr g hg).1.mono fun b hb hz => ⟨hT b hb.1 hz, hb.2⟩, (h.sf r hr g hg).2⟩, h.dv, h.df, h.dr⟩
theorem PicG.same (h : PicG T B w v fs fc L) (hs : ∀ b, T b ∨ B ≤ b → b < w.heap.size → w'.heap[b]? = w.heap[b]?) (hz : w.heap.size ≤ w'.heap.size) : PicG T B w' v fs fc L :=
  ⟨h.vars.same fun b hb => hs b (.inr (h.vars.lt hb).2) (h.vars.lt hb).1, ownsI_same h.flds fun b hb => hs b (.inr (ownsI_lt h.flds hb).2) (ownsI_lt h.flds hb).1, fun r hr => (h.rows r hr).same fun b hb => hs b (.inr ((h.rows r hr).lt hb).2) ((h.rows r hr).lt hb).1,
   fun g hg => ⟨(h.sv g hg).1.same (fun b hb hlt => hs b (.inl hb.1) hlt) hz, (h.sv g hg).2⟩, fun r hr g hg => ⟨(h.sf r hr g hg).1.same (fun b hb hlt => hs b (.inl hb.1) hlt) hz, (h.sf r hr g hg).2⟩, h.dv, h.df, h.dr⟩
theorem PicG.call (h : PicG T B w v fs fc L) (hb : Below w.heap.size w w') : PicG T B w' v fs fc L := h.same (fun b _ hlt => hb.block b hlt) hb.size
theorem PicG.fcap (h : PicG T B w v fs fc L) : L.length ≤ fc ∧ fc ≤ maxLen := by
  rcases h.flds.2 with ⟨e, h1⟩ | ⟨g, cap, cur, e, hb, hg, k1, k2, _⟩
  · simp only [Value.slice.injEq] at e
    exact ⟨by omega, by rw [e.2.2]; exact Nat.zero_le _⟩
  · simp only [Value.slice.injEq] at e
    rw [e.2.2]
    exact ⟨k1, k2⟩
theorem PicG.fform (h : PicG T B w v fs fc L) (h0 : 0 < L.length) : ∃ b, fs = some ⟨b, 0, none⟩ ∧ B ≤ b ∧ b < w.heap.size ∧ ∀ k (hk : k < L.length), w.cell? ⟨b, k, none⟩ = some (roV L[k]) := by
  rcases h.flds.2 with ⟨e, h1⟩ | ⟨g, cap, cur, e, hb, hg, k1, k2, _⟩
  · omega
  · simp only [Value.slice.injEq] at e
    obtain ⟨e1, -, e3⟩ := e
    subst e1 e3
    refine ⟨g, rfl, hb, (Array.getElem?_eq_some_iff.1 hg).1, fun k hk => ?_⟩
    have := World.ownsRow.cellAt h.flds k (by omega)
    rw [this]
    simp [hk]
theorem PicG.at (h : PicG T B w v fs fc L) (n : Bool) : PicAt w (picOf n v L) v.rs fs := by
  refine ⟨(h.vars.gets h.sv).at, fun i hi => ?_⟩
  have hil : i < L.length := by simpa [picOf] using hi
  obtain ⟨b, e, hb, hz, hc⟩ := h.fform (by omega)
  have ei : (picOf n v L).flds[i] = roG L[i] := by simp [picOf]
  rw [ei]
  have hm := List.getElem_mem hil
  have hcp := (h.rows _ hm).caps
  refine ⟨b, 0, e, hz, L[i].rs, L[i].rc, ?_, by simpa [roG] using hcp.1, hcp.2, ((h.rows _ hm).gets (h.sf _ hm)).at⟩
  rw [Nat.zero_add, hc i hil]
  simp [roV, roG]
theorem PicG.on (h : PicG T B w v fs fc L) (n : Bool) : PicOn (fun b => T b ∨ B ≤ b) w (picOf n v L) v.rs fs := fun w2 hs hz => (h.same hs hz).at n
theorem PicG.vcap (h : PicG T B w v fs fc L) (n : Bool) : (picOf n v L).vars.length ≤ v.rc ∧ v.rc ≤ maxLen := by simpa [picOf, roG] using h.vars.caps
theorem PicG.fcap' (h : PicG T B w v fs fc L) (n : Bool) : (picOf n v L).flds.length ≤ fc ∧ fc ≤ maxLen := by simpa [picOf] using h.fcap
/-- Blocks that are not the row's stay behind a store. -/
theorem gcIn_put {S : Nat → Prop} {x : Gc} {a : Addr} {u : Value} (h : GcIn S w x) (hs : ∀ b, S b → b ≠ a.block) : GcIn S (w.setCell a u) x := ⟨h.1.same (fun b hb _ => Below.heap_setCell _ _ _ _ (hs b hb)) (by simp [World.setCell]), h.2⟩
/-- A cell of a variable's guess is written. -/
theorem PicG.putV (h : PicG T B w v fs fc L) {b : Nat} (hb : v.rs = some ⟨b, 0, none⟩) {k j : Nat} {u : Value} {x' : Gc} (hk : k < v.l.length) (hj : j < 7) (hx : gcCells x' = (gcCells v.l[k]).set j u) (hg : GcIn (fun b => T b ∧ Off v (Value.slice fs L.length fc).ownBlock L b) w x') :
    PicG T B (w.setCell ⟨b, k * 7 + j, none⟩ u) ⟨v.rs, v.rc, v.l.set k x'⟩ fs fc L := by
  have eb : roB v = some b := by unfold roB roV; rw [hb]; rfl
  have eb' : roB ⟨v.rs, v.rc, v.l.set k x'⟩ = roB v := by unfold roB roV; rw [hb]; rfl
  have eO : ∀ q, Off ⟨v.rs, v.rc, v.l.set k x'⟩ (Value.slice fs L.length fc).ownBlock L q = Off v (Value.slice fs L.length fc).ownBlock L q := fun q => by unfold Off; rw [eb']
  have hd := h.dv b eb
  have hp : ∀ g, GcIn (fun b => T b ∧ Off v (Value.slice fs L.length fc).ownBlock L b) w g → GcIn (fun b => T b ∧ Off ⟨v.rs, v.rc, v.l.set k x'⟩ (Value.slice fs L.length fc).ownBlock L b) (w.setCell ⟨b, k * 7 + j, none⟩ u) g := fun g hg => by
    simp only [eO]
    exact gcIn_put hg fun q hq e => hq.2.1 (by rw [eb]; exact congrArg some e.symm)
  refine ⟨h.vars.put hb hk hj hx, ownsI_same h.flds fun q hq => Below.heap_setCell _ _ _ _ fun e => hd.1 (by rw [hq]; exact congrArg some e), fun r hr => (h.rows r hr).same fun q hq => Below.heap_setCell _ _ _ _ fun e => hd.2 r hr (by rw [hq]; exact congrArg some e), fun g hgm => hp g ?_, fun r hr g hgm => hp g (h.sf r hr g hgm), by rw [eb']; exact h.dv, h.df, h.dr⟩
  rcases List.mem_or_eq_of_mem_set hgm with hgm | rfl
  · exact h.sv g hgm
  · exact hg
/-- A cell of a field's guess is written. -/
theorem PicG.putF (h : PicG T B w v fs fc L) {s : Nat} (hs : s < L.length) {b : Nat} (hb : L[s].rs = some ⟨b, 0, none⟩) {k j : Nat} {u : Value} {x' : Gc} (hk : k < L[s].l.length) (hj : j < 7) (hx : gcCells x' = (gcCells L[s].l[k]).set j u) (hg : GcIn (fun b => T b ∧ Off v (Value.slice fs L.length fc).ownBlock L b) w x') :
    PicG T B (w.setCell ⟨b, k * 7 + j, none⟩ u) v fs fc (L.set s ⟨L[s].rs, L[s].rc, L[s].l.set k x'⟩) := by
  have hm := List.getElem_mem hs
  have eb : roB L[s] = some b := by unfold roB roV; rw [hb]; rfl
  have ebn : roB ⟨L[s].rs, L[s].rc, L[s].l.set k x'⟩ = roB L[s] := by unfold roB roV; rw [hb]; rfl
  have evn : roV ⟨L[s].rs, L[s].rc, L[s].l.set k x'⟩ = roV L[s] := by unfold roV; simp
  have eL : (L.set s ⟨L[s].rs, L[s].rc, L[s].l.set k x'⟩).map roB = L.map roB := by
    rw [List.map_set, ebn, ← List.getElem_map (f := roB) (h := by simpa using hs), List.set_getElem_self]
  have eV : (L.set s ⟨L[s].rs, L[s].rc, L[s].l.set k x'⟩).map roV = L.map roV := by
    rw [List.map_set, evn, ← List.getElem_map (f := roV) (h := by simpa using hs), List.set_getElem_self]
  have allB : ∀ {M : List Ro} {q : Nat}, (∀ r ∈ M, roB r ≠ some q) ↔ ∀ o ∈ M.map roB, o ≠ some q := by
    intro M q
    simp only [List.mem_map, forall_exists_index, and_imp, forall_apply_eq_imp_iff₂]
  have eO : ∀ q, Off v (Value.slice fs L.length fc).ownBlock (L.set s ⟨L[s].rs, L[s].rc, L[s].l.set k x'⟩) q ↔ Off v (Value.slice fs L.length fc).ownBlock L q := fun q => by
    unfold Off
    rw [allB, allB, eL]
  have hp : ∀ g, GcIn (fun b => T b ∧ Off v (Value.slice fs L.length fc).ownBlock L b) w g → GcIn (fun b => T b ∧ Off v (Value.slice fs (L.set s ⟨L[s].rs, L[s].rc, L[s].l.set k x'⟩).length fc).ownBlock (L.set s ⟨L[s].rs, L[s].rc, L[s].l.set k x'⟩) b) (w.setCell ⟨b, k * 7 + j, none⟩ u) g := fun g hg => by
    rw [List.length_set]
    simp only [eO]
    exact gcIn_put hg fun q hq e => hq.2.2.2 _ hm (by rw [eb]; exact congrArg some e.symm)
  have pwB : ∀ {M : List Ro}, M.Pairwise (fun r q => ∀ b, roB r = some b → roB q ≠ some b) ↔ (M.map roB).Pairwise fun o p => ∀ b, o = some b → p ≠ some b := by
    intro M
    rw [List.pairwise_map]
  refine ⟨h.vars.same fun q hq => Below.heap_setCell _ _ _ _ fun e => (h.dv q hq).2 _ hm (by rw [eb]; exact congrArg some e.symm), ?_, fun r hr => ?_, fun g hgm => hp g (h.sv g hgm), fun r hr g hgm => hp g ?_, fun q hq => ?_, fun q hq => ?_, ?_⟩
  · rw [List.length_set, eV]
    exact ownsI_same h.flds fun q hq => Below.heap_setCell _ _ _ _ fun e => h.df q hq _ hm (by rw [eb]; exact congrArg some e.symm)
  · rw [List.mem_iff_getElem] at hr
    obtain ⟨i, hi, rfl⟩ := hr
    rw [List.length_set] at hi
    rw [List.getElem_set]
    split
    · exact (h.rows _ hm).put hb hk hj hx
    · rename_i hne
      refine (h.rows _ (List.getElem_mem hi)).same fun q hq => Below.heap_setCell _ _ _ _ fun e => ?_
      simp only at e
      subst e
      have pw := List.pairwise_iff_getElem.1 h.dr
      rcases Nat.lt_or_gt_of_ne hne with hlt | hlt
      · exact pw s i hs hi hlt q eb hq
      · exact pw i s hi hs hlt q hq eb
  · rw [List.mem_iff_getElem] at hr
    obtain ⟨i, hi, rfl⟩ := hr
    rw [List.length_set] at hi
    rw [List.getElem_set] at hgm
    split at hgm
    · rcases List.mem_or_eq_of_mem_set hgm with hgm | rfl
      · exact h.sf _ hm g hgm
      · exact hg
    · exact h.sf _ (List.getElem_mem hi) g hgm
  · rw [List.length_set, allB, eL, ← allB]
    exact h.dv q hq
  · rw [List.length_set] at hq
    rw [allB, eL, ← allB]
    exact h.df q hq
  · rw [pwB, eL, ← pwB]
    exact h.dr
end
end
section
open Go.RowKit
/-- A row of guesses in a block of its own; it and its sites lie where S is true of the block. -/
def VRow (S : Nat → Prop) (w : World) (B : Nat) (v : Value) (l : List Gc) : Prop := w.ownsRow B 61 7 v l.length (rowCells l) ∧ (∀ b, v.ownBlock = some b → S b) ∧ ∀ x ∈ l, GcIn (fun b => S b ∧ v.ownBlock ≠ some b) w x
section
variable {S S' : Nat → Prop} {w w' : World} {B : Nat} {v : Value} {l : List Gc}
theorem VRow.same (h : VRow S w B v l) (hs : ∀ b, S b → b < w.heap.size → w'.heap[b]? = w.heap[b]?) (hz : w.heap.size ≤ w'.heap.size) : VRow S w' B v l := ⟨ownsI_same h.1 fun b hb => hs b (h.2.1 b hb) (ownsI_lt h.1 hb).1, h.2.1, fun x hx => ⟨(h.2.2 x hx).1.same (fun b hb hlt => hs b hb.1 hlt) hz, (h.2.2 x hx).2⟩⟩
theorem VRow.mono (h : VRow S w B v l) (hs : ∀ b, S b → b < w.heap.size → S' b) : VRow S' w B v l := ⟨h.1, fun b hb => hs b (h.2.1 b hb) (ownsI_lt h.1 hb).1, fun x hx => ⟨(h.2.2 x hx).1.mono fun b hb hlt => ⟨hs b hb.1 hlt, hb.2⟩, (h.2.2 x hx).2⟩⟩
theorem VRow.call (h : VRow S w B v l) (hb : Below w.heap.size w w') : VRow S w' B v l := h.same (fun b _ hlt => hb.block b hlt) hb.size
theorem ownsI_lower {e : TypeId} {z n : Nat} {xs : List Value} {C : Nat} (h : w.ownsRow C e z v n xs) (hB : B ≤ C) : w.ownsRow B e z v n xs := by
 refine ⟨h.1, ?_⟩
 rcases h.2 with h2 | ⟨g, cap, cur, e1, hb, h3⟩
 ·exact .inl h2
 ·exact .inr ⟨g, cap, cur, e1, Nat.le_trans hB hb, h3⟩
theorem SRow.vrow (h : SRow w B v l) : VRow (fun b => B ≤ b) w B v l := ⟨h.1, fun b hb => (ownsI_lt h.1 hb).2, fun x hx => h.2 x hx⟩
theorem VRow.lower (h : VRow S w B v l) {C : Nat} (hB : C ≤ B) : VRow S w C v l := ⟨ownsI_lower h.1 hB, h.2⟩
end
/-- Rows that are made, each in a block of its own, from block B on. -/
structure FRowS (w : World) (B : Nat) (v : Value) (L : List Ro) : Prop where
 own : w.ownsRow B 25 1 v L.length (L.map roV)
 rows : ∀ r ∈ L, RoOwn w B r
 sites : ∀ r ∈ L, ∀ g ∈ r.l, GcIn (fun b => B ≤ b ∧ v.ownBlock ≠ some b ∧ ∀ q ∈ L, roB q ≠ some b) w g
 df : ∀ b, v.ownBlock = some b → ∀ r ∈ L, roB r ≠ some b
 dr : L.Pairwise fun r q => ∀ b, roB r = some b → roB q ≠ some b
section
variable {w w0 w' : World} {B : Nat} {v v' : Value} {L : List Ro}
theorem FRowS.nil (w : World) (B : Nat) : FRowS w B (.slice none 0 0) [] := ⟨⟨rfl, .inl ⟨rfl, rfl⟩⟩, fun r hr => by simp at hr, fun r hr => by simp at hr, fun b hb r hr => by simp at hr, List.Pairwise.nil⟩
theorem FRowS.olden (h : FRowS w B v L) (hs : ∀ b, B ≤ b → b < w.heap.size → w'.heap[b]? = w.heap[b]?) (hz : w.heap.size ≤ w'.heap.size) : FRowS w' B v L :=
 ⟨ownsI_same h.own fun b hb => hs b (ownsI_lt h.own hb).2 (ownsI_lt h.own hb).1, fun r hr => (h.rows r hr).same fun b hb => hs b ((h.rows r hr).lt hb).2 ((h.rows r hr).lt hb).1, fun r hr g hg => ⟨(h.sites r hr g hg).1.same (fun b hb hlt => hs b hb.1 hlt) hz, (h.sites r hr g hg).2⟩, h.df, h.dr⟩
theorem FRowS.call (h : FRowS w B v L) (hb : Below w.heap.size w w') : FRowS w' B v L := h.olden (fun b _ hlt => hb.block b hlt) hb.size
/-- .. behind an append of a row that was made since w0. -/
theorem FRowS.grown (h0 : FRowS w0 B v L) (hb : Below w0.heap.size w0 w) (hB : B ≤ w0.heap.size) {x : Ro} (hx : VRow (fun b => w0.heap.size ≤ b) w w0.heap.size (roV x) x.l) (hr : w'.ownsRow B 25 1 v' (L.length + 1) (L.map roV ++ [roV x])) (hg : w.grownBy w' v.ownBlock) (hv : v'.ownBlock = v.ownBlock ∨ v'.ownBlock = some w.heap.size) : FRowS w' B v' (L ++ [x]) := by
 have h := h0.call hb
 have hsz := hb.size
 have hxo : RoOwn w w0.heap.size x := hx.1
 have vlt : ∀ b, v.ownBlock = some b → b < w0.heap.size := fun b hb => (ownsI_lt h0.own hb).1
 have rlt : ∀ r ∈ L, ∀ b, roB r = some b → b < w0.heap.size := fun r hr b hb => ((h0.rows r hr).lt hb).1
 have xge : ∀ b, roB x = some b → w0.heap.size ≤ b ∧ b < w.heap.size := fun b hb => ⟨(hxo.lt hb).2, (hxo.lt hb).1⟩
 have keep : ∀ b, b < w.heap.size → v.ownBlock ≠ some b → w'.heap[b]? = w.heap[b]? := fun b hb hne => hg.block b hb fun e => hne e.symm
 refine ⟨by rw [List.length_append, List.map_append]; exact hr, fun r hr => ?_, fun r hr g hgm => ?_, fun b hb r hr => ?_, ?_⟩
 ·rcases List.mem_append.1 hr with hr | hr
  ·exact (h.rows r hr).same fun b hb => keep b ((h.rows r hr).lt hb).1 fun e => h.df b e r hr hb
  ·rw [List.mem_singleton.1 hr]
   exact RoOwn.same (ownsI_lower hxo hB) fun b hb => keep b (xge b hb).2 fun e => by have := vlt b e; have := (xge b hb).1; omega
 ·rcases List.mem_append.1 hr with hr | hr
  ·have h1 : GcIn (fun b => (B ≤ b ∧ v.ownBlock ≠ some b ∧ ∀ q ∈ L, roB q ≠ some b) ∧ b < w0.heap.size) w g := ⟨((h0.sites r hr g hgm).1.mono fun b hb hlt => (⟨hb, hlt⟩ : _ ∧ b < w0.heap.size)).call hb, (h0.sites r hr g hgm).2⟩
   refine ⟨(h1.1.same (fun b hb hlt => keep b hlt hb.1.2.1) hg.size).mono fun b hb _ => ⟨hb.1.1, ?_, fun q hq => ?_⟩, h1.2⟩
   ·rcases hv with e | e
    ·rw [e]; exact hb.1.2.1
    ·rw [e]; intro e'; cases e'; have := hb.2; omega
   ·rcases List.mem_append.1 hq with hq | hq
    ·exact hb.1.2.2 q hq
    ·rw [List.mem_singleton.1 hq]
     intro e
     have := (xge b e).1
     have := hb.2
     omega
  ·rw [List.mem_singleton.1 hr] at hgm
   have h1 : GcIn (fun b => (w0.heap.size ≤ b ∧ roB x ≠ some b) ∧ b < w.heap.size) w g := ⟨(hx.2.2 g hgm).1.mono fun b hb hlt => ⟨hb, hlt⟩, (hx.2.2 g hgm).2⟩
   refine ⟨(h1.1.same (fun b hb hlt => keep b hlt fun e => by have := vlt b e; have := hb.1.1; omega) hg.size).mono fun b hb _ => ⟨Nat.le_trans hB hb.1.1, ?_, fun q hq => ?_⟩, h1.2⟩
   ·rcases hv with e | e
    ·rw [e]; intro e'; have := vlt b e'; have := hb.1.1; omega
    ·rw [e]; intro e'; cases e'; have := hb.2; omega
   ·rcases List.mem_append.1 hq with hq | hq
    ·intro e
     have := rlt q hq b e
     have := hb.1.1
     omega
    ·rw [List.mem_singleton.1 hq]
     exact hb.1.2
 ·rcases hv with e | e
  ·rw [e] at hb
   rcases List.mem_append.1 hr with hr | hr
   ·exact h0.df b hb r hr
   ·rw [List.mem_singleton.1 hr]
    intro e'
    have := vlt b hb
    have := (xge b e').1
    omega
  ·rw [e] at hb
   cases hb
   rcases List.mem_append.1 hr with hr | hr
   ·intro e'
    have := rlt r hr _ e'
    omega
   ·rw [List.mem_singleton.1 hr]
    intro e'
    have := (xge _ e').2
    omega
 ·rw [List.pairwise_append]
  refine ⟨h0.dr, List.pairwise_singleton _ _, fun r hr q hq b hb e => ?_⟩
  rw [List.mem_singleton.1 hq] at e
  have := rlt r hr b hb
  have := (xge b e).1
  omega
theorem FRowS.form (h : FRowS w B v L) : ∃ fs fc, v = .slice fs L.length fc := by
 rcases h.own.2 with ⟨e, h0⟩ | ⟨g, cap, cur, e, _⟩
 ·exact ⟨none, 0, by rw [e, h0]⟩
 ·exact ⟨some ⟨g, 0, none⟩, cap, e⟩
/-- A row of variables below them makes a picture of it. -/
theorem FRowS.pic {S : Nat → Prop} {C : Nat} {vs fs : Option Addr} {vc fc : Nat} {l : List Gc} (h : FRowS w B (.slice fs L.length fc) L) (hv : VRow S w C (.slice vs l.length vc) l) (hS : ∀ b, S b → C ≤ b ∧ b < B) (hC : C ≤ B) : PicG (fun b => C ≤ b) C w ⟨vs, vc, l⟩ fs fc L := by
 have vlt : ∀ b, roB ⟨vs, vc, l⟩ = some b → b < B := fun b hb => (hS b (hv.2.1 b hb)).2
 have fge : ∀ b, (Value.slice fs L.length fc).ownBlock = some b → B ≤ b := fun b hb => (ownsI_lt h.own hb).2
 have rge : ∀ r ∈ L, ∀ b, roB r = some b → B ≤ b := fun r hr b hb => ((h.rows r hr).lt hb).2
 refine ⟨hv.1, ownsI_lower h.own hC, fun r hr => ownsI_lower (h.rows r hr) hC, fun g hg => ⟨(hv.2.2 g hg).1.mono fun b hb _ => ⟨(hS b hb.1).1, hb.2, fun e => ?_, fun r hr e => ?_⟩, (hv.2.2 g hg).2⟩, fun r hr g hg => ⟨(h.sites r hr g hg).1.mono fun b hb _ => ⟨Nat.le_trans hC hb.1, fun e => ?_, hb.2.1, hb.2.2⟩, (h.sites r hr g hg).2⟩, fun b hb => ⟨fun e => ?_, fun r hr e => ?_⟩, h.df, h.dr⟩
 ·have := fge b e; have := (hS b hb.1).2; omega
 ·have := rge r hr b e; have := (hS b hb.1).2; omega
 ·have := vlt b e; have := hb.1; omega
 ·have := fge b e; have := vlt b hb; omega
 ·have := rge r hr b e; have := vlt b hb; omega
end
theorem PicG.down {T : Nat → Prop} {B C : Nat} {w : World} {v : Ro} {fs : Option Addr} {fc : Nat} {L : List Ro} (h : PicG T B w v fs fc L) (hC : C ≤ B) : PicG T C w v fs fc L := ⟨ownsI_lower h.vars hC, ownsI_lower h.flds hC, fun r hr => ownsI_lower (h.rows r hr) hC, h.sv, h.sf, h.dv, h.df, h.dr⟩
/-- What is answered is a picture that may be changed, in blocks from B on, beside an errno. -/
def PicS (B : Nat) (w' : World) (e : Ending) (x : Pic) (er : Int) : Prop := ∃ v fs fc L, x = picOf x.none v L ∧ e = .returned (.tuple #[.agg #[.bool x.none, .slice v.rs v.l.length v.rc, .slice fs L.length fc], .int .i64 er]) ∧ PicG (fun b => B ≤ b) B w' v fs fc L
/-- A row that is answered. -/
def RowN (w w' : World) (e : Ending) (l : List Gs) : Prop := ∃ rs rc gl, e = .returned (.slice rs gl.length rc) ∧ Hid (gl.map Gc.g = l) ∧ SRow w' w.heap.size (.slice rs gl.length rc) gl
theorem picG_zero (B : Nat) (w : World) : PicG (fun b => B ≤ b) B w ⟨none, 0, []⟩ none 0 [] := ⟨⟨rfl, .inl ⟨rfl, rfl⟩⟩, ⟨rfl, .inl ⟨rfl, rfl⟩⟩, fun r hr => by simp at hr, fun g hg => by simp at hg, fun r hr => by simp at hr, fun b hb => by simp [roB, roV, Value.ownBlock] at hb, fun b hb r hr => by simp at hr, List.Pairwise.nil⟩
end
section

def zeroIns : Ins := ⟨0, 0, 0, 0, 0, 0⟩
def insAt (c : List Ins) (p : Int) : Ins := c.getD p.toNat zeroIns
end
section

section
variable {V F L : Int} {i : Ins}
theorem ckOne_parts (h : ckOne V F L i = 0) : btw i.k 1 19 = true ∧ (nTo i.k = true → 0 ≤ i.tgt ∧ i.tgt < V) ∧ (nA i.k = true → 0 ≤ i.a ∧ i.a < V) ∧ (nB i.k = true → 0 ≤ i.b ∧ i.b < V) ∧ (i.k = 12 ∨ i.k = 13 → 0 ≤ i.n ∧ i.n < F) ∧ (nG i.k = true → 0 ≤ i.g ∧ i.g ≤ L) ∧ (i.k = 1 → -2147483648 ≤ i.n ∧ i.n ≤ 2147483647) ∧ (i.k = 2 → i.n = 0 ∨ i.n = 1) ∧ (i.k = 14 → 0 ≤ i.n ∧ i.n ≤ 1000000) := by
 unfold ckOne at h
 split at h
 ·cases h
 rename_i h1
 split at h
 ·cases h
 rename_i h2
 split at h
 ·cases h
 rename_i h3
 simp only [Bool.or_eq_true, Bool.and_eq_true, Bool.not_eq_true', not_or, not_and, Bool.not_eq_false, decide_eq_true_eq, btw] at h2 h3
 obtain ⟨⟨⟨⟨a1, a2⟩, a3⟩, a4⟩, a5⟩ := h2
 obtain ⟨⟨b1, b2⟩, b3⟩ := h3
 refine ⟨by simpa using h1, fun h => ?_, fun h => ?_, fun h => ?_, fun h => ?_, fun h => ?_, fun h => ?_, fun h => ?_, fun h => ?_⟩
 ·have := a1 h; omega
 ·have := a2 h; omega
 ·have := a3 h; omega
 ·have := a4 h; omega
 ·have := a5 h; omega
 ·have := b1 h; omega
 ·have := b2 h; omega
 ·have := b3 h; omega
end

theorem ckAll_mem {V F L : Int} {c : List Ins} (h : ckAll V F L c = 0) : ∀ i ∈ c, ckOne V F L i = 0 := by
 induction c with
 | nil => intro i hi; cases hi
 | cons x r ih =>
  unfold ckAll at h
  split at h
  ·rename_i hx
   intro i hi
   rcases List.mem_cons.1 hi with rfl | hi
   ·exact hx
   ·exact ih h i hi
  ·rename_i hx; exact absurd h hx
structure ProgOk (V F : Int) (c : List Ins) : Prop where
 v1 : 1 ≤ V
 v8 : V ≤ 8
 f0 : 0 ≤ F
 f3 : F ≤ 3
 len : c.length ≤ 60
 each : ∀ i ∈ c, ckOne V F c.length i = 0
theorem progOk_of {V F : Int} {c : List Ins} (h : ckProg V F c = 0) : ProgOk V F c := by
 unfold ckProg at h
 split at h
 ·cases h
 rename_i h1
 split at h
 ·cases h
 rename_i h2
 simp [btw] at h1
 exact ⟨by omega, by omega, by omega, by omega, by omega, ckAll_mem h⟩

theorem insAt_eq {c : List Ins} {p : Nat} (h : p < c.length) : insAt c (p : Int) = c[p] := by
 unfold insAt
 simp [List.getD, List.getElem?_eq_getElem h]
theorem insAt_mem {c : List Ins} {p : Int} (h0 : 0 ≤ p) (h : p < c.length) : insAt c p ∈ c := by
 obtain ⟨k, rfl⟩ := Int.eq_ofNat_of_zero_le h0
 rw [insAt_eq (by omega)]
 exact List.getElem_mem _

theorem mem_set_or {α : Type} {l : List α} {i : Nat} {v x : α} (h : x ∈ l.set i v) : x = v ∨ x ∈ l := (List.mem_or_eq_of_mem_set h).symm
end
section

theorem mem_siteSet {a b : List Int} {x : Int} : x ∈ siteSet a b ↔ (0 ≤ x ∧ x < 60) ∧ (x ∈ a ∨ x ∈ b) := by
 unfold siteSet
 simp only [List.mem_filter, List.mem_map, List.mem_range, Bool.or_eq_true, List.contains_iff_mem]
 constructor
 ·rintro ⟨⟨n, hn, rfl⟩, h⟩
  exact ⟨by omega, h⟩
 ·rintro ⟨⟨h0, h1⟩, h⟩
  exact ⟨⟨x.toNat, by omega, by omega⟩, h⟩
theorem siteSet_pair (a b : List Int) : (siteSet a b).Pairwise (· < ·) := by
 unfold siteSet
 refine List.Pairwise.filter _ ?_
 rw [List.pairwise_map]
 exact List.pairwise_lt_range.imp (by intro a b h; omega)
theorem rising_of_pair : ∀ {l : List Int}, l.Pairwise (· < ·) → rising l = true
 | [], _ => rfl
 | [_], _ => rfl
 | a :: b :: r, h => by
  unfold rising
  rw [List.pairwise_cons] at h
  simp [h.1 b (by simp), rising_of_pair h.2]
theorem ckGs_iff {c : List Ins} {g : Gs} : ckGs c g = 0 ↔ g.sp.Ok ∧ (∀ x ∈ g.s, isSite c x = true) ∧ rising g.s = true := by
 unfold ckGs
 by_cases h1 : ckSp g.sp = 0
 ·rw [if_neg (by simpa using h1)]
  by_cases h2 : g.s.all (isSite c) = false
  ·rw [if_pos h2]
   refine ⟨(fun h => by cases h), fun h => ?_⟩
   rw [List.all_eq_true.2 h.2.1] at h2
   cases h2
  ·rw [if_neg h2]
   have h2' : ∀ x ∈ g.s, isSite c x = true := by simpa using h2
   by_cases h3 : rising g.s = false
   ·rw [if_pos h3]
    exact ⟨fun h => (by cases h), fun h => (by rw [h.2.2] at h3; cases h3)⟩
   ·rw [if_neg h3]
    exact ⟨fun _ => ⟨ckSp_ok.1 h1, h2', by simpa using h3⟩, fun _ => rfl⟩
 ·rw [if_pos h1]
  exact ⟨fun h => absurd h h1, fun h => absurd (ckSp_ok.2 h.1) h1⟩
theorem isSite_range {c : List Ins} {x : Int} (h : isSite c x = true) : 0 ≤ x ∧ x < c.length := by
 unfold isSite at h
 simp only [Bool.and_eq_true, decide_eq_true_eq] at h
 omega

section
variable {c : List Ins} {g h : Gs} {w : Bool}
theorem joinGs_sp (w : Bool) (g h : Gs) : (joinGs w g h).sp = if w then wideSp g.sp h.sp else joinSp g.sp h.sp := rfl
/-- What comes of right guesses is right. -/
theorem ckGs_join (hg : ckGs c g = 0) (hh : ckGs c h = 0) : ckGs c (joinGs w g h) = 0 := by
 rw [ckGs_iff] at hg hh ⊢
 refine ⟨?_, fun x hx => ?_, rising_of_pair (siteSet_pair _ _)⟩
 ·rw [joinGs_sp]
  cases w
  ·exact join_ok hg.1 hh.1
  ·exact wide_ok hg.1 hh.1
 ·rcases (mem_siteSet.1 hx).2 with h | h
  ·exact hg.2.1 x h
  ·exact hh.2.1 x h
end

theorem strayAt_iff {c : List Ins} {p : Gs → Bool} : ∀ {l : List (List Gs)} {i : Nat}, strayAt c p i l = false ↔ ∀ k (h : k < l.length), isSite c ((i + k : Nat) : Int) = true ∨ ∀ g ∈ l[k], p g = false
 | [], i => by simp [strayAt]
 | r :: l, i => by
  unfold strayAt
  rw [Bool.or_eq_false_iff, strayAt_iff (l := l)]
  constructor
  ·rintro ⟨h, h'⟩ k hk
   cases k with
   | zero =>
    rw [Bool.and_eq_false_iff] at h
    rcases h with h | h
    ·exact .inl (by simpa using h)
    ·exact .inr (by simpa using h)
   | succ k =>
    have := h' k (by simpa using hk)
    rwa [show i + 1 + k = i + (k + 1) by omega] at this
  ·intro h
   refine ⟨?_, fun k hk => ?_⟩
   ·rw [Bool.and_eq_false_iff]
    rcases h 0 (by simp) with h | h
    ·exact .inl (by simpa using h)
    ·exact .inr (by simpa using h)
   ·have := h (k + 1) (by simpa using hk)
    rwa [show i + (k + 1) = i + 1 + k by omega] at this
theorem ckGss_iff {c : List Ins} : ∀ {l : List Gs}, ckGss c l = 0 ↔ ∀ g ∈ l, ckGs c g = 0
 | [] => by simp [ckGss]
 | g :: l => by
  unfold ckGss
  by_cases h : ckGs c g = 0
  ·rw [if_pos h, ckGss_iff]
   simp [h]
  ·rw [if_neg h]
   exact ⟨fun e => absurd e h, fun e => e g (by simp)⟩
/-- A picture of runs that is right. -/
structure PicOk (V F : Int) (c : List Ins) (x : Pic) : Prop where
 none : x.none = false
 vars : (x.vars.length : Int) = V
 flds : x.flds.length = c.length
 row : ∀ k (h : k < x.flds.length), (x.flds[k].length : Int) = F
 gv : ∀ g ∈ x.vars, ckGs c g = 0
 gf : ∀ k (h : k < x.flds.length), ∀ g ∈ x.flds[k], ckGs c g = 0
 stray : ∀ k (h : k < x.flds.length), isSite c (k : Int) = true ∨ ∀ g ∈ x.flds[k], nothingGs g = true
theorem ckPic_iff {V F : Int} {c : List Ins} {x : Pic} (hn : x.none = false) : ckPic V F c x = 0 ↔ PicOk V F c x := by
 obtain ⟨n, vars, flds⟩ := x
 simp only at hn
 subst hn
 unfold ckPic formedPic allPic
 simp only [Bool.false_eq_true, if_false]
 constructor
 ·intro h
  split at h
  ·cases h
  rename_i h1
  split at h
  ·rename_i h2; exact absurd h h2
  rename_i h2
  split at h
  ·cases h
  rename_i h3
  simp only [Bool.not_eq_false, Bool.and_eq_true, decide_eq_true_eq, Bool.not_eq_true', List.any_eq_false, decide_eq_false_iff_not, Decidable.not_not] at h1
  simp only [ne_eq, Decidable.not_not] at h2
  rw [ckGss_iff] at h2
  rw [Bool.not_eq_true, strayAt_iff] at h3
  refine ⟨rfl, h1.1, h1.2.1, fun k h => ?_, fun g hg => h2 g (by simp [hg]), fun k h g hg => h2 g ?_, fun k h => ?_⟩
  ·have := h1.2.2 _ (List.getElem_mem h)
   simpa using this
  ·rw [List.mem_append, List.mem_flatten]
   exact .inr ⟨_, List.getElem_mem h, hg⟩
  ·rcases h3 k h with h3 | h3
   ·exact .inl (by simpa using h3)
   ·exact .inr fun g hg => by simpa using h3 g hg
 ·rintro ⟨-, h1, h2, h3, h4, h5, h6⟩
  simp only at h1 h2 h3 h4 h5 h6
  rw [if_neg, if_neg, if_neg]
  ·rw [Bool.not_eq_true, strayAt_iff]
   intro k h
   rcases h6 k h with h6 | h6
   ·exact .inl (by simpa using h6)
   ·exact .inr fun g hg => by simpa using h6 g hg
  ·rw [ne_eq, Decidable.not_not, ckGss_iff]
   intro g hg
   rw [List.mem_append, List.mem_flatten] at hg
   rcases hg with hg | ⟨r, hr, hg⟩
   ·exact h4 g hg
   ·obtain ⟨k, hk, rfl⟩ := List.getElem_of_mem hr
    exact h5 k hk g hg
  ·simp only [Bool.not_eq_false, Bool.and_eq_true, decide_eq_true_eq, Bool.not_eq_true', List.any_eq_false]
   refine ⟨h1, h2, fun r hr => ?_⟩
   obtain ⟨k, hk, rfl⟩ := List.getElem_of_mem hr
   simpa using h3 k hk
section
variable {V F : Int} {c : List Ins} {x y : Pic} {w : Bool}
theorem picOk_of (h : ckPic V F c x = 0) (hn : x.none = false) : PicOk V F c x := (ckPic_iff hn).1 h
theorem PicOk.ck (h : PicOk V F c x) : ckPic V F c x = 0 := (ckPic_iff h.none).2 h
theorem getD_row {L : List (List Gs)} {k : Nat} (h : k < L.length) : L.getD k [] = L[k] := by simp [List.getD, List.getElem?_eq_getElem h]
theorem getD_none {L : List (List Gs)} {k : Nat} (h : ¬ k < L.length) : L.getD k [] = [] := by simp [List.getD, List.getElem?_eq_none (Nat.not_lt.1 h)]
end
end
section

structure Edg where
 tgt : Int
 pic : Pic
def gAt (x : Pic) (i : Int) : Gs := x.vars.getD i.toNat noneG
def setVar (x : Pic) (i : Int) (g : Gs) : Pic := { x with vars := x.vars.set i.toNat g }
def fAt (x : Pic) (s n : Int) : Gs := (x.flds.getD s.toNat []).getD n.toNat noneG
def setFld (x : Pic) (s n : Int) (g : Gs) : Pic := { x with flds := x.flds.modify s.toNat fun r => r.set n.toNat g }
/-- A span without a 0 that stands at its end. -/
def trueSp (s : Sp) : Sp := if s.n then ⟨true, 0, 0⟩ else if (if s.hi = 0 then -1 else s.hi) < (if s.lo = 0 then 1 else s.lo) then ⟨true, 0, 0⟩ else ⟨false, if s.lo = 0 then 1 else s.lo, if s.hi = 0 then -1 else s.hi⟩
def trueGs (g : Gs) : Gs := ⟨false, trueSp g.sp, g.t, false, g.s⟩
def falseGs (g : Gs) : Gs := ⟨g.n, if g.sp.has 0 then ⟨false, 0, 0⟩ else ⟨true, 0, 0⟩, false, g.f, []⟩
/-- May it be no thing? -/
def noThing (g : Gs) : Bool := g.n || (!g.sp.n || (g.t || g.f))
/-- What a field may be of all things that a guess may be. -/
def getGs (x : Pic) (n : Int) (l : List Int) : Gs := l.foldl (fun g s => joinGs false g (fAt x s n)) noneG
def putPic (x : Pic) (n : Int) (b : Gs) (l : List Int) : Pic := l.foldl (fun y s => setFld y s n (joinGs false (fAt y s n) b)) x
/-- What To may become, and whether it may be wrong. -/
def comesGs (i : Ins) (at_ : Int) (x : Pic) : Gs × Bool :=
 if i.k = 1 then (⟨false, ⟨false, i.n, i.n⟩, false, false, []⟩, false)
 else if i.k = 2 then (⟨false, ⟨true, 0, 0⟩, decide (i.n = 1), decide (i.n = 0), []⟩, false)
 else if i.k = 3 then (nullG, false)
 else if i.k = 11 then (⟨false, ⟨true, 0, 0⟩, false, false, [at_]⟩, false)
 else if i.k = 12 then (getGs x i.n (gAt x i.a).s, noThing (gAt x i.a))
 else if i.k = 14 then (⟨false, ⟨false, -i.n, i.n⟩, false, false, []⟩, false)
 else doGs i.k (gAt x i.a) (gAt x i.b)
/-- A new thing has null in all fields. -/
def newPic (at_ : Int) (x : Pic) : Pic := { x with flds := x.flds.modify at_.toNat fun r => r.map fun g => { g with n := true } }
/-- The edges of a step, whether it may be wrong, whether it may fail. -/
def stepPic (i : Ins) (at_ : Int) (x : Pic) : List Edg × Bool × Bool :=
 if x.none then ([], false, false)
 else if i.k = 19 then ([], false, false)
 else if i.k = 18 then ([⟨at_ + 1, x⟩], false, false)
 else if i.k = 16 then ([⟨i.g, x⟩], false, false)
 else if i.k = 15 then ((if yesGs (gAt x i.a) then [⟨i.g, setVar x i.a (trueGs (gAt x i.a))⟩] else []) ++ (if noGs (gAt x i.a) then [⟨at_ + 1, setVar x i.a (falseGs (gAt x i.a))⟩] else []), false, false)
 else if i.k = 17 then ((if yesGs (gAt x i.a) then [⟨at_ + 1, setVar x i.a (trueGs (gAt x i.a))⟩] else []), false, noGs (gAt x i.a))
 else if i.k = 13 then (if (gAt x i.a).s.length = 0 then ([], noThing (gAt x i.a), false) else ([⟨at_ + 1, putPic x i.n (gAt x i.b) (gAt x i.a).s⟩], noThing (gAt x i.a), false))
 else if nothingGs (comesGs i at_ x).1 then ([], (comesGs i at_ x).2, false)
 else ([⟨at_ + 1, setVar (if i.k = 11 then newPic at_ x else x) i.tgt (comesGs i at_ x).1⟩], (comesGs i at_ x).2, false)

section
variable {V F : Int} {c : List Ins} {x : Pic} {g b : Gs}
theorem gAt_ck (hx : PicOk V F c x) (i : Int) : ckGs c (gAt x i) = 0 := by
 unfold gAt
 by_cases h : i.toNat < x.vars.length
 ·simp only [List.getD, List.getElem?_eq_getElem h, Option.getD_some]
  exact hx.gv _ (List.getElem_mem h)
 ·simp only [List.getD, List.getElem?_eq_none (Nat.not_lt.1 h), Option.getD_none]
  rfl
theorem fAt_ck (hx : PicOk V F c x) (s n : Int) : ckGs c (fAt x s n) = 0 := by
 unfold fAt
 by_cases h : s.toNat < x.flds.length
 ·rw [getD_row h]
  by_cases h2 : n.toNat < x.flds[s.toNat].length
  ·simp only [List.getD, List.getElem?_eq_getElem h2, Option.getD_some]
   exact hx.gf _ h _ (List.getElem_mem h2)
  ·simp only [List.getD, List.getElem?_eq_none (Nat.not_lt.1 h2), Option.getD_none]
   rfl
 ·rw [getD_none h]
  rfl
theorem modify_get {L : List (List Gs)} {s k : Nat} {f : List Gs → List Gs} (h : k < (L.modify s f).length) : (L.modify s f)[k] = if s = k then f (L[k]'(by simpa using h)) else L[k]'(by simpa using h) := by
 rw [List.getElem_modify]
theorem PicOk.setFld (hx : PicOk V F c x) (s n : Int) (h0 : 0 ≤ s) (hs : isSite c s = true) (hg : ckGs c g = 0) : PicOk V F c (setFld x s n g) := by
 refine ⟨hx.none, hx.vars, by simpa [Go.Proofs.YtmapdpcfanecdabGreat.setFld] using hx.flds, fun k h => ?_, hx.gv, fun k h q hq => ?_, fun k h => ?_⟩
 ·have h' : k < x.flds.length := by simpa [Go.Proofs.YtmapdpcfanecdabGreat.setFld] using h
  show (((x.flds.modify s.toNat fun r => r.set n.toNat g)[k]'(by simpa using h')).length : Int) = F
  rw [modify_get]
  split
  ·rw [List.length_set]; exact hx.row k h'
  ·exact hx.row k h'
 ·have h' : k < x.flds.length := by simpa [Go.Proofs.YtmapdpcfanecdabGreat.setFld] using h
  have hq' : q ∈ (x.flds.modify s.toNat fun r => r.set n.toNat g)[k]'(by simpa using h') := hq
  rw [modify_get] at hq'
  split at hq'
  ·rcases mem_set_or hq' with rfl | hq'
   ·exact hg
   ·exact hx.gf k h' q hq'
  ·exact hx.gf k h' q hq'
 ·have h' : k < x.flds.length := by simpa [Go.Proofs.YtmapdpcfanecdabGreat.setFld] using h
  by_cases e : s.toNat = k
  ·left
   rw [← e, Int.toNat_of_nonneg h0]
   exact hs
  ·rcases hx.stray k h' with a | a
   ·exact .inl a
   ·right
    intro q hq
    have hq' : q ∈ (x.flds.modify s.toNat fun r => r.set n.toNat g)[k]'(by simpa using h') := hq
    rw [modify_get, if_neg e] at hq'
    exact a q hq'
theorem getGs_ck (hx : PicOk V F c x) (n : Int) (l : List Int) : ckGs c (getGs x n l) = 0 := by
 unfold getGs
 have : ∀ (l : List Int) (g : Gs), ckGs c g = 0 → ckGs c (l.foldl (fun g s => joinGs false g (fAt x s n)) g) = 0 := by
  intro l
  induction l with
  | nil => exact fun g h => h
  | cons s l ih => exact fun g h => ih _ (ckGs_join h (fAt_ck hx s n))
 exact this l _ rfl
theorem putPic_ok (hx : PicOk V F c x) (n : Int) (hb : ckGs c b = 0) : ∀ (l : List Int), (∀ s ∈ l, isSite c s = true) → PicOk V F c (putPic x n b l) := by
 intro l
 unfold putPic
 induction l generalizing x with
 | nil => exact fun _ => hx
 | cons s l ih =>
  intro h
  have hs := h s (by simp)
  exact ih (hx.setFld s n (isSite_range hs).1 hs (ckGs_join (fAt_ck hx s n) hb)) fun t ht => h t (by simp [ht])
theorem none_Ok : (⟨true, 0, 0⟩ : Sp).Ok := ⟨by unfold inNum; simp only; omega, by unfold inNum; simp only; omega, fun _ => ⟨rfl, rfl⟩, Int.le_refl _⟩
theorem some_Ok {lo hi : Int} (h1 : -2147483648 ≤ lo) (h2 : hi ≤ 2147483647) (h : lo ≤ hi) : (⟨false, lo, hi⟩ : Sp).Ok := ⟨⟨h1, by simp only; omega⟩, ⟨by simp only; omega, h2⟩, (fun h => by cases h), h⟩
theorem ckGs_flags {n t f : Bool} {sp : Sp} (h : sp.Ok) : ckGs c ⟨n, sp, t, f, []⟩ = 0 := by
 rw [ckGs_iff]
 exact ⟨h, fun x hx => by simp at hx, rfl⟩
theorem doGs_ck {k : Int} {h : Gs} (hg : ckGs c g = 0) (hh : ckGs c h = 0) : ckGs c (doGs k g h).1 = 0 := by
 unfold doGs
 split
 ·exact hg
 split
 ·exact ckGs_flags none_Ok
 split
 ·rfl
 split
 ·exact ckGs_flags none_Ok
 split
 ·exact ckGs_flags none_Ok
 ·exact ckGs_flags (do_ok (ckGs_iff.1 hg).1 (ckGs_iff.1 hh).1)
theorem isSite_new {p : Int} (h0 : 0 ≤ p) (h1 : p < c.length) (hk : (insAt c p).k = 11) : isSite c p = true := by
 unfold isSite
 unfold insAt zeroIns at hk
 rw [hk]
 simp [h0, h1]
theorem comesGs_ck (hp : ProgOk V F c) (hx : PicOk V F c x) {p : Int} (h0 : 0 ≤ p) (h1 : p < c.length) : ckGs c (comesGs (insAt c p) p x).1 = 0 := by
 obtain ⟨q1, q2, q3, q4, q5, q6, q7, q8, q9⟩ := ckOne_parts (hp.each _ (insAt_mem h0 h1))
 unfold comesGs
 split
 ·rename_i h
  have := q7 h
  exact ckGs_flags (some_Ok (by omega) (by omega) (by omega))
 split
 ·exact ckGs_flags none_Ok
 split
 ·exact ckGs_flags none_Ok
 split
 ·rename_i h
  rw [ckGs_iff]
  refine ⟨none_Ok, fun y hy => ?_, rfl⟩
  rw [List.mem_singleton.1 hy]
  exact isSite_new h0 h1 h
 split
 ·exact getGs_ck hx _ _
 split
 ·rename_i h
  have := q9 h
  exact ckGs_flags (some_Ok (by omega) (by omega) (by omega))
 ·exact doGs_ck (gAt_ck hx _) (gAt_ck hx _)
end
end
section
open Go.RowKit
/-- A block's cells, which may be written. -/
def Cells (w : World) (b : Nat) (cs : List Value) : Prop := (∀ (j : Nat) (v : Value), cs[j]? = some v → w.cell? ⟨b, j, none⟩ = some v) ∧ b < w.heap.size ∧ ∀ j, w.frozen? ⟨b, j, none⟩ = false
section
variable {w w' : World} {b : Nat} {cs : List Value}
theorem Cells.same (h : Cells w b cs) (hb : w'.heap[b]? = w.heap[b]?) (hz : w.heap.size ≤ w'.heap.size) : Cells w' b cs := ⟨fun j v hj => by rw [World.cell?_of_block (a := ⟨b, j, none⟩) hb]; exact h.1 j v hj, Nat.lt_of_lt_of_le h.2.1 hz, fun j => by rw [World.frozen?_of_block (a := ⟨b, j, none⟩) hb]; exact h.2.2 j⟩
theorem Cells.call (h : Cells w b cs) (hb : Below w.heap.size w w') : Cells w' b cs := h.same (hb.block b h.2.1) hb.size
theorem Cells.far (h : Cells w b cs) {a : Addr} (ha : b ≠ a.block) (u : Value) : Cells (w.setCell a u) b cs := h.same (Below.heap_setCell _ _ _ _ ha) (by simp [World.setCell])
theorem Cells.put (h : Cells w b cs) (j : Nat) (hj : j < cs.length) (u : Value) : Cells (w.setCell ⟨b, j, none⟩ u) b (cs.set j u) := by
 refine ⟨fun k v hk => ?_, by simpa [World.setCell] using h.2.1, fun k => by rw [World.frozen?_setCell]; exact h.2.2 k⟩
 by_cases e : k = j
 ·subst e
  rw [List.getElem?_set_self hj] at hk
  cases hk
  exact World.cell?_setCell_same _ _ _ (h.1 k cs[k] (List.getElem?_eq_getElem hj))
 ·rw [List.getElem?_set_ne (Ne.symm e)] at hk
  rw [World.cell?_setCell_other _ _ _ _ (by intro e'; cases e'; exact e rfl)]
  exact h.1 k v hk
theorem Cells.new (w : World) (t : TypeId) (cs : List Value) : Cells (w.alloc (.cells cs.toArray t)) w.heap.size cs := by
 refine ⟨fun j v hj => ?_, by simp, fun j => ?_⟩
 ·have : (w.alloc (.cells cs.toArray t)).cell? ⟨w.heap.size, j, none⟩ = cs.toArray[j]? := World.cell?_alloc_mark w cs.toArray t (0, 0) j
  rw [this]
  simpa using hj
 ·have := World.frozen?_alloc_mark w cs.toArray t 0 0 j
  rw [this]
  simp
end
/-- What a stepper holds. -/
def stpC (i : Ins) (V F : Int) (s : Option Addr) (c : List Ins) (cap : Nat) (at_ : Int) (x : Pic) (vs : Option Addr) (vc : Nat) (fs : Option Addr) (fc : Nat) (ev : Value) (wr fl : Bool) : List Value :=
 [.int .i64 i.k, .int .i64 i.tgt, .int .i64 i.a, .int .i64 i.b, .int .i64 i.n, .int .i64 i.g, .int .i64 V, .int .i64 F, .slice s c.length cap, .int .i64 at_, .bool x.none, .slice vs x.vars.length vc, .slice fs x.flds.length fc, ev, .bool wr, .bool fl]
/-- An edge, and where its picture lies. -/
structure Ed where
 tgt : Int
 pic : Pic
 vs : Option Addr
 vc : Nat
 fs : Option Addr
 fc : Nat
def edCells (e : Ed) : List Value := [.int .i64 e.tgt, .bool e.pic.none, .slice e.vs e.pic.vars.length e.vc, .slice e.fs e.pic.flds.length e.fc]
def edG (e : Ed) : Edg := ⟨e.tgt, e.pic⟩
def EdIn (S : Nat → Prop) (w : World) (e : Ed) : Prop := PicOn S w e.pic e.vs e.fs ∧ (e.pic.vars.length ≤ e.vc ∧ e.vc ≤ maxLen) ∧ (e.pic.flds.length ≤ e.fc ∧ e.fc ≤ maxLen)
theorem edCells_one (e : Ed) : ∀ u ∈ edCells e, u.oneCell' = true := by
 intro u hu
 simp only [edCells, List.mem_cons, List.not_mem_nil, or_false] at hu
 rcases hu with rfl | rfl | rfl | rfl <;> rfl
theorem edCells_get : ∀ (l : List Ed) (i : Nat) (h : i < l.length) (j : Nat) (_ : j < 4), (l.flatMap edCells)[i * 4 + j]? = (edCells l[i])[j]?
 | [], i, h, _, _ => absurd h (by simp)
 | x :: r, 0, _, j, hj => by
  rw [List.flatMap_cons, Nat.zero_mul, Nat.zero_add, List.getElem?_append_left (by simpa [edCells] using hj)]
  rfl
 | x :: r, i + 1, h, j, hj => by
  have e4 : (edCells x).length = 4 := rfl
  rw [List.flatMap_cons, List.getElem?_append_right (by rw [e4]; omega), e4]
  have : (i + 1) * 4 + j - 4 = i * 4 + j := by omega
  rw [this, edCells_get r i (by simpa using h) j hj]
  rfl
/-- Edges in a row of their own, from block n on, away from block sb. -/
structure ERow (n sb : Nat) (w : World) (v : Value) (L : List Ed) : Prop where
 own : w.ownsRow n 56 4 v L.length (L.flatMap edCells)
 off : v.ownBlock ≠ some sb
 pics : ∀ e ∈ L, EdIn (fun b => n ≤ b ∧ b ≠ sb ∧ v.ownBlock ≠ some b) w e
section
variable {n sb : Nat} {w w' : World} {v v' : Value} {L : List Ed}
theorem ERow.nil (n sb : Nat) (w : World) : ERow n sb w (.slice none 0 0) [] := ⟨⟨rfl, .inl ⟨rfl, rfl⟩⟩, (fun h => by cases h), fun e he => by simp at he⟩
theorem ERow.same (h : ERow n sb w v L) (hs : ∀ b, n ≤ b → b ≠ sb → b < w.heap.size → w'.heap[b]? = w.heap[b]?) (hz : w.heap.size ≤ w'.heap.size) : ERow n sb w' v L :=
 ⟨ownsI_same h.own fun b hb => hs b (ownsI_lt h.own hb).2 (fun e => h.off (by rw [hb, e])) (ownsI_lt h.own hb).1, h.off, fun e he => ⟨((h.pics e he).1.same (fun b hb hlt => hs b hb.1 hb.2.1 hlt) hz).mono fun b hb _ => hb.1, (h.pics e he).2⟩⟩
theorem ERow.call (h : ERow n sb w v L) (hb : Below w.heap.size w w') : ERow n sb w' v L := h.same (fun b _ _ hlt => hb.block b hlt) hb.size
theorem ERow.grown (h : ERow n sb w v L) {e : Ed} (he : EdIn (fun b => n ≤ b ∧ b ≠ sb ∧ v.ownBlock ≠ some b) w e) (hr : w'.ownsRow n 56 4 v' (L.length + 1) (L.flatMap edCells ++ edCells e)) (hg : w.grownBy w' v.ownBlock) (hv : v'.ownBlock = v.ownBlock ∨ v'.ownBlock = some w.heap.size) (hsb : sb < w.heap.size) : ERow n sb w' v' (L ++ [e]) := by
 refine ⟨by rw [List.length_append, List.flatMap_append]; simpa using hr, fun e' => ?_, fun q hq => ?_⟩
 ·rcases hv with hv | hv
  ·rw [hv] at e'; exact h.off e'
  ·rw [hv] at e'; cases e'; exact absurd hsb (Nat.lt_irrefl _)
 ·have hq' : EdIn (fun b => n ≤ b ∧ b ≠ sb ∧ v.ownBlock ≠ some b) w q := by
   rcases List.mem_append.1 hq with hq | hq
   ·exact h.pics q hq
   ·rw [List.mem_singleton.1 hq]; exact he
  refine ⟨(hq'.1.same (fun b hb hlt => hg.block b hlt fun e => hb.2.2 e.symm) hg.size).mono fun b hb _ => ⟨hb.1.1, hb.1.2.1, ?_⟩, hq'.2⟩
  rcases hv with hv | hv
  ·rw [hv]; exact hb.1.2.2
  ·rw [hv]; intro e; cases e; exact absurd hb.2 (Nat.lt_irrefl _)
theorem ERow.form (h : ERow n sb w v L) : ∃ es ec, v = .slice es L.length ec ∧ L.length ≤ ec ∧ ec ≤ maxLen := by
 rcases h.own.2 with ⟨e, h0⟩ | ⟨g, cap, cur, e, _, _, k1, k2, _⟩
 ·exact ⟨none, 0, by rw [e, h0], by omega, Nat.zero_le _⟩
 ·exact ⟨some ⟨g, 0, none⟩, cap, e, k1, k2⟩
end
/-- Blocks in which the sites of an edge's picture may lie. -/
def ClT (n sb : Nat) (eb : Option Nat) (xb b : Nat) : Prop := n ≤ b ∧ b ≠ sb ∧ b ≠ xb ∧ eb ≠ some b
/-- What a change of a picture is handed, and leaves: a variable, and a picture whose rows lie in blocks from H on, away from it. -/
def ClPre (n sb : Nat) (eb : Option Nat) (H : Nat) (w : World) (xb : Nat) (v : Ro) (gs : Option Addr) (gc : Nat) (L : List Ro) (x : Pic) : Prop :=
 H ≤ xb ∧ Cells w xb [.bool false, .slice v.rs v.l.length v.rc, .slice gs L.length gc] ∧ PicG (ClT n sb eb xb) H w v gs gc L ∧ Off v (Value.slice gs L.length gc).ownBlock L xb ∧ picOf false v L = x
end
section
set_option maxHeartbeats 1000000
set_option maxRecDepth 100000
open Go.RowKit

/-- Two spans that came in, and one that goes out, in memory. -/
abbrev w3 (s t r : Sp) (w : World) : World := ((w.alloc (.cells #[.bool s.n, .int .i64 s.lo, .int .i64 s.hi] 58)).alloc (.cells #[.bool t.n, .int .i64 t.lo, .int .i64 t.hi] 58)).alloc (.cells #[.bool r.n, .int .i64 r.lo, .int .i64 r.hi] 58)

theorem w3_cells {B : Nat} {s t r : Sp} {w w1 : World} (hb : Below B (w3 s t r w) w1) (hB : w.heap.size + 2 < B) : (w1.cell? ⟨w.heap.size, 0, none⟩ = some (.bool s.n) ∧ w1.cell? ⟨w.heap.size, 1, none⟩ = some (.int .i64 s.lo) ∧ w1.cell? ⟨w.heap.size, 2, none⟩ = some (.int .i64 s.hi)) ∧ (w1.cell? ⟨w.heap.size + 1, 0, none⟩ = some (.bool t.n) ∧ w1.cell? ⟨w.heap.size + 1, 1, none⟩ = some (.int .i64 t.lo) ∧ w1.cell? ⟨w.heap.size + 1, 2, none⟩ = some (.int .i64 t.hi)) ∧ (w1.cell? ⟨w.heap.size + 1 + 1, 0, none⟩ = some (.bool r.n) ∧ w1.cell? ⟨w.heap.size + 1 + 1, 1, none⟩ = some (.int .i64 r.lo) ∧ w1.cell? ⟨w.heap.size + 1 + 1, 2, none⟩ = some (.int .i64 r.hi)) ∧ (w1.frozen? ⟨w.heap.size + 1 + 1, 0, none⟩ = false ∧ w1.frozen? ⟨w.heap.size + 1 + 1, 1, none⟩ = false ∧ w1.frozen? ⟨w.heap.size + 1 + 1, 2, none⟩ = false) ∧ (w.heap.size < w1.heap.size ∧ w.heap.size + 1 < w1.heap.size ∧ w.heap.size + 1 + 1 < w1.heap.size) := by
 have hs := hb.size
 rw [hb.cell (by simp; omega), hb.cell (by simp; omega), hb.cell (by simp; omega), hb.cell (by simp; omega), hb.cell (by simp; omega), hb.cell (by simp; omega), hb.cell (by simp; omega), hb.cell (by simp; omega), hb.cell (by simp; omega), hb.frozen (by simp; omega), hb.frozen (by simp; omega), hb.frozen (by simp; omega)]
 simp [go_sem] at hs ⊢
 omega

theorem w3_below (s t r : Sp) (w : World) : Below w.heap.size w (w3 s t r w) := by go_grown

theorem together_err (F : Nat) (s t : Sp) (w : World) (h : ckSps s t ≠ 0) :
  Calls Tryz.prog 111 #[sv s, sv t, .func (.func F) #[] #[]] w fun e w' => e = .returned (.tuple #[sv zeroSp, .int .i64 (ckSps s t)]) ∧ Below w.heap.size w w' := by
 obtain ⟨n, lo, hi⟩ := s
 obtain ⟨n', lo', hi'⟩ := t
 go_enter Tryz.func111, Tryz.ntmps111
 go_wp2_with (go_at_call 138; fail)
 refine (checkBoth_any ⟨n, lo, hi⟩ ⟨n', lo', hi'⟩ _).mono ?_
 rintro e w1 ⟨rfl, hb1⟩
 obtain ⟨⟨c0, c1, c2⟩, ⟨d0, d1, d2⟩, ⟨r0, r1, r2⟩, ⟨f0, f1, f2⟩, z0, z1, z2⟩ := w3_cells (s := ⟨n, lo, hi⟩) (t := ⟨n', lo', hi'⟩) (r := zeroSp) hb1 (by simp)
 have H1 : Below w.heap.size w w1 := (w3_below ⟨n, lo, hi⟩ ⟨n', lo', hi'⟩ zeroSp w).trans (hb1.mono (by simp; omega))
 clear hb1
 simp only [zeroSp] at r0 r1 r2
 go_wp2
 refine bodyPost_ret (v := .tuple #[sv zeroSp, .int .i64 (ckSps ⟨n, lo, hi⟩ ⟨n', lo', hi'⟩)]) (by simp [results, Tryz.results111, go_sem, r0, r1, r2, zeroSp]) rfl ⟨rfl, ?_⟩
 exact ((H1.setCell (by simp; omega) _).setCell (by simp; omega) _).setCell (by simp; omega) _

theorem prf_6f29cf {p : Prop} (h : p := by
 obtain ⟨rn, rlo, rhi⟩ := r
 go_wp2
 refine bodyPost_ret (v := .tuple #[sv ⟨rn, rlo, rhi⟩, .int .i64 0]) (by simp [results, Tryz.results111, go_sem, g0, g1, g2]) rfl ⟨by rw [hr], ?_⟩
 exact ((H2.setCell (by simp; omega) _).setCell (by simp; omega) _).setCell (by simp; omega) _) : p := h
theorem together_join (s t : Sp) (w : World) (h : ckSps s t = 0) :
  Calls Tryz.prog 111 #[sv s, sv t, .func (.func 137) #[] #[]] w fun e w' => e = .returned (.tuple #[sv (joinSp s t), .int .i64 0]) ∧ Below w.heap.size w w' := by
 obtain ⟨n, lo, hi⟩ := s
 obtain ⟨n', lo', hi'⟩ := t
 go_enter Tryz.func111, Tryz.ntmps111
 go_wp2_with (go_at_call 138; fail)
 refine (checkBoth_any ⟨n, lo, hi⟩ ⟨n', lo', hi'⟩ _).mono ?_
 rintro e w1 ⟨rfl, hb1⟩
 obtain ⟨⟨c0, c1, c2⟩, ⟨d0, d1, d2⟩, ⟨r0, r1, r2⟩, ⟨f0, f1, f2⟩, z0, z1, z2⟩ := w3_cells (s := ⟨n, lo, hi⟩) (t := ⟨n', lo', hi'⟩) (r := zeroSp) hb1 (by simp)
 have H1 : Below w.heap.size w w1 := (w3_below ⟨n, lo, hi⟩ ⟨n', lo', hi'⟩ zeroSp w).trans (hb1.mono (by simp; omega))
 rw [h]
 simp only [zeroSp] at r0 r1 r2
 clear hb1
 go_wp2_with (go_at_call 137; fail)
 refine (join_any ⟨n, lo, hi⟩ ⟨n', lo', hi'⟩ _).mono ?_
 rintro e w2 ⟨rfl, hb2⟩
 have g0 := r0; have g1 := r1; have g2 := r2; have k0 := f0; have k1 := f1; have k2 := f2
 rw [← hb2.cell z2] at g0 g1 g2
 rw [← hb2.frozen z2] at k0 k1 k2
 have H2 : Below w.heap.size w w2 := H1.trans (hb2.mono (by omega))
 clear r0 r1 r2 f0 f1 f2 hb2 c0 c1 c2 d0 d1 d2
 generalize hr : joinSp ⟨n, lo, hi⟩ ⟨n', lo', hi'⟩ = r
 exact prf_6f29cf

theorem together_meet (s t : Sp) (w : World) (h : ckSps s t = 0) :
  Calls Tryz.prog 111 #[sv s, sv t, .func (.func 112) #[] #[]] w fun e w' => e = .returned (.tuple #[sv (meetSp s t), .int .i64 0]) ∧ Below w.heap.size w w' := by
 obtain ⟨n, lo, hi⟩ := s
 obtain ⟨n', lo', hi'⟩ := t
 go_enter Tryz.func111, Tryz.ntmps111
 go_wp2_with (go_at_call 138; fail)
 refine (checkBoth_any ⟨n, lo, hi⟩ ⟨n', lo', hi'⟩ _).mono ?_
 rintro e w1 ⟨rfl, hb1⟩
 obtain ⟨⟨c0, c1, c2⟩, ⟨d0, d1, d2⟩, ⟨r0, r1, r2⟩, ⟨f0, f1, f2⟩, z0, z1, z2⟩ := w3_cells (s := ⟨n, lo, hi⟩) (t := ⟨n', lo', hi'⟩) (r := zeroSp) hb1 (by simp)
 have H1 : Below w.heap.size w w1 := (w3_below ⟨n, lo, hi⟩ ⟨n', lo', hi'⟩ zeroSp w).trans (hb1.mono (by simp; omega))
 rw [h]
 simp only [zeroSp] at r0 r1 r2
 clear hb1
 go_wp2_with (go_at_call 112; fail)
 refine (meet_any ⟨n, lo, hi⟩ ⟨n', lo', hi'⟩ _).mono ?_
 rintro e w2 ⟨rfl, hb2⟩
 have g0 := r0; have g1 := r1; have g2 := r2; have k0 := f0; have k1 := f1; have k2 := f2
 rw [← hb2.cell z2] at g0 g1 g2
 rw [← hb2.frozen z2] at k0 k1 k2
 have H2 : Below w.heap.size w w2 := H1.trans (hb2.mono (by omega))
 clear r0 r1 r2 f0 f1 f2 hb2 c0 c1 c2 d0 d1 d2
 generalize hr : meetSp ⟨n, lo, hi⟩ ⟨n', lo', hi'⟩ = r
 exact prf_6f29cf
end
section
set_option maxHeartbeats 1000000
open Go.RowKit

/-- What comes beside an errno. -/
abbrev spIf (e : Int) (r : Sp) : Sp := if e = 0 then r else zeroSp

theorem tog_join (s t : Sp) (w : World) :
  Calls Tryz.prog 111 #[sv s, sv t, .func (.func 137) #[] #[]] w fun e w' => e = .returned (.tuple #[sv (spIf (ckSps s t) (joinSp s t)), .int .i64 (ckSps s t)]) ∧ Below w.heap.size w w' := by
 by_cases h : ckSps s t = 0
 ·rw [h]; exact together_join s t w h
 ·unfold spIf; rw [if_neg h]; exact together_err _ s t w h

theorem joinF_any (s t : Sp) (w : World) :
  Calls Tryz.prog 110 #[sv s, sv t] w fun e w' => e = .returned (.tuple #[sv (spIf (ckSps s t) (joinSp s t)), .int .i64 (ckSps s t)]) ∧ Below w.heap.size w w' := by
 have hT := tog_join s t
 generalize spIf (ckSps s t) (joinSp s t) = r at hT ⊢
 generalize ckSps s t = c at hT ⊢
 obtain ⟨n, lo, hi⟩ := s
 obtain ⟨n', lo', hi'⟩ := t
 obtain ⟨rn, rlo, rhi⟩ := r
 go_enter Tryz.func110, Tryz.ntmps110
 go_wp2_with (go_at_call 111; fail)
 refine (hT _).mono ?_
 rintro e w1 ⟨rfl, hb1⟩
 obtain ⟨-, -, ⟨r0, r1, r2⟩, ⟨f0, f1, f2⟩, z0, z1, z2⟩ := w3_cells (s := ⟨n, lo, hi⟩) (t := ⟨n', lo', hi'⟩) (r := zeroSp) hb1 (by simp)
 have H1 : Below w.heap.size w w1 := (w3_below ⟨n, lo, hi⟩ ⟨n', lo', hi'⟩ zeroSp w).trans (hb1.mono (by simp; omega))
 simp only [zeroSp] at r0 r1 r2
 clear hb1 hT
 go_wp2
 refine bodyPost_ret (v := .tuple #[sv ⟨rn, rlo, rhi⟩, .int .i64 c]) (by simp [results, Tryz.results110, go_sem, r0, r1, r2]) rfl ⟨rfl, ?_⟩
 exact ((H1.setCell (by simp; omega) _).setCell (by simp; omega) _).setCell (by simp; omega) _

theorem tog_meet (s t : Sp) (w : World) :
  Calls Tryz.prog 111 #[sv s, sv t, .func (.func 112) #[] #[]] w fun e w' => e = .returned (.tuple #[sv (spIf (ckSps s t) (meetSp s t)), .int .i64 (ckSps s t)]) ∧ Below w.heap.size w w' := by
 by_cases h : ckSps s t = 0
 ·rw [h]; exact together_meet s t w h
 ·unfold spIf; rw [if_neg h]; exact together_err _ s t w h

theorem meetF_any (s t : Sp) (w : World) :
  Calls Tryz.prog 86 #[sv s, sv t] w fun e w' => e = .returned (.tuple #[sv (spIf (ckSps s t) (meetSp s t)), .int .i64 (ckSps s t)]) ∧ Below w.heap.size w w' := by
 have hT := tog_meet s t
 generalize spIf (ckSps s t) (meetSp s t) = r at hT ⊢
 generalize ckSps s t = c at hT ⊢
 obtain ⟨n, lo, hi⟩ := s
 obtain ⟨n', lo', hi'⟩ := t
 obtain ⟨rn, rlo, rhi⟩ := r
 go_enter Tryz.func86, Tryz.ntmps86
 go_wp2_with (go_at_call 111; fail)
 refine (hT _).mono ?_
 rintro e w1 ⟨rfl, hb1⟩
 obtain ⟨-, -, ⟨r0, r1, r2⟩, ⟨f0, f1, f2⟩, z0, z1, z2⟩ := w3_cells (s := ⟨n, lo, hi⟩) (t := ⟨n', lo', hi'⟩) (r := zeroSp) hb1 (by simp)
 have H1 : Below w.heap.size w w1 := (w3_below ⟨n, lo, hi⟩ ⟨n', lo', hi'⟩ zeroSp w).trans (hb1.mono (by simp; omega))
 simp only [zeroSp] at r0 r1 r2
 clear hb1 hT
 go_wp2
 refine bodyPost_ret (v := .tuple #[sv ⟨rn, rlo, rhi⟩, .int .i64 c]) (by simp [results, Tryz.results86, go_sem, r0, r1, r2]) rfl ⟨rfl, ?_⟩
 exact ((H1.setCell (by simp; omega) _).setCell (by simp; omega) _).setCell (by simp; omega) _

theorem within_err (s t : Sp) (w : World) (h : ckSps s t ≠ 0) :
  Calls Tryz.prog 119 #[sv s, sv t] w fun e w' => e = .returned (.tuple #[.bool false, .int .i64 (ckSps s t)]) ∧ Below w.heap.size w w' := by
 have hT := meetF_any s t
 have h' : (ckSps s t == 0) = false := by simpa using h
 generalize spIf (ckSps s t) (meetSp s t) = r at hT
 generalize ckSps s t = c at hT h h' ⊢
 obtain ⟨n, lo, hi⟩ := s
 obtain ⟨n', lo', hi'⟩ := t
 obtain ⟨rn, rlo, rhi⟩ := r
 have h0 : Below w.heap.size w ((w.alloc (.cells #[.bool n, .int .i64 lo, .int .i64 hi] 58)).alloc (.cells #[.bool n', .int .i64 lo', .int .i64 hi'] 58)) := by go_grown
 go_enter Tryz.func119, Tryz.ntmps119
 go_wp2_with (go_at_call 86; fail)
 refine (hT _).mono ?_
 rintro e w1 ⟨rfl, hb1⟩
 obtain ⟨c0, c1, c2, d0, d1, d2⟩ := sp_cells2 hb1 (by simp)
 have H1 : Below w.heap.size w w1 := h0.trans (hb1.mono (by simp; omega))
 have z0 : w.heap.size < w1.heap.size := by have := hb1.size; simp at this; omega
 clear hb1 hT
 go_wp2
 go_ret2
 exact ⟨rfl, H1.alloc (by omega) _⟩

/-- Are two spans the same, part by part? -/
theorem sp_eq (r : Sp) (s : Sp) : @decide _ (r.dq s) = (r.n == s.n && (r.lo == s.lo && r.hi == s.hi)) := by
 obtain ⟨n, lo, hi⟩ := r
 obtain ⟨n', lo', hi'⟩ := s
 rw [Bool.eq_iff_iff]
 simp

theorem within_ok (s t : Sp) (w : World) (h : ckSps s t = 0) :
  Calls Tryz.prog 119 #[sv s, sv t] w fun e w' => e = .returned (.tuple #[.bool (@decide _ ((meetSp s t).dq s)), .int .i64 0]) ∧ Below w.heap.size w w' := by
 have hT := meetF_any s t
 rw [h] at hT
 have e0 : spIf 0 (meetSp s t) = meetSp s t := rfl
 rw [e0] at hT
 rw [sp_eq]
 clear e0 h
 generalize meetSp s t = r at hT ⊢
 obtain ⟨n, lo, hi⟩ := s
 obtain ⟨n', lo', hi'⟩ := t
 obtain ⟨rn, rlo, rhi⟩ := r
 have h0 : Below w.heap.size w ((w.alloc (.cells #[.bool n, .int .i64 lo, .int .i64 hi] 58)).alloc (.cells #[.bool n', .int .i64 lo', .int .i64 hi'] 58)) := by go_grown
 go_enter Tryz.func119, Tryz.ntmps119
 go_wp2_with (go_at_call 86; fail)
 refine (hT _).mono ?_
 rintro e w1 ⟨rfl, hb1⟩
 obtain ⟨c0, c1, c2, d0, d1, d2⟩ := sp_cells2 hb1 (by simp)
 have H1 : Below w.heap.size w w1 := h0.trans (hb1.mono (by simp; omega))
 have z0 : w.heap.size < w1.heap.size := by have := hb1.size; simp at this; omega
 clear hb1 hT
 go_wp2
 all_goals go_ret2
 all_goals exact ⟨ret_t2b (by simp_all), H1.alloc (by omega) _⟩

theorem within_any (s t : Sp) (w : World) :
  Calls Tryz.prog 119 #[sv s, sv t] w fun e w' => e = .returned (.tuple #[.bool (decide (ckSps s t = 0) && @decide _ ((meetSp s t).dq s)), .int .i64 (ckSps s t)]) ∧ Below w.heap.size w w' := by
 by_cases h : ckSps s t = 0
 ·have := within_ok s t w h
  rw [h]
  simpa using this
 ·have := within_err s t w h
  simpa [h] using this
end
section
set_option maxHeartbeats 2000000
set_option maxRecDepth 10000
open Go.RowKit
attribute [local go_sem ↓] Go.wp_at_zero Go.wp_at_succ

theorem next_any (sb : Nat) (at_ : Int) (cs : List Value) (w : World) (h : Cells w sb cs) (h9 : cs[9]? = some (.int .i64 at_)) (h0 : 0 ≤ at_) (h1 : at_ ≤ 1000) :
  Calls Tryz.prog 48 #[.pointer (some ⟨sb, 0, none⟩)] w fun e w' => e = .returned (.int .i64 (at_ + 1)) ∧ w' = w := by
 have c9 := h.1 9 _ h9
 clear h h9
 go_enter Tryz.func48, Tryz.ntmps48
 go_wp2
 go_ret
 exact ⟨ret_int (by go_num), rfl⟩
theorem trueSp_meet {s : Sp} (hs : s.Ok) : trueSp s = (if (if s.lo = 0 then meetSp s ⟨false, 1, 2147483647⟩ else s).hi = 0 then meetSp (if s.lo = 0 then meetSp s ⟨false, 1, 2147483647⟩ else s) ⟨false, -2147483648, -1⟩ else (if s.lo = 0 then meetSp s ⟨false, 1, 2147483647⟩ else s)) := by
 obtain ⟨⟨a1, a2⟩, ⟨a3, a4⟩, a5, a6⟩ := hs
 obtain ⟨n, lo, hi⟩ := s
 simp only at a1 a2 a3 a4 a5 a6
 cases n with
 | true =>
  obtain ⟨rfl, rfl⟩ := a5 rfl
  rfl
 | false =>
  by_cases h1 : lo = 0
  ·subst h1
   by_cases h2 : hi = 0
   ·subst h2; rfl
   ·have e1 : min hi 2147483647 = hi := by omega
    have e2 : max (0 : Int) 1 = 1 := by omega
    have e3 : ¬ hi < 1 := by omega
    simp [trueSp, meetSp, h2, e1, e2, e3]
  ·by_cases h2 : hi = 0
   ·subst h2
    have e1 : min (0 : Int) (-1) = -1 := by omega
    have e2 : max lo (-2147483648) = lo := by omega
    have e3 : ¬ -1 < lo := by omega
    simp [trueSp, meetSp, h1, e1, e2, e3]
   ·have e3 : ¬ hi < lo := by omega
    simp [trueSp, h1, h2, e3]
theorem meet_Ok {s t : Sp} (hs : s.Ok) (ht : t.Ok) : (meetSp s t).Ok := by
 obtain ⟨⟨a1, a2⟩, ⟨a3, a4⟩, a5, a6⟩ := hs
 obtain ⟨⟨b1, b2⟩, ⟨b3, b4⟩, b5, b6⟩ := ht
 unfold meetSp
 split
 ·exact none_Ok
 ·rename_i h
  simp only [Bool.or_eq_true, decide_eq_true_eq, not_or] at h
  exact some_Ok (by omega) (by omega) (by omega)
theorem ckSps_both {s t : Sp} (hs : s.Ok) (ht : t.Ok) : ckSps s t = 0 := ckSps_ok.2 ⟨hs, ht⟩
theorem withoutZero_any (s : Sp) (w : World) (hs : s.Ok) :
  Calls Tryz.prog 84 #[sv s] w fun e w' => e = .returned (sv (trueSp s)) ∧ Below w.heap.size w w' := by
 rw [trueSp_meet hs]
 have HM : Hid (∀ (a b : Sp) wx, a.Ok → b.Ok → Calls Tryz.prog 86 #[sv a, sv b] wx fun e w' => e = .returned (.tuple #[sv (meetSp a b), .int .i64 0]) ∧ Below wx.heap.size wx w') := fun a b wx ha hb => by
  have := meetF_any a b wx
  rw [ckSps_both ha hb] at this
  exact this
 have B0 : Below w.heap.size w ((w.alloc (.cells #[.bool s.n, .int .i64 s.lo, .int .i64 s.hi] 58)).alloc (.cells #[.bool false, .int .i64 0, .int .i64 0] 58)) := by go_grown
 have A0 : Cells ((w.alloc (.cells #[.bool s.n, .int .i64 s.lo, .int .i64 s.hi] 58)).alloc (.cells #[.bool false, .int .i64 0, .int .i64 0] 58)) w.heap.size [.bool s.n, .int .i64 s.lo, .int .i64 s.hi] := (Cells.new w 58 [.bool s.n, .int .i64 s.lo, .int .i64 s.hi]).call (by go_grown)
 have R0 : Cells ((w.alloc (.cells #[.bool s.n, .int .i64 s.lo, .int .i64 s.hi] 58)).alloc (.cells #[.bool false, .int .i64 0, .int .i64 0] 58)) (w.heap.size + 1) [.bool false, .int .i64 0, .int .i64 0] := by
  have := Cells.new (w.alloc (.cells #[.bool s.n, .int .i64 s.lo, .int .i64 s.hi] 58)) 58 [.bool false, .int .i64 0, .int .i64 0]
  rw [World.size_alloc] at this
  exact this
 have HK1 : Hid ((⟨false, 1, 2147483647⟩ : Sp).Ok) := some_Ok (by omega) (by omega) (by omega)
 have HK2 : Hid ((⟨false, -2147483648, -1⟩ : Sp).Ok) := some_Ok (by omega) (by omega) (by omega)
 obtain ⟨m1, hm1⟩ : ∃ q, q = (if s.lo = 0 then meetSp s ⟨false, 1, 2147483647⟩ else s) := ⟨_, rfl⟩
 rw [← hm1]
 have HO1 : Hid (m1.Ok) := by
  show m1.Ok
  rw [hm1]
  split
  ·exact meet_Ok hs HK1.out
  ·exact hs
 have HM1 := hideH hm1
 clear hm1
 obtain ⟨m2, hm2⟩ : ∃ q, q = (if m1.hi = 0 then meetSp m1 ⟨false, -2147483648, -1⟩ else m1) := ⟨_, rfl⟩
 rw [← hm2]
 have HM2 := hideH hm2
 have HS := hideH hs
 clear hm2 hs
 go_enter Tryz.func84, Tryz.ntmps84
 go_upto_if 5 with fail
 generalize ((w.alloc (.cells #[.bool s.n, .int .i64 s.lo, .int .i64 s.hi] 58)).alloc (.cells #[.bool false, .int .i64 0, .int .i64 0] 58)) = w0 at *
 go_cut [] (fun wy => Cells wy w.heap.size [.bool m1.n, .int .i64 m1.lo, .int .i64 m1.hi] ∧ Cells wy (w.heap.size + 1) [.bool false, .int .i64 0, .int .i64 0] ∧ Below w.heap.size w wy)
 case first =>
  have a0 := A0.1 0 _ rfl
  have a1 := A0.1 1 _ rfl
  have a2 := A0.1 2 _ rfl
  by_cases e : s.lo = 0
  ·have e1 := HM1.out
   rw [if_pos e] at e1
   have E1 := hideH e1
   have eb : (s.lo == 0) = true := by simpa using e
   clear e1 e
   have HC := hideH (HM.out s ⟨false, 1, 2147483647⟩ w0 HS.out HK1.out)
   rw [← E1.out] at HC
   go_wp2_with (go_at_call 86; fail)
   refine HC.out.mono ?_
   rintro e w1 ⟨rfl, hb1⟩
   have A1 := A0.call hb1
   have R1 := R0.call hb1
   have B1 := B0.trans (hb1.mono B0.size)
   clear a0 a1 a2 hb1 A0 R0 B0 HC
   have b0 := A1.1 0 _ rfl
   have b1 := A1.1 1 _ rfl
   have b2 := A1.1 2 _ rfl
   have f0 := A1.2.2 0
   have f1 := A1.2.2 1
   have f2 := A1.2.2 2
   go_wp2_with fail
   go_meet
   exact ⟨((A1.put 0 (by simp) _).put 1 (by simp) _).put 2 (by simp) _, ((R1.far (by simp only; omega) _).far (by simp only; omega) _).far (by simp only; omega) _, ((B1.setCell (Nat.le_refl _) _).setCell (Nat.le_refl _) _).setCell (Nat.le_refl _) _⟩
  ·have e1 := HM1.out
   rw [if_neg e] at e1
   have eb : (s.lo == 0) = false := by simpa using e
   clear e
   subst e1
   go_wp2_with fail
   go_meet
   exact ⟨A0, R0, B0⟩
 obtain ⟨A1, R1, B1⟩ := hcut
 clear A0 R0 B0
 generalize wc = w1 at *
 clear wc
 have a0 := A1.1 0 _ rfl
 have a1 := A1.1 1 _ rfl
 have a2 := A1.1 2 _ rfl
 go_upto_if 14 with fail
 go_cut [] (fun wy => Cells wy w.heap.size [.bool m2.n, .int .i64 m2.lo, .int .i64 m2.hi] ∧ Cells wy (w.heap.size + 1) [.bool false, .int .i64 0, .int .i64 0] ∧ Below w.heap.size w wy)
 case first =>
  by_cases e : m1.hi = 0
  ·have e1 := HM2.out
   rw [if_pos e] at e1
   have E1 := hideH e1
   have eb : (m1.hi == 0) = true := by simpa using e
   clear e1 e
   have HC := hideH (HM.out m1 ⟨false, -2147483648, -1⟩ w1 HO1.out HK2.out)
   rw [← E1.out] at HC
   go_wp2_with (go_at_call 86; fail)
   refine HC.out.mono ?_
   rintro e w2 ⟨rfl, hb2⟩
   have A2 := A1.call hb2
   have R2 := R1.call hb2
   have B2 := B1.trans (hb2.mono B1.size)
   clear a0 a1 a2 hb2 A1 R1 B1 HC
   have b0 := A2.1 0 _ rfl
   have b1 := A2.1 1 _ rfl
   have b2 := A2.1 2 _ rfl
   have f0 := A2.2.2 0
   have f1 := A2.2.2 1
   have f2 := A2.2.2 2
   go_wp2_with fail
   go_meet
   exact ⟨((A2.put 0 (by simp) _).put 1 (by simp) _).put 2 (by simp) _, ((R2.far (by simp only; omega) _).far (by simp only; omega) _).far (by simp only; omega) _, ((B2.setCell (Nat.le_refl _) _).setCell (Nat.le_refl _) _).setCell (Nat.le_refl _) _⟩
  ·have e1 := HM2.out
   rw [if_neg e] at e1
   have eb : (m1.hi == 0) = false := by simpa using e
   clear e
   subst e1
   go_wp2_with fail
   go_meet
   exact ⟨A1, R1, B1⟩
 obtain ⟨A2, R2, B2⟩ := hcut
 clear A1 R1 B1 a0 a1 a2
 generalize wc = w2 at *
 clear wc
 have b0 := A2.1 0 _ rfl
 have b1 := A2.1 1 _ rfl
 have b2 := A2.1 2 _ rfl
 have d0 := R2.1 0 _ rfl
 have d1 := R2.1 1 _ rfl
 have d2 := R2.1 2 _ rfl
 have f0 := R2.2.2 0
 have f1 := R2.2.2 1
 have f2 := R2.2.2 2
 go_wp2
 refine bodyPost_ret (v := sv m2) (by simp [results, Tryz.results84, go_sem, d0, d1, d2]) rfl ⟨rfl, ?_⟩
 exact ((B2.setCell (by simp only; omega) _).setCell (by simp only; omega) _).setCell (by simp only; omega) _
end
section
set_option maxHeartbeats 1000000
open Go.RowKit

theorem any_drop_stepI (l : List Int) (p : Int → Bool) (k : Nat) (h : k < l.length) : (l.drop k).any p = (p l[k] || (l.drop (k + 1)).any p) := by
 rw [List.drop_eq_getElem_cons h]; rfl

theorem indexI_le (l : List Int) (x : Int) (k : Nat) (h : k < l.length) : x ∈ l.drop k ↔ (x = l[k] ∨ x ∈ l.drop (k + 1)) := by
 rw [List.drop_eq_getElem_cons h, List.mem_cons]

theorem indexI_any (x : Int) (ss : Option Addr) (cap : Nat) (l : List Int) (w : World) (hl : l.length ≤ 9223372036854775807) (hs : IntsAt w ss l) :
  Calls Tryz.prog 143 #[.slice ss l.length cap, .int .i64 x] w fun e w' => ∃ n : Int, e = .returned (.int .i64 n) ∧ (0 ≤ n ↔ x ∈ l) ∧ w' = w := by
 go_enter Tryz.func143, Tryz.ntmps143
 go_wp2
 go_loop [8] (fun i => ∃ k : Nat, k ≤ l.length ∧ i = .int .i64 k ∧ Hid (x ∈ l ↔ x ∈ l.drop k)) (fun i => l.length - (intOf i).toNat)
 case atStart => exact ⟨0, Nat.zero_le _, rfl, Iff.rfl⟩
 case round =>
  obtain ⟨k, hk, rfl, HA⟩ := hrel
  by_cases hlt : k < l.length
  ·obtain ⟨b, off, rfl, hb, hc⟩ := hs.get k hlt
   have n0 : (0 : Int) ≤ (k : Int) := by omega
   have n1 : (k : Int) < (l.length : Int) := by omega
   have c0 := hc k hlt
   have HN : Hid (x ∈ l.drop k ↔ (x = l[k] ∨ x ∈ l.drop (k + 1))) := indexI_le l x k hlt
   clear hc hs
   by_cases hp : l[k] = x
   ·have HT : Hid (x ∈ l) := HA.out.2 (HN.out.2 (.inl hp.symm))
    clear HN HA
    have hp' : (x == l[k]) = true := by simp [hp]
    go_wp2
    go_ret
    exact ⟨_, rfl, ⟨fun _ => HT.out, fun _ => by omega⟩, rfl⟩
   ·have HT : Hid (x ∈ l ↔ x ∈ l.drop (k + 1)) := HA.out.trans (HN.out.trans ⟨fun h => h.resolve_left fun e => hp e.symm, .inr⟩)
    have hp' : (x == l[k]) = false := by simp; exact fun h => hp h.symm
    clear HN HA
    go_wp2
    go_round
    case rel => exact ⟨k + 1, by omega, by go_num, HT⟩
    case measure => simp [intOf]; omega
  ·go_wp2
   go_ret
   exact ⟨_, rfl, ⟨fun h => absurd h (by omega), fun h => by have := HA.out.1 h; rw [List.drop_eq_nil_of_le (by omega)] at this; cases this⟩, rfl⟩

theorem containsI_any (x : Int) (ss : Option Addr) (cap : Nat) (l : List Int) (w : World) (hl : l.length ≤ 9223372036854775807) (hs : IntsAt w ss l) :
  Calls Tryz.prog 117 #[.slice ss l.length cap, .int .i64 x] w fun e w' => e = .returned (.bool (l.contains x)) ∧ w' = w := by
 go_enter Tryz.func117, Tryz.ntmps117
 go_wp2_with fail
 refine (indexI_any x ss cap l _ hl hs).mono ?_
 rintro e w1 ⟨n, rfl, hn, rfl⟩
 go_wp2
 go_ret
 exact ⟨ret_bool (by simp), rfl⟩
end
section
set_option maxHeartbeats 1000000
set_option maxRecDepth 10000
open Go.RowKit

theorem indexFunc_home (q : Nat) (p : Int → Bool) (ss : Option Addr) (cap : Nat) (l : List Int) (w : World) (hl : l.length ≤ 9223372036854775807) (hs : IntsAt w ss l)
  (hF : ∀ x wx, Below w.heap.size w wx → Calls Tryz.prog 162 #[.int .i64 x, .pointer (some ⟨q, 0, none⟩)] wx fun e w' => e = .returned (.bool (p x)) ∧ Below wx.heap.size wx w') :
  Calls Tryz.prog 144 #[.slice ss l.length cap, .func (.func 162) #[] #[.pointer (some ⟨q, 0, none⟩)]] w fun e w' => ∃ n : Int, e = .returned (.int .i64 n) ∧ decide (0 ≤ n) = l.any p ∧ Below w.heap.size w w' := by
 have HF := hideH hF
 clear hF
 go_enter Tryz.func144, Tryz.ntmps144
 go_wp2
 go_loopw [8] (fun i wr => ∃ k : Nat, k ≤ l.length ∧ i = .int .i64 k ∧ Below w.heap.size w wr ∧ Hid (l.any p = (l.drop k).any p)) (fun i _ => l.length - (intOf i).toNat)
 case atStart => exact ⟨0, Nat.zero_le _, rfl, Below.refl _ _, rfl⟩
 case round =>
  obtain ⟨k, hk, rfl, hbr, HA⟩ := hrel
  by_cases hlt : k < l.length
  ·obtain ⟨b, off, rfl, hb, hc⟩ := hs.get k hlt
   have n0 : (0 : Int) ≤ (k : Int) := by omega
   have n1 : (k : Int) < (l.length : Int) := by omega
   have s0 := hbr.size
   have c0 : wr.cell? ⟨b, off + k, none⟩ = some (.int .i64 l[k]) := by rw [hbr.cell (by simpa using hb)]; exact hc k hlt
   have HN : Hid ((l.drop k).any p = (p l[k] || (l.drop (k + 1)).any p)) := any_drop_stepI l p k hlt
   clear hc hs
   go_wp2_with (go_at_call 162; fail)
   refine (HF.out _ _ hbr).mono ?_
   rintro e w1 ⟨rfl, hb1⟩
   cases hp : p l[k] with
   | true =>
    have HT : Hid (l.any p = true) := by show _ = _; rw [HA.out, HN.out, hp]; rfl
    clear HN HA
    go_wp2
    go_ret
    exact ⟨_, rfl, by rw [HT.out]; simp, hbr.trans (hb1.mono s0)⟩
   | false =>
    have HT : Hid (l.any p = (l.drop (k + 1)).any p) := by show _ = _; rw [HA.out, HN.out, hp]; rfl
    clear HN HA
    go_wp2
    go_roundw
    case rel => exact ⟨k + 1, by omega, by go_num, hbr.trans (hb1.mono s0), HT⟩
    case measure => simp [intOf]; omega
  ·go_wp2
   go_ret
   exact ⟨_, rfl, by rw [HA.out, List.drop_eq_nil_of_le (by omega)]; rfl, hbr⟩

theorem containsFunc_home (q : Nat) (p : Int → Bool) (ss : Option Addr) (cap : Nat) (l : List Int) (w : World) (hl : l.length ≤ 9223372036854775807) (hs : IntsAt w ss l)
  (hF : ∀ x wx, Below w.heap.size w wx → Calls Tryz.prog 162 #[.int .i64 x, .pointer (some ⟨q, 0, none⟩)] wx fun e w' => e = .returned (.bool (p x)) ∧ Below wx.heap.size wx w') :
  Calls Tryz.prog 118 #[.slice ss l.length cap, .func (.func 162) #[] #[.pointer (some ⟨q, 0, none⟩)]] w fun e w' => e = .returned (.bool (l.any p)) ∧ Below w.heap.size w w' := by
 have HF := hideH hF
 clear hF
 go_enter Tryz.func118, Tryz.ntmps118
 go_wp2_with (go_at_call 144; fail)
 refine (indexFunc_home q p ss cap l _ hl hs HF.out).mono ?_
 rintro e w1 ⟨n, rfl, hn, hb1⟩
 go_wp2
 go_ret
 exact ⟨rfl, hb1⟩
end
section
set_option maxHeartbeats 2000000
set_option maxRecDepth 10000
open Go.RowKit

theorem homeless_any (x : Int) (q : Nat) (V F : Int) (s : Option Addr) (c : List Ins) (cap : Nat) (w : World) (hp : PrAt w q V F s c cap) (hc : CodeAt w s c) (hl : c.length ≤ 60) :
  Calls Tryz.prog 162 #[.int .i64 x, .pointer (some ⟨q, 0, none⟩)] w fun e w' => e = .returned (.bool (!isSite c x)) ∧ Below w.heap.size w w' := by
 obtain ⟨⟨p0, p1, p2⟩, p3⟩ := hp
 have hl' : (c.length : Int) ≤ 60 := by omega
 by_cases h0 : x < 0
 ·have HR : Hid (isSite c x = false) := by show _ = _; unfold isSite; rw [decide_eq_false (by omega)]; rfl
  go_enter Tryz.func162, Tryz.ntmps162
  go_wp2
  go_ret
  exact ⟨ret_bool (by rw [HR.out]; rfl), Below.refl _ _⟩
 by_cases h1 : x < (c.length : Int)
 ·obtain ⟨k, rfl⟩ := Int.eq_ofNat_of_zero_le (show 0 ≤ x by omega)
  have hk : k < c.length := by omega
  obtain ⟨b, off, rfl, hb, hi⟩ := hc.get k hk
  obtain ⟨i0, -, -, -, -, -⟩ := hi k hk
  have HR : Hid (isSite c k = decide (c[k].k = 11)) := by
   show _ = _
   unfold isSite
   rw [decide_eq_true (show (0 : Int) ≤ (k : Int) by omega), decide_eq_true h1, Int.toNat_natCast, show c.getD k ⟨0, 0, 0, 0, 0, 0⟩ = c[k] by simp [List.getD, List.getElem?_eq_getElem hk]]
   simp
  clear hi hc
  by_cases h11 : c[k].k = 11
  ·have e11 : (c[k].k != 11) = false := by simp [h11]
   have n0 : (0 : Int) ≤ (k : Int) := by omega
   go_enter Tryz.func162, Tryz.ntmps162
   go_wp2
   go_ret
   exact ⟨ret_bool (by rw [HR.out]; simp [h11, hk]), Below.refl _ _⟩
  ·have e11 : (c[k].k != 11) = true := by simpa using h11
   have n0 : (0 : Int) ≤ (k : Int) := by omega
   go_enter Tryz.func162, Tryz.ntmps162
   go_wp2
   go_ret
   exact ⟨ret_bool (by rw [HR.out]; simp [h11, hk]), Below.refl _ _⟩
 ·have HR : Hid (isSite c x = false) := by show _ = _; unfold isSite; rw [decide_eq_false h1]; simp
  go_enter Tryz.func162, Tryz.ntmps162
  go_wp2
  go_ret
  exact ⟨ret_bool (by rw [HR.out]; rfl), Below.refl _ _⟩

theorem any_not_all (l : List Int) (p : Int → Bool) : (l.any fun x => !p x) = !l.all p := by
 induction l with
 | nil => rfl
 | cons a r ih => simp only [List.any_cons, List.all_cons, ih, Bool.not_and]

/-- They rise up to place k. -/
theorem rising_iff (l : List Int) : rising l = true ↔ ∀ k (h : k + 1 < l.length), l[k] < l[k + 1] := by
 induction l with
 | nil => simp [rising]
 | cons a r ih =>
  cases r with
  | nil => simp [rising]
  | cons b t =>
   simp only [rising, Bool.and_eq_true, decide_eq_true_eq, ih]
   constructor
   ·rintro ⟨h1, h2⟩ k hk
    cases k with
    | zero => exact h1
    | succ k => exact h2 k (by simpa using hk)
   ·intro h
    exact ⟨h 0 (by simp), fun k hk => h (k + 1) (by simpa using hk)⟩

/-- The two boxes of checkParts. -/
abbrev pgW (w : World) (V F : Int) (s : Option Addr) (c : List Ins) (cap : Nat) (g : Gs) (ss : Option Addr) (gc : Nat) : World :=
 (w.alloc (.cells #[.int .i64 V, .int .i64 F, .slice s c.length cap] 24)).alloc (.cells #[.bool g.n, .bool g.sp.n, .int .i64 g.sp.lo, .int .i64 g.sp.hi, .bool g.t, .bool g.f, .slice ss g.s.length gc] 61)

theorem checkParts_any (V F : Int) (s : Option Addr) (c : List Ins) (cap : Nat) (g : Gs) (ss : Option Addr) (gc : Nat) (w : World) (hc : CodeAt w s c) (hl : c.length ≤ 60) (hs : IntsAt w ss g.s) (hgl : g.s.length ≤ 9223372036854775807) :
  Calls Tryz.prog 141 #[pv V F s c cap, gv g ss gc] w fun e w' => e = .returned (.int .i64 (ckGs c g)) ∧ Below w.heap.size w w' := by
 have P0 : PrAt (pgW w V F s c cap g ss gc) w.heap.size V F s c cap := (PrAt.new w V F s c cap).alloc _
 have G0 : GuAt (pgW w V F s c cap g ss gc) (w.heap.size + 1) 0 g ss gc := by
  have := GuAt.new (w.alloc (.cells #[.int .i64 V, .int .i64 F, .slice s c.length cap] 24)) g ss gc
  simpa using this
 have C0 : CodeAt (pgW w V F s c cap g ss gc) s c := (hc.alloc _).alloc _
 have I0 : IntsAt (pgW w V F s c cap g ss gc) ss g.s := (hs.alloc _).alloc _
 have B0 : Below w.heap.size w (pgW w V F s c cap g ss gc) := by go_grown
 have HR : Hid (ckGs c g = if ckSp g.sp ≠ 0 then ckSp g.sp else if g.s.all (isSite c) = false then 5 else if rising g.s = false then 4 else 0) := rfl
 go_enter Tryz.func141, Tryz.ntmps141
 go_wp2_with (go_at_call 161; fail)
 refine (check_any g.sp _).mono ?_
 rintro e w1 ⟨rfl, hb1⟩
 have P1 := P0.call hb1
 have G1 := G0.call hb1
 have C1 := C0.call hb1
 have I1 := I0.call hb1
 have B1 : Below w.heap.size w w1 := B0.trans (hb1.mono (by simp; omega))
 clear hb1 P0 G0 C0 I0 B0 hc hs
 by_cases hsp : ckSp g.sp = 0
 ·obtain ⟨⟨g0, g1, g2, g3, g4, g5, g6⟩, gz⟩ := id G1
  rw [hsp]
  go_wp2_with (go_at_call 118; fail)
  refine (containsFunc_home w.heap.size (fun x => !isSite c x) ss gc g.s _ hgl I1 fun x wx hbx => homeless_any x w.heap.size V F s c cap wx (P1.call hbx) (C1.call hbx) hl).mono ?_
  rintro e w2 ⟨rfl, hb2⟩
  rw [any_not_all]
  have G2 := G1.call hb2
  have I2 := I1.call hb2
  have B2 : Below w.heap.size w w2 := B1.trans (hb2.mono B1.size)
  clear hb2 P1 G1 C1 I1 B1 g0 g1 g2 g3 g4 g5 g6 gz
  obtain ⟨⟨g0, g1, g2, g3, g4, g5, g6⟩, gz⟩ := id G2
  cases hA : g.s.all (isSite c) with
  | false =>
   have HF : Hid (ckGs c g = 5) := by show _ = _; rw [HR.out, if_neg (by simpa using hsp), if_pos hA]
   clear HR
   go_wp2
   go_ret
   exact ⟨ret_int HF.out.symm, B2⟩
  | true =>
   have HF : Hid (ckGs c g = if rising g.s = false then 4 else 0) := by show _ = _; rw [HR.out, if_neg (by simpa using hsp), if_neg (by simp [hA])]
   have HQ := hideH (rising_iff g.s)
   clear HR
   go_wp2
   go_loopw [7] (fun i wr => ∃ k : Nat, 1 ≤ k ∧ i = .int .i64 k ∧ k ≤ g.s.length + 1 ∧ wr.cell? ⟨w.heap.size + 1, 6, none⟩ = some (.slice ss g.s.length gc) ∧ IntsAt wr ss g.s ∧ Below w.heap.size w wr ∧ Hid (∀ j (h : j + 1 < g.s.length), j + 1 < k → g.s[j] < g.s[j + 1])) (fun i _ => g.s.length + 1 - (intOf i).toNat)
   case atStart => exact ⟨1, Nat.le_refl _, rfl, by omega, g6, I2, B2, fun j h h' => by omega⟩
   case round =>
    obtain ⟨k, hk1, rfl, hk2, r6, IR, BR, HK⟩ := hrel
    by_cases hlt : k < g.s.length
    ·obtain ⟨b, off, rfl, hb, hcell⟩ := IR.get k hlt
     have c0 := hcell (k - 1) (by omega)
     have c1 := hcell k hlt
     have t1 : ((k : Int) - 1).toNat = k - 1 := by omega
     have n0 : (0 : Int) ≤ (k : Int) - 1 := by omega
     have n1 : (k : Int) - 1 < (g.s.length : Int) := by omega
     have n2 : (0 : Int) ≤ (k : Int) := by omega
     have n3 : (k : Int) < (g.s.length : Int) := by omega
     clear hcell
     by_cases hr : g.s[k - 1] < g.s[k]
     ·go_wp2
      go_quiet (fail)
      go_wp2
      go_roundw
      case rel =>
       refine ⟨k + 1, by omega, by go_num, by omega, ?_, IR.drewN _, below_drewN BR _, fun j h h' => ?_⟩
       ·rw [← r6]; exact (below_drewN (Below.refl (wr.heap.size + (w.heap.size + 2)) wr) _).cell (by simp; omega)
       ·by_cases e : j + 1 = k
        ·subst e; exact hr
        ·exact HK.out j h (by omega)
      case measure => simp [intOf]; omega
     ·have HG : Hid (rising g.s = false) := by
       show _ = _
       rw [Bool.eq_false_iff]
       intro hx
       have := HQ.out.1 hx (k - 1) (by omega)
       have e : k - 1 + 1 = k := by omega
       simp only [e] at this
       exact hr this
      clear HQ
      go_wp2
      go_quiet (fail)
      go_wp2
      go_ret
      exact ⟨ret_int (by rw [HF.out, if_pos HG.out]), below_drewN BR _⟩
    ·go_wp2
     go_ret
     refine ⟨ret_int ?_, BR⟩
     rw [HF.out, if_neg]
     have : rising g.s = true := HQ.out.2 fun j h => HK.out j h (by omega)
     simp [this]
 ·have HF : Hid (ckGs c g = ckSp g.sp) := by show _ = _; rw [HR.out, if_pos hsp]
  have hne : (ckSp g.sp != 0) = true := by simpa using hsp
  clear HR
  go_wp2
  go_ret
  exact ⟨ret_int HF.out.symm, B1⟩
end
section
set_option maxHeartbeats 2000000
set_option maxRecDepth 10000
open Go.RowKit

theorem ret_t2 {a b c d : Bool} (h : a = c) (h' : b = d) : Ending.returned (.tuple #[.bool a, .bool b]) = .returned (.tuple #[.bool c, .bool d]) := by rw [h, h']

theorem truthG_any (g : Gs) (ss : Option Addr) (gc : Nat) (w : World) (hsp : ckSp g.sp = 0) :
  Calls Tryz.prog 115 #[gv g ss gc] w fun e w' => e = .returned (.tuple #[.bool (yesGs g), .bool (noGs g)]) ∧ Below w.heap.size w w' := by
 have hH := fun w => has_any g.sp 0 w
 rw [hsp, show (decide ((0 : Int) = 0) && g.sp.has 0) = g.sp.has 0 from rfl] at hH
 have HY : Hid (yesGs g = ((!g.sp.n && !decide (g.sp.lo = 0 ∧ g.sp.hi = 0)) || (g.t || decide (0 < g.s.length)))) := rfl
 have HN : Hid (noGs g = (g.sp.has 0 || (g.n || g.f))) := rfl
 generalize yesGs g = yy at *
 generalize noGs g = nn at *
 generalize g.sp.has 0 = z at *
 obtain ⟨n, ⟨sn, lo, hi⟩, t, f, s⟩ := g
 have G0 := GuAt.new w ⟨n, ⟨sn, lo, hi⟩, t, f, s⟩ ss gc
 go_enter Tryz.func115, Tryz.ntmps115
 go_wp2_with (go_at_call 142; fail)
 refine (hH _).mono ?_
 rintro e w1 ⟨rfl, hb1⟩
 have G1 := G0.call hb1
 have B1 : Below w.heap.size w w1 := Below.trans (by go_grown) (hb1.mono (by simp))
 obtain ⟨⟨g0, g1, g2, g3, g4, g5, g6⟩, gz⟩ := id G1
 simp only [Nat.zero_add] at g0 g1 g2 g3 g4 g5 g6
 clear G0 G1 hb1 hH hsp
 cases sn with
 | true =>
  go_wp2
  refine wp_region_quiet_lit (by kernel_rfl) (by kernel_rfl) ?_
  repeat (any_goals (first | go_big_quiet_step (fail) | quiet_step (fail) | (refine wpQuiet_step (fun K hK => ?_); go_simp; split <;> (refine hK _ ?_; clear hK K))))
  all_goals (refine wpQuiet_nil ?_; intro _ hw'; obtain ⟨nq, hw''⟩ := hw'; subst hw'')
  all_goals go_wp2
  all_goals go_ret2
  all_goals exact ⟨ret_t2 (by rw [HY.out]; simp_all) (by rw [HN.out]; simp_all), below_drewN B1 _⟩
 | false =>
  by_cases hz : lo = 0 ∧ hi = 0
  ·obtain ⟨rfl, rfl⟩ := hz
   go_wp2
   refine wp_region_quiet_lit (by kernel_rfl) (by kernel_rfl) ?_
   repeat (any_goals (first | go_big_quiet_step (fail) | quiet_step (fail) | (refine wpQuiet_step (fun K hK => ?_); go_simp; split <;> (refine hK _ ?_; clear hK K))))
   all_goals (refine wpQuiet_nil ?_; intro _ hw'; obtain ⟨nq, hw''⟩ := hw'; subst hw'')
   all_goals go_wp2
   all_goals go_ret2
   all_goals exact ⟨ret_t2 (by rw [HY.out]; simp_all) (by rw [HN.out]; simp_all), below_drewN B1 _⟩
  ·have HZ : Hid (decide (lo = 0 ∧ hi = 0) = false) := by show _ = _; simpa using hz
   have hm : yy = true := by rw [HY.out, HZ.out]; rfl
   subst hm
   clear HY
   by_cases h1 : lo = 0
   ·subst h1
    have h2 : (hi == 0) = false := by simp only [beq_eq_false_iff_ne]; intro h; exact hz ⟨rfl, h⟩
    clear hz HZ
    go_wp2
    refine wp_region_quiet_lit (by kernel_rfl) (by kernel_rfl) ?_
    repeat (any_goals (first | go_big_quiet_step (fail) | quiet_step (fail) | (refine wpQuiet_step (fun K hK => ?_); go_simp; split <;> (refine hK _ ?_; clear hK K))))
    all_goals (refine wpQuiet_nil ?_; intro _ hw'; obtain ⟨nq, hw''⟩ := hw'; subst hw'')
    all_goals go_wp2
    all_goals go_ret2
    all_goals exact ⟨ret_t2 rfl (by rw [HN.out]; simp_all), below_drewN B1 _⟩
   ·have h2 : (lo == 0) = false := by simpa using h1
    clear hz HZ
    go_wp2
    refine wp_region_quiet_lit (by kernel_rfl) (by kernel_rfl) ?_
    repeat (any_goals (first | go_big_quiet_step (fail) | quiet_step (fail) | (refine wpQuiet_step (fun K hK => ?_); go_simp; split <;> (refine hK _ ?_; clear hK K))))
    all_goals (refine wpQuiet_nil ?_; intro _ hw'; obtain ⟨nq, hw''⟩ := hw'; subst hw'')
    all_goals go_wp2
    all_goals go_ret2
    all_goals exact ⟨ret_t2 rfl (by rw [HN.out]; simp_all), below_drewN B1 _⟩

theorem more_any (x : Int) (q : Nat) (h : Gs) (ss : Option Addr) (gc : Nat) (w : World) (hg : GuAt w q 0 h ss gc) (hs : IntsAt w ss h.s) (hl : h.s.length ≤ 9223372036854775807) :
  Calls Tryz.prog 116 #[.int .i64 x, .pointer (some ⟨q, 0, none⟩)] w fun e w' => e = .returned (.bool (!h.s.contains x)) ∧ Below w.heap.size w w' := by
 obtain ⟨⟨g0, g1, g2, g3, g4, g5, g6⟩, gz⟩ := id hg
 simp only [Nat.zero_add] at g6
 go_enter Tryz.func116, Tryz.ntmps116
 go_wp2_with (go_at_call 117; fail)
 refine (containsI_any x ss gc h.s _ hl hs).mono ?_
 rintro e w1 ⟨rfl, rfl⟩
 go_wp2
 go_ret
 exact ⟨ret_bool (by simp), Below.refl _ _⟩

theorem common_any (x : Int) (q : Nat) (h : Gs) (ss : Option Addr) (gc : Nat) (w : World) (hg : GuAt w q 0 h ss gc) (hs : IntsAt w ss h.s) (hl : h.s.length ≤ 9223372036854775807) :
  Calls Tryz.prog 151 #[.int .i64 x, .pointer (some ⟨q, 0, none⟩)] w fun e w' => e = .returned (.bool (h.s.contains x)) ∧ Below w.heap.size w w' := by
 obtain ⟨⟨g0, g1, g2, g3, g4, g5, g6⟩, gz⟩ := id hg
 simp only [Nat.zero_add] at g6
 go_enter Tryz.func151, Tryz.ntmps151
 go_wp2_with (go_at_call 117; fail)
 refine (containsI_any x ss gc h.s _ hl hs).mono ?_
 rintro e w1 ⟨rfl, rfl⟩
 go_wp2
 go_ret
 exact ⟨ret_bool (by simp), Below.refl _ _⟩
end
section
set_option maxHeartbeats 1000000
set_option maxRecDepth 10000
open Go.RowKit

theorem indexFunc_more (q : Nat) (p : Int → Bool) (ss : Option Addr) (cap : Nat) (l : List Int) (w : World) (hl : l.length ≤ 9223372036854775807) (hs : IntsAt w ss l)
  (hF : ∀ x wx, Below w.heap.size w wx → Calls Tryz.prog 116 #[.int .i64 x, .pointer (some ⟨q, 0, none⟩)] wx fun e w' => e = .returned (.bool (p x)) ∧ Below wx.heap.size wx w') :
  Calls Tryz.prog 144 #[.slice ss l.length cap, .func (.func 116) #[] #[.pointer (some ⟨q, 0, none⟩)]] w fun e w' => ∃ n : Int, e = .returned (.int .i64 n) ∧ decide (0 ≤ n) = l.any p ∧ Below w.heap.size w w' := by
 have HF := hideH hF
 clear hF
 go_enter Tryz.func144, Tryz.ntmps144
 go_wp2
 go_loopw [8] (fun i wr => ∃ k : Nat, k ≤ l.length ∧ i = .int .i64 k ∧ Below w.heap.size w wr ∧ Hid (l.any p = (l.drop k).any p)) (fun i _ => l.length - (intOf i).toNat)
 case atStart => exact ⟨0, Nat.zero_le _, rfl, Below.refl _ _, rfl⟩
 case round =>
  obtain ⟨k, hk, rfl, hbr, HA⟩ := hrel
  by_cases hlt : k < l.length
  ·obtain ⟨b, off, rfl, hb, hc⟩ := hs.get k hlt
   have n0 : (0 : Int) ≤ (k : Int) := by omega
   have n1 : (k : Int) < (l.length : Int) := by omega
   have s0 := hbr.size
   have c0 : wr.cell? ⟨b, off + k, none⟩ = some (.int .i64 l[k]) := by rw [hbr.cell (by simpa using hb)]; exact hc k hlt
   have HN : Hid ((l.drop k).any p = (p l[k] || (l.drop (k + 1)).any p)) := any_drop_stepI l p k hlt
   clear hc hs
   go_wp2_with (go_at_call 116; fail)
   refine (HF.out _ _ hbr).mono ?_
   rintro e w1 ⟨rfl, hb1⟩
   cases hp : p l[k] with
   | true =>
    have HT : Hid (l.any p = true) := by show _ = _; rw [HA.out, HN.out, hp]; rfl
    clear HN HA
    go_wp2
    go_ret
    exact ⟨_, rfl, by rw [HT.out]; simp, hbr.trans (hb1.mono s0)⟩
   | false =>
    have HT : Hid (l.any p = (l.drop (k + 1)).any p) := by show _ = _; rw [HA.out, HN.out, hp]; rfl
    clear HN HA
    go_wp2
    go_roundw
    case rel => exact ⟨k + 1, by omega, by go_num, hbr.trans (hb1.mono s0), HT⟩
    case measure => simp [intOf]; omega
  ·go_wp2
   go_ret
   exact ⟨_, rfl, by rw [HA.out, List.drop_eq_nil_of_le (by omega)]; rfl, hbr⟩

theorem containsFunc_more (q : Nat) (p : Int → Bool) (ss : Option Addr) (cap : Nat) (l : List Int) (w : World) (hl : l.length ≤ 9223372036854775807) (hs : IntsAt w ss l)
  (hF : ∀ x wx, Below w.heap.size w wx → Calls Tryz.prog 116 #[.int .i64 x, .pointer (some ⟨q, 0, none⟩)] wx fun e w' => e = .returned (.bool (p x)) ∧ Below wx.heap.size wx w') :
  Calls Tryz.prog 118 #[.slice ss l.length cap, .func (.func 116) #[] #[.pointer (some ⟨q, 0, none⟩)]] w fun e w' => e = .returned (.bool (l.any p)) ∧ Below w.heap.size w w' := by
 have HF := hideH hF
 clear hF
 go_enter Tryz.func118, Tryz.ntmps118
 go_wp2_with (go_at_call 144; fail)
 refine (indexFunc_more q p ss cap l _ hl hs HF.out).mono ?_
 rintro e w1 ⟨n, rfl, hn, hb1⟩
 go_wp2
 go_ret
 exact ⟨rfl, hb1⟩
end
section
set_option maxHeartbeats 1000000
set_option maxRecDepth 10000
open Go.RowKit

theorem indexFunc_common (q : Nat) (p : Int → Bool) (ss : Option Addr) (cap : Nat) (l : List Int) (w : World) (hl : l.length ≤ 9223372036854775807) (hs : IntsAt w ss l)
  (hF : ∀ x wx, Below w.heap.size w wx → Calls Tryz.prog 151 #[.int .i64 x, .pointer (some ⟨q, 0, none⟩)] wx fun e w' => e = .returned (.bool (p x)) ∧ Below wx.heap.size wx w') :
  Calls Tryz.prog 144 #[.slice ss l.length cap, .func (.func 151) #[] #[.pointer (some ⟨q, 0, none⟩)]] w fun e w' => ∃ n : Int, e = .returned (.int .i64 n) ∧ decide (0 ≤ n) = l.any p ∧ Below w.heap.size w w' := by
 have HF := hideH hF
 clear hF
 go_enter Tryz.func144, Tryz.ntmps144
 go_wp2
 go_loopw [8] (fun i wr => ∃ k : Nat, k ≤ l.length ∧ i = .int .i64 k ∧ Below w.heap.size w wr ∧ Hid (l.any p = (l.drop k).any p)) (fun i _ => l.length - (intOf i).toNat)
 case atStart => exact ⟨0, Nat.zero_le _, rfl, Below.refl _ _, rfl⟩
 case round =>
  obtain ⟨k, hk, rfl, hbr, HA⟩ := hrel
  by_cases hlt : k < l.length
  ·obtain ⟨b, off, rfl, hb, hc⟩ := hs.get k hlt
   have n0 : (0 : Int) ≤ (k : Int) := by omega
   have n1 : (k : Int) < (l.length : Int) := by omega
   have s0 := hbr.size
   have c0 : wr.cell? ⟨b, off + k, none⟩ = some (.int .i64 l[k]) := by rw [hbr.cell (by simpa using hb)]; exact hc k hlt
   have HN : Hid ((l.drop k).any p = (p l[k] || (l.drop (k + 1)).any p)) := any_drop_stepI l p k hlt
   clear hc hs
   go_wp2_with (go_at_call 151; fail)
   refine (HF.out _ _ hbr).mono ?_
   rintro e w1 ⟨rfl, hb1⟩
   cases hp : p l[k] with
   | true =>
    have HT : Hid (l.any p = true) := by show _ = _; rw [HA.out, HN.out, hp]; rfl
    clear HN HA
    go_wp2
    go_ret
    exact ⟨_, rfl, by rw [HT.out]; simp, hbr.trans (hb1.mono s0)⟩
   | false =>
    have HT : Hid (l.any p = (l.drop (k + 1)).any p) := by show _ = _; rw [HA.out, HN.out, hp]; rfl
    clear HN HA
    go_wp2
    go_roundw
    case rel => exact ⟨k + 1, by omega, by go_num, hbr.trans (hb1.mono s0), HT⟩
    case measure => simp [intOf]; omega
  ·go_wp2
   go_ret
   exact ⟨_, rfl, by rw [HA.out, List.drop_eq_nil_of_le (by omega)]; rfl, hbr⟩

theorem containsFunc_common (q : Nat) (p : Int → Bool) (ss : Option Addr) (cap : Nat) (l : List Int) (w : World) (hl : l.length ≤ 9223372036854775807) (hs : IntsAt w ss l)
  (hF : ∀ x wx, Below w.heap.size w wx → Calls Tryz.prog 151 #[.int .i64 x, .pointer (some ⟨q, 0, none⟩)] wx fun e w' => e = .returned (.bool (p x)) ∧ Below wx.heap.size wx w') :
  Calls Tryz.prog 118 #[.slice ss l.length cap, .func (.func 151) #[] #[.pointer (some ⟨q, 0, none⟩)]] w fun e w' => e = .returned (.bool (l.any p)) ∧ Below w.heap.size w w' := by
 have HF := hideH hF
 clear hF
 go_enter Tryz.func118, Tryz.ntmps118
 go_wp2_with (go_at_call 144; fail)
 refine (indexFunc_common q p ss cap l _ hl hs HF.out).mono ?_
 rintro e w1 ⟨n, rfl, hn, hb1⟩
 go_wp2
 go_ret
 exact ⟨rfl, hb1⟩
end
section
set_option maxHeartbeats 2000000
open Go.RowKit

theorem checkSpan_any (s : Sp) (w : World) :
  Calls Tryz.prog 93 #[sv s] w fun e w' => e = .returned (.int .i64 (ckSp s)) ∧ Below w.heap.size w w' := by
 obtain ⟨n, lo, hi⟩ := s
 have e0 : ckSp ⟨n, lo, hi⟩ = if ¬ (inNum lo ∧ inNum hi) then 3 else if n = true ∧ ¬ (lo = 0 ∧ hi = 0) then 1 else if hi < lo then 4 else 0 := rfl
 rw [e0]
 clear e0
 by_cases h : inNum lo
 ·have b1 : btw lo (-2147483648) 2147483647 = true := decide_eq_true h
  by_cases h' : inNum hi
  ·have b2 : btw hi (-2147483648) 2147483647 = true := decide_eq_true h'
   rw [if_neg (by simp [h, h'])]
   clear h h'
   cases n with
   | true =>
    by_cases hz : lo = 0
    ·subst hz
     by_cases hz' : hi = 0
     ·subst hz'
      rw [if_neg (by simp), if_neg (by simp)]
      go_enter Tryz.func93, Tryz.ntmps93
      go_wp2_with (go_at_call 38; refine (between_any _ _ _ _).mono ?_; rintro e w' ⟨rfl, rfl⟩)
      go_ret
      exact ⟨rfl, by go_grown⟩
     ·have q : (hi == 0) = false := by simpa using hz'
      rw [if_pos (by simp [hz'])]
      go_enter Tryz.func93, Tryz.ntmps93
      go_wp2_with (go_at_call 38; refine (between_any _ _ _ _).mono ?_; rintro e w' ⟨rfl, rfl⟩)
      go_ret
      exact ⟨rfl, by go_grown⟩
    ·have q : (lo == 0) = false := by simpa using hz
     rw [if_pos (by simp [hz])]
     go_enter Tryz.func93, Tryz.ntmps93
     go_wp2_with (go_at_call 38; refine (between_any _ _ _ _).mono ?_; rintro e w' ⟨rfl, rfl⟩)
     go_ret
     exact ⟨rfl, by go_grown⟩
   | false =>
    rw [if_neg (by simp)]
    by_cases hz : hi < lo
    ·rw [if_pos hz]
     go_enter Tryz.func93, Tryz.ntmps93
     go_wp2_with (go_at_call 38; refine (between_any _ _ _ _).mono ?_; rintro e w' ⟨rfl, rfl⟩)
     go_ret
     exact ⟨rfl, by go_grown⟩
    ·rw [if_neg hz]
     go_enter Tryz.func93, Tryz.ntmps93
     go_wp2_with (go_at_call 38; refine (between_any _ _ _ _).mono ?_; rintro e w' ⟨rfl, rfl⟩)
     go_ret
     exact ⟨rfl, by go_grown⟩
  ·have b2 : btw hi (-2147483648) 2147483647 = false := decide_eq_false h'
   rw [if_pos (by simp [h'])]
   clear h h'
   go_enter Tryz.func93, Tryz.ntmps93
   go_wp2_with (go_at_call 38; refine (between_any _ _ _ _).mono ?_; rintro e w' ⟨rfl, rfl⟩)
   go_ret
   exact ⟨rfl, by go_grown⟩
 ·have b1 : btw lo (-2147483648) 2147483647 = false := decide_eq_false h
  rw [if_pos (by simp [h])]
  clear h
  go_enter Tryz.func93, Tryz.ntmps93
  go_wp2_with (go_at_call 38; refine (between_any _ _ _ _).mono ?_; rintro e w' ⟨rfl, rfl⟩)
  go_ret
  exact ⟨rfl, by go_grown⟩

theorem inSpan_any (s : Sp) (x : Int) (w : World) :
  Calls Tryz.prog 25 #[sv s, .int .i64 x] w fun e w' => e = .returned (.bool (s.has x)) ∧ Below w.heap.size w w' := by
 obtain ⟨n, lo, hi⟩ := s
 have e0 : btw x lo hi = (decide (lo ≤ x) && decide (x ≤ hi)) := by unfold btw; exact Bool.decide_and _ _
 have e1 : Sp.has ⟨n, lo, hi⟩ x = (!n && btw x lo hi) := by rw [e0]; rfl
 rw [e1]
 cases n with
 | true =>
  go_enter Tryz.func25, Tryz.ntmps25
  go_wp2
  go_ret
  exact ⟨rfl, by go_grown⟩
 | false =>
  clear e0 e1
  generalize hB : btw x lo hi = B
  go_enter Tryz.func25, Tryz.ntmps25
  go_wp2_with (go_at_call 38; refine (between_any _ _ _ _).mono ?_; rintro e w' ⟨rfl, rfl⟩)
  go_ret
  exact ⟨ret_bool (by simp [hB]), by go_grown⟩

theorem least2 (g c : Nat) (x y : Int) (w : World) (h0 : w.cell? ⟨g, 0, none⟩ = some (.int .i64 x)) (h1 : w.cell? ⟨g, 1, none⟩ = some (.int .i64 y)) :
  Calls Tryz.prog 94 #[.slice (some ⟨g, 0, none⟩) 2 c] w fun e w' => e = .returned (.int .i64 (min x y)) ∧ w' = w := by
 go_enter Tryz.func94, Tryz.ntmps94
 go_wp2
 go_rounds 2
 all_goals go_ret
 all_goals exact ⟨ret_int (by omega), rfl⟩

theorem least4 (g c : Nat) (x y z u : Int) (w : World) (h0 : w.cell? ⟨g, 0, none⟩ = some (.int .i64 x)) (h1 : w.cell? ⟨g, 1, none⟩ = some (.int .i64 y)) (h2 : w.cell? ⟨g, 2, none⟩ = some (.int .i64 z)) (h3 : w.cell? ⟨g, 3, none⟩ = some (.int .i64 u)) :
  Calls Tryz.prog 94 #[.slice (some ⟨g, 0, none⟩) 4 c] w fun e w' => e = .returned (.int .i64 (min4 x y z u)) ∧ w' = w := by
 go_enter Tryz.func94, Tryz.ntmps94
 go_wp2
 go_rounds 4
 all_goals go_ret
 all_goals exact ⟨ret_int (by unfold min4; omega), rfl⟩

theorem most2 (g c : Nat) (x y : Int) (w : World) (h0 : w.cell? ⟨g, 0, none⟩ = some (.int .i64 x)) (h1 : w.cell? ⟨g, 1, none⟩ = some (.int .i64 y)) :
  Calls Tryz.prog 95 #[.slice (some ⟨g, 0, none⟩) 2 c] w fun e w' => e = .returned (.int .i64 (max x y)) ∧ w' = w := by
 go_enter Tryz.func95, Tryz.ntmps95
 go_wp2
 go_rounds 2
 all_goals go_ret
 all_goals exact ⟨ret_int (by omega), rfl⟩

theorem most4 (g c : Nat) (x y z u : Int) (w : World) (h0 : w.cell? ⟨g, 0, none⟩ = some (.int .i64 x)) (h1 : w.cell? ⟨g, 1, none⟩ = some (.int .i64 y)) (h2 : w.cell? ⟨g, 2, none⟩ = some (.int .i64 z)) (h3 : w.cell? ⟨g, 3, none⟩ = some (.int .i64 u)) :
  Calls Tryz.prog 95 #[.slice (some ⟨g, 0, none⟩) 4 c] w fun e w' => e = .returned (.int .i64 (max4 x y z u)) ∧ w' = w := by
 go_enter Tryz.func95, Tryz.ntmps95
 go_wp2
 go_rounds 4
 all_goals go_ret
 all_goals exact ⟨ret_int (by unfold max4; omega), rfl⟩
end
section
set_option maxHeartbeats 1000000
open Go.RowKit

theorem joinSpan_n (s t : Sp) (b : Bool) (w : World) (h : (s.n || t.n) = true) :
  Calls Tryz.prog 58 #[sv s, sv t, .bool b] w fun e w' => e = .returned (sv (joinSp s t)) ∧ Below w.heap.size w w' := by
 obtain ⟨n, lo, hi⟩ := s
 obtain ⟨n', lo', hi'⟩ := t
 cases n with
 | true =>
  go_enter Tryz.func58, Tryz.ntmps58
  go_wp2
  go_returns
  exact ⟨rfl, by go_grown⟩
 | false =>
  cases n' with
  | true =>
   go_enter Tryz.func58, Tryz.ntmps58
   go_wp2
   go_returns
   exact ⟨rfl, by go_grown⟩
  | false => exact absurd h (by simp)
end
section
set_option maxHeartbeats 1000000
set_option maxRecDepth 100000
open Go.RowKit

@[go_sem] theorem run_min4 {P : Program} (w : World) (ts : Array TypeId) (t : TypeId) (a b c d : Int) :
  (Builtin.min_ ts t #[.int .i64 a, .int .i64 b, .int .i64 c, .int .i64 d]).run P w = .ok (.int .i64 (min4 a b c d)) w := by
 have e : ∀ x y : Int, (if y < x then y else x) = min x y := fun x y => by split <;> omega
 simp [Builtin.min_, Builtin.min2, e, min4]

@[go_sem] theorem run_max4 {P : Program} (w : World) (ts : Array TypeId) (t : TypeId) (a b c d : Int) :
  (Builtin.max_ ts t #[.int .i64 a, .int .i64 b, .int .i64 c, .int .i64 d]).run P w = .ok (.int .i64 (max4 a b c d)) w := by
 have e : ∀ x y : Int, (if x < y then y else x) = max x y := fun x y => by split <;> omega
 simp [Builtin.max_, Builtin.max2, e, max4]

theorem reckon_none (F : Nat) (s t : Sp) (w : World) (h : (s.n || t.n) = true) :
  Calls Tryz.prog 145 #[sv s, sv t, .func (.func F) #[] #[]] w fun e w' => e = .returned (sv ⟨true, 0, 0⟩) ∧ Below w.heap.size w w' := by
 obtain ⟨n, lo, hi⟩ := s
 obtain ⟨n', lo', hi'⟩ := t
 cases n with
 | true =>
  go_enter Tryz.func145, Tryz.ntmps145
  go_wp2_with (go_at_call 139; refine (none_eq _).mono ?_; rintro e w1 ⟨rfl, rfl⟩)
  go_returns
  exact ⟨rfl, by go_grown⟩
 | false =>
  cases n' with
  | true =>
   go_enter Tryz.func145, Tryz.ntmps145
   go_wp2_with (go_at_call 139; refine (none_eq _).mono ?_; rintro e w1 ⟨rfl, rfl⟩)
   go_returns
   exact ⟨rfl, by go_grown⟩
  | false => simp at h

theorem hull_in {a b c d : Int} (h1 : inNum (min4 a b c d)) (h2 : inNum (max4 a b c d)) : hull a b c d = ⟨false, min4 a b c d, max4 a b c d⟩ := if_pos ⟨h1, h2⟩
theorem hull_lo {a b c d : Int} (h1 : ¬ inNum (min4 a b c d)) : hull a b c d = ⟨false, -2147483648, 2147483647⟩ := if_neg (fun h => h1 h.1)
theorem hull_hi {a b c d : Int} (h1 : ¬ inNum (max4 a b c d)) : hull a b c d = ⟨false, -2147483648, 2147483647⟩ := if_neg (fun h => h1 h.2)
theorem prf_af8970 {p : Prop} (h : p := by
 clear h1 h2 h3 h4
 go_enter Tryz.func145, Tryz.ntmps145
 go_wp2
 go_quiet (first | exact Calls.quiet_of (k1 _) | exact Calls.quiet_of (k2 _) | exact Calls.quiet_of (k3 _) | exact Calls.quiet_of (k4 _))
 clear k1 k2 k3 k4
 by_cases h1 : inNum (min4 a b c d)
 ·have e1 : decide (inNum (min4 a b c d)) = true := decide_eq_true h1
  by_cases h2 : inNum (max4 a b c d)
  ·have e2 : decide (inNum (max4 a b c d)) = true := decide_eq_true h2
   go_wp2_with (go_at_call 163; refine (beyond_any _ _).mono ?_; rintro e w' ⟨rfl, rfl⟩)
   go_returns
   exact ⟨ret_sp (hull_in h1 h2), by go_grown; exact below_drewN (by go_grown) _⟩
  ·have e2 : decide (inNum (max4 a b c d)) = false := decide_eq_false h2
   go_wp2_with (first | (go_at_call 163; refine (beyond_any _ _).mono ?_; rintro e w' ⟨rfl, rfl⟩) | (go_at_call 164; refine (all_eq _).mono ?_; rintro e w' ⟨rfl, rfl⟩))
   go_returns
   exact ⟨ret_sp (hull_hi h2), by go_grown; exact below_drewN (by go_grown) _⟩
 ·have e1 : decide (inNum (min4 a b c d)) = false := decide_eq_false h1
  go_wp2_with (first | (go_at_call 163; refine (beyond_any _ _).mono ?_; rintro e w' ⟨rfl, rfl⟩) | (go_at_call 164; refine (all_eq _).mono ?_; rintro e w' ⟨rfl, rfl⟩))
  go_returns
  exact ⟨ret_sp (hull_lo h1), by go_grown; exact below_drewN (by go_grown) _⟩) : p := h
end
section
open Go.RowKit
/-- Seven cells are written. -/
def set7 (w : World) (b k : Nat) (x' : Gc) : World := (((((((w.setCell ⟨b, k * 7, none⟩ (.bool x'.g.n)).setCell ⟨b, k * 7 + 1, none⟩ (.bool x'.g.sp.n)).setCell ⟨b, k * 7 + 2, none⟩ (.int .i64 x'.g.sp.lo)).setCell ⟨b, k * 7 + 3, none⟩ (.int .i64 x'.g.sp.hi)).setCell ⟨b, k * 7 + 4, none⟩ (.bool x'.g.t)).setCell ⟨b, k * 7 + 5, none⟩ (.bool x'.g.f)).setCell ⟨b, k * 7 + 6, none⟩ (.slice x'.ss x'.g.s.length x'.cap))
section
variable {T : Nat → Prop} {B : Nat} {w w' : World} {v : Ro} {fs : Option Addr} {fc : Nat} {L : List Ro}
theorem Off.same {v v' : Ro} {fb : Option Nat} {L : List Ro} {b : Nat} (hv : roB v' = roB v) : Off v' fb L b ↔ Off v fb L b := by unfold Off; rw [hv]
theorem roB_set {v : Ro} {l : List Gc} (h : l.length = v.l.length) : roB ⟨v.rs, v.rc, l⟩ = roB v := by unfold roB roV; rw [h]
/-- One cell, told by the guess that comes. -/
theorem PicG.cellV (h : PicG T B w v fs fc L) {b : Nat} (hb : v.rs = some ⟨b, 0, none⟩) {k : Nat} (hk : k < v.l.length) {y z : Gc} (hy : PicG T B w' ⟨v.rs, v.rc, v.l.set k y⟩ fs fc L) {j : Nat} {u : Value} (hj : j < 7) (hx : gcCells z = (gcCells y).set j u) (hg : GcIn (fun b => T b ∧ Off v (Value.slice fs L.length fc).ownBlock L b) w' z) :
  PicG T B (w'.setCell ⟨b, k * 7 + j, none⟩ u) ⟨v.rs, v.rc, v.l.set k z⟩ fs fc L := by
 have h1 := PicG.putV hy hb (k := k) (j := j) (u := u) (x' := z) (by simpa using hk) hj (by simpa using hx) ⟨hg.1.mono fun q hq _ => ⟨hq.1, (Off.same (roB_set (by simp))).2 hq.2⟩, hg.2⟩
 simpa [List.set_set] using h1
theorem gcIn_stay {S : Nat → Prop} {x : Gc} {b : Nat} {o : Nat} {u : Value} (h : GcIn S w x) (hs : ¬ S b) : GcIn S (w.setCell ⟨b, o, none⟩ u) x := gcIn_put h fun q hq e => hs (by have e' : q = b := e; rw [← e']; exact hq)
theorem PicG.setV (h : PicG T B w v fs fc L) {b : Nat} (hb : v.rs = some ⟨b, 0, none⟩) {k : Nat} (hk : k < v.l.length) {x' : Gc} (hg : GcIn (fun b => T b ∧ Off v (Value.slice fs L.length fc).ownBlock L b) w x') : PicG T B (set7 w b k x') ⟨v.rs, v.rc, v.l.set k x'⟩ fs fc L := by
 have eb : roB v = some b := by unfold roB roV; rw [hb]; rfl
 have nb : ¬ (fun q => T q ∧ Off v (Value.slice fs L.length fc).ownBlock L q) b := fun q => q.2.1 eb
 obtain ⟨y, ey⟩ : ∃ y, y = v.l[k] := ⟨_, rfl⟩
 have gy : GcIn (fun b => T b ∧ Off v (Value.slice fs L.length fc).ownBlock L b) w y := by rw [ey]; exact h.sv _ (List.getElem_mem hk)
 have h0 : PicG T B w ⟨v.rs, v.rc, v.l.set k y⟩ fs fc L := by rw [ey, List.set_getElem_self]; exact h
 unfold set7
 have h1 := h.cellV hb hk h0 (j := 0) (u := .bool x'.g.n) (z := ⟨⟨x'.g.n, y.g.sp, y.g.t, y.g.f, y.g.s⟩, y.ss, y.cap⟩) (by omega) (by rfl) gy
 have h2 := h.cellV hb hk h1 (j := 1) (u := .bool x'.g.sp.n) (z := ⟨⟨x'.g.n, ⟨x'.g.sp.n, y.g.sp.lo, y.g.sp.hi⟩, y.g.t, y.g.f, y.g.s⟩, y.ss, y.cap⟩) (by omega) (by rfl) (gcIn_stay gy nb)
 have h3 := h.cellV hb hk h2 (j := 2) (u := .int .i64 x'.g.sp.lo) (z := ⟨⟨x'.g.n, ⟨x'.g.sp.n, x'.g.sp.lo, y.g.sp.hi⟩, y.g.t, y.g.f, y.g.s⟩, y.ss, y.cap⟩) (by omega) (by rfl) (gcIn_stay (gcIn_stay gy nb) nb)
 have h4 := h.cellV hb hk h3 (j := 3) (u := .int .i64 x'.g.sp.hi) (z := ⟨⟨x'.g.n, ⟨x'.g.sp.n, x'.g.sp.lo, x'.g.sp.hi⟩, y.g.t, y.g.f, y.g.s⟩, y.ss, y.cap⟩) (by omega) (by rfl) (gcIn_stay (gcIn_stay (gcIn_stay gy nb) nb) nb)
 have h5 := h.cellV hb hk h4 (j := 4) (u := .bool x'.g.t) (z := ⟨⟨x'.g.n, ⟨x'.g.sp.n, x'.g.sp.lo, x'.g.sp.hi⟩, x'.g.t, y.g.f, y.g.s⟩, y.ss, y.cap⟩) (by omega) (by rfl) (gcIn_stay (gcIn_stay (gcIn_stay (gcIn_stay gy nb) nb) nb) nb)
 have h6 := h.cellV hb hk h5 (j := 5) (u := .bool x'.g.f) (z := ⟨⟨x'.g.n, ⟨x'.g.sp.n, x'.g.sp.lo, x'.g.sp.hi⟩, x'.g.t, x'.g.f, y.g.s⟩, y.ss, y.cap⟩) (by omega) (by rfl) (gcIn_stay (gcIn_stay (gcIn_stay (gcIn_stay (gcIn_stay gy nb) nb) nb) nb) nb)
 have h7 := h.cellV hb hk h6 (j := 6) (u := .slice x'.ss x'.g.s.length x'.cap) (z := x') (by omega) (by rfl) (gcIn_stay (gcIn_stay (gcIn_stay (gcIn_stay (gcIn_stay (gcIn_stay hg nb) nb) nb) nb) nb) nb)
 exact h7
theorem PicG.cellF (h : PicG T B w v fs fc L) {s : Nat} (hs : s < L.length) {b : Nat} (hb : L[s].rs = some ⟨b, 0, none⟩) {k : Nat} (hk : k < L[s].l.length) {y z : Gc} (hy : PicG T B w' v fs fc (L.set s ⟨L[s].rs, L[s].rc, L[s].l.set k y⟩)) {j : Nat} {u : Value} (hj : j < 7) (hx : gcCells z = (gcCells y).set j u) (hg : GcIn (fun b => T b ∧ Off v (Value.slice fs L.length fc).ownBlock L b) w' z) :
  PicG T B (w'.setCell ⟨b, k * 7 + j, none⟩ u) v fs fc (L.set s ⟨L[s].rs, L[s].rc, L[s].l.set k z⟩) := by
 have eL : ∀ q, (∀ r ∈ L.set s ⟨L[s].rs, L[s].rc, L[s].l.set k y⟩, roB r ≠ some q) ↔ ∀ r ∈ L, roB r ≠ some q := fun q => by
  have e1 : (L.set s ⟨L[s].rs, L[s].rc, L[s].l.set k y⟩).map roB = L.map roB := by
   rw [List.map_set, roB_set (v := L[s]) (by simp), ← List.getElem_map (f := roB) (h := by simpa using hs), List.set_getElem_self]
  have e2 : ∀ M : List Ro, (∀ r ∈ M, roB r ≠ some q) ↔ ∀ o ∈ M.map roB, o ≠ some q := fun M => by simp only [List.mem_map, forall_exists_index, and_imp, forall_apply_eq_imp_iff₂]
  rw [e2, e1, ← e2]
 have h1 := PicG.putF hy (s := s) (by simpa using hs) (b := b) (by simpa using hb) (k := k) (j := j) (u := u) (x' := z) (by simpa using hk) hj (by simpa using hx) ⟨hg.1.mono fun q hq _ => ⟨hq.1, hq.2.1, by rw [List.length_set]; exact hq.2.2.1, (eL q).2 hq.2.2.2⟩, hg.2⟩
 simpa [List.set_set] using h1
theorem PicG.setF (h : PicG T B w v fs fc L) {s : Nat} (hs : s < L.length) {b : Nat} (hb : L[s].rs = some ⟨b, 0, none⟩) {k : Nat} (hk : k < L[s].l.length) {x' : Gc} (hg : GcIn (fun b => T b ∧ Off v (Value.slice fs L.length fc).ownBlock L b) w x') : PicG T B (set7 w b k x') v fs fc (L.set s ⟨L[s].rs, L[s].rc, L[s].l.set k x'⟩) := by
 have hm := List.getElem_mem hs
 have eb : roB L[s] = some b := by unfold roB roV; rw [hb]; rfl
 have nb : ¬ (fun q => T q ∧ Off v (Value.slice fs L.length fc).ownBlock L q) b := fun q => q.2.2.2 _ hm eb
 obtain ⟨y, ey⟩ : ∃ y, y = L[s].l[k] := ⟨_, rfl⟩
 have gy : GcIn (fun b => T b ∧ Off v (Value.slice fs L.length fc).ownBlock L b) w y := by rw [ey]; exact h.sf _ hm _ (List.getElem_mem hk)
 have h0 : PicG T B w v fs fc (L.set s ⟨L[s].rs, L[s].rc, L[s].l.set k y⟩) := by
  rw [ey, List.set_getElem_self]
  have : (⟨L[s].rs, L[s].rc, L[s].l⟩ : Ro) = L[s] := rfl
  rw [this, List.set_getElem_self]
  exact h
 unfold set7
 have h1 := h.cellF hs hb hk h0 (j := 0) (u := .bool x'.g.n) (z := ⟨⟨x'.g.n, y.g.sp, y.g.t, y.g.f, y.g.s⟩, y.ss, y.cap⟩) (by omega) (by rfl) gy
 have h2 := h.cellF hs hb hk h1 (j := 1) (u := .bool x'.g.sp.n) (z := ⟨⟨x'.g.n, ⟨x'.g.sp.n, y.g.sp.lo, y.g.sp.hi⟩, y.g.t, y.g.f, y.g.s⟩, y.ss, y.cap⟩) (by omega) (by rfl) (gcIn_stay gy nb)
 have h3 := h.cellF hs hb hk h2 (j := 2) (u := .int .i64 x'.g.sp.lo) (z := ⟨⟨x'.g.n, ⟨x'.g.sp.n, x'.g.sp.lo, y.g.sp.hi⟩, y.g.t, y.g.f, y.g.s⟩, y.ss, y.cap⟩) (by omega) (by rfl) (gcIn_stay (gcIn_stay gy nb) nb)
 have h4 := h.cellF hs hb hk h3 (j := 3) (u := .int .i64 x'.g.sp.hi) (z := ⟨⟨x'.g.n, ⟨x'.g.sp.n, x'.g.sp.lo, x'.g.sp.hi⟩, y.g.t, y.g.f, y.g.s⟩, y.ss, y.cap⟩) (by omega) (by rfl) (gcIn_stay (gcIn_stay (gcIn_stay gy nb) nb) nb)
 have h5 := h.cellF hs hb hk h4 (j := 4) (u := .bool x'.g.t) (z := ⟨⟨x'.g.n, ⟨x'.g.sp.n, x'.g.sp.lo, x'.g.sp.hi⟩, x'.g.t, y.g.f, y.g.s⟩, y.ss, y.cap⟩) (by omega) (by rfl) (gcIn_stay (gcIn_stay (gcIn_stay (gcIn_stay gy nb) nb) nb) nb)
 have h6 := h.cellF hs hb hk h5 (j := 5) (u := .bool x'.g.f) (z := ⟨⟨x'.g.n, ⟨x'.g.sp.n, x'.g.sp.lo, x'.g.sp.hi⟩, x'.g.t, x'.g.f, y.g.s⟩, y.ss, y.cap⟩) (by omega) (by rfl) (gcIn_stay (gcIn_stay (gcIn_stay (gcIn_stay (gcIn_stay gy nb) nb) nb) nb) nb)
 have h7 := h.cellF hs hb hk h6 (j := 6) (u := .slice x'.ss x'.g.s.length x'.cap) (z := x') (by omega) (by rfl) (gcIn_stay (gcIn_stay (gcIn_stay (gcIn_stay (gcIn_stay (gcIn_stay hg nb) nb) nb) nb) nb) nb)
 exact h7
/-- What a store into a picture's rows leaves as it was. -/
theorem heap_set7 {b k q : Nat} {x' : Gc} (h : q ≠ b) : (set7 w b k x').heap[q]? = w.heap[q]? := by
 unfold set7
 rw [Below.heap_setCell _ _ _ _ h, Below.heap_setCell _ _ _ _ h, Below.heap_setCell _ _ _ _ h, Below.heap_setCell _ _ _ _ h, Below.heap_setCell _ _ _ _ h, Below.heap_setCell _ _ _ _ h, Below.heap_setCell _ _ _ _ h]
theorem size_set7 {b k : Nat} {x' : Gc} : (set7 w b k x').heap.size = w.heap.size := by simp [set7, World.setCell]
theorem below_set7 {A : Nat} {w0 : World} {b k : Nat} {x' : Gc} (h : Below A w0 w) (hb : A ≤ b) : Below A w0 (set7 w b k x') := by
 unfold set7
 exact ((((((h.setCell hb _).setCell hb _).setCell hb _).setCell hb _).setCell hb _).setCell hb _).setCell hb _
end
end
section
set_option maxHeartbeats 4000000
set_option maxRecDepth 10000
open Go.RowKit
attribute [local go_sem ↓] Go.wp_at_zero Go.wp_at_succ

theorem replRow (n : Nat) (x : Gc) : (rowCells (List.replicate n x)).length = n * 7 := by rw [rowCells_len, List.length_replicate]
theorem replRow_add (a b : Nat) (x : Gc) : rowCells (List.replicate a x) ++ rowCells (List.replicate b x) = rowCells (List.replicate (a + b) x) := by rw [← rowCells_append, List.replicate_append_replicate]
theorem replRow_get (m n : Nat) (x : Gc) (h : m ≤ n) (j : Nat) (u : Value) (hj : (rowCells (List.replicate m x))[j]? = some u) : (rowCells (List.replicate n x))[j]? = some u := by
 obtain ⟨d, rfl⟩ : ∃ d, n = m + d := ⟨n - m, by omega⟩
 rw [← replRow_add, List.getElem?_append_left (List.getElem?_eq_some_iff.1 hj).1]
 exact hj
theorem rowCells_oneM (l : List Gc) : ∀ u ∈ rowCells l, u.oneCell' = true := by
 intro u hu
 obtain ⟨x, hx, hu⟩ := List.mem_flatMap.1 hu
 exact gcCells_one x u hu
/-- A block that is filled with a guess, so many times, from the front. -/
def Filled (w : World) (b n k : Nat) (x : Gc) : Prop := k ≤ n ∧ ∃ cs : List Value, w.heap[b]? = some (.cells cs.toArray 61 (0, 0)) ∧ cs.length = n * 7 ∧ cs.take (k * 7) = rowCells (List.replicate k x)
theorem Filled.lt {w : World} {b n k : Nat} {x : Gc} (h : Filled w b n k x) : b < w.heap.size := by
 obtain ⟨_, cs, h1, _⟩ := h
 exact (Array.getElem?_eq_some_iff.1 h1).1
/-- What copy makes of it: a row that lies at a is copied behind what is there. -/
theorem Filled.copy {P : Program} {w : World} {b n k : Nat} {x : Gc} (h : Filled w b n k x) (dT ty : TypeId) (a : Addr) (sLen sCap dCap m : Nat) (hu : P.underlying dT = some (.slice 61)) (hs : (P.info? 61).map (·.size) = some 7) (hm : m = Nat.min sLen (n - k))
  (hsrc : ∀ j v, (rowCells (List.replicate m x))[j]? = some v → w.cell? (a.add j) = some v) :
  ∃ w', (Builtin.copy_ #[dT, dT] ty #[.slice (some ⟨b, k * 7, none⟩) (n - k) dCap, .slice (some a) sLen sCap]).run P w = .ok (goInt m) w' ∧ Filled w' b n (k + m) x ∧ ∀ B w0, B ≤ b → Below B w0 w → Below B w0 w' := by
 obtain ⟨hk, cs, h1, h2, h3⟩ := h
 have hmn : m ≤ n - k := by rw [hm]; exact Nat.min_le_right _ _
 have hl : (rowCells (List.replicate m x)).length = m * 7 := replRow m x
 have hfit : k * 7 + m * 7 ≤ n * 7 := by omega
 refine ⟨w.setRow b (cs.take (k * 7) ++ rowCells (List.replicate m x) ++ cs.drop (k * 7 + (rowCells (List.replicate m x)).length)).toArray, ?_, ?_, fun B w0 hB hb => below_setRow hb hB _⟩
 ·have e := run_copy_rowK w dT dT ty 61 b (k * 7) (n - k) dCap a sLen sCap 7 cs.toArray 61 (rowCells (List.replicate m x)) hu hs h1 (by rw [hl, hm]) hsrc (by rw [hl]; simpa [h2] using hfit) (rowCells_oneM _)
  rw [← hm] at e
  exact e
 ·refine ⟨by omega, cs.take (k * 7) ++ rowCells (List.replicate m x) ++ cs.drop (k * 7 + (rowCells (List.replicate m x)).length), ?_, ?_, ?_⟩
  ·exact setRow_heap w b cs.toArray _ _ _ h1
  ·simp only [List.length_append, List.length_take, List.length_drop, hl, h2]
   omega
  ·rw [h3, replRow_add]
   exact List.take_left' (by rw [replRow])
theorem Filled.gets {w : World} {b n : Nat} {g : Gs} (hs : g.s = []) (h : Filled w b n n ⟨g, none, 0⟩) : GsIn (fun k => k = b) w (some ⟨b, 0, none⟩) (List.replicate n g) := by
 have hz := h.lt
 obtain ⟨_, cs, h1, h2, h3⟩ := h
 rw [List.take_of_length_le (by omega)] at h3
 subst h3
 intro i hi
 have hin : i < n := by simpa using hi
 have hc : ∀ j, j < 7 → w.cell? ⟨b, i * 7 + j, none⟩ = (gcCells ⟨g, none, 0⟩)[j]? := fun j hj => by
  have e := rowCells_get (List.replicate n (⟨g, none, 0⟩ : Gc)) i (by simpa using hin) j hj
  rw [List.getElem_replicate] at e
  rw [← e]
  simp [World.cell?, h1]
 refine ⟨b, 0, rfl, rfl, none, 0, ⟨?_, hz⟩, .inl (by simp [hs]), by simp [hs], by unfold maxLen; omega⟩
 simp only [List.getElem_replicate, Nat.zero_add]
 exact ⟨hc 0 (by omega), hc 1 (by omega), hc 2 (by omega), hc 3 (by omega), hc 4 (by omega), hc 5 (by omega), hc 6 (by omega)⟩
theorem repeatG_any (g : Gs) (hs0 : g.s = []) (n : Nat) (h8 : n ≤ 8) (b : Nat) (w : World) (hg : GuAt w b 0 g none 0) :
  Calls Tryz.prog 98 #[.slice (some ⟨b, 0, none⟩) 1 1, .int .i64 (n : Int)] w fun e w' => (∃ rs, e = .returned (.slice rs n n) ∧ GsIn (fun b => w.heap.size ≤ b) w' rs (List.replicate n g)) ∧ Below w.heap.size w w' := by
 obtain ⟨ti, hi, hz0, hz1, hz2⟩ := info_parts Tryz.info_guess
 have HMU : Hid (Calls Tryz.prog 128 #[.int .u64 1, .int .u64 (n : Int)] w fun e w' => e = .returned (.tuple #[.int .u64 0, .int .u64 (n : Int)]) ∧ w' = w) := by
  refine (Tryz.bits_Mul 1 n (by omega) (by omega) w).mono ?_
  rintro e w1 ⟨rfl, rfl⟩
  refine ⟨?_, rfl⟩
  have e1 : 1 * n / 18446744073709551616 = 0 := by omega
  have e2 : 1 * n % 18446744073709551616 = n := by omega
  rw [e1, e2]
  rfl
 have HMK := run_makeSlice (P := Tryz.prog) w 25 61 ti (.agg #[.bool false, .bool false, .int .i64 0, .int .i64 0, .bool false, .bool false, .slice none 0 0]) Tryz.underlying25 hi hz0 .i64 .i64 (n : Int) (n : Int) (by omega) (Int.le_refl _) (by rw [hz1]; omega) (by rw [hz2]; omega) (by omega)
 rw [Int.toNat_natCast, hz1] at HMK
 have F0 : Filled (w.alloc (.cells (madeCells (Value.cells (.agg #[.bool false, .bool false, .int .i64 0, .int .i64 0, .bool false, .bool false, .slice none 0 0])) (n * 7)) 61)) w.heap.size n 0 ⟨g, none, 0⟩ := by
  refine ⟨Nat.zero_le _, (madeCells (Value.cells (.agg #[.bool false, .bool false, .int .i64 0, .int .i64 0, .bool false, .bool false, .slice none 0 0])) (n * 7)).toList, heap_alloc_new _ _, by simp [size_madeCells], by simp [rowCells]⟩
 have hb0 : Below w.heap.size w (w.alloc (.cells (madeCells (Value.cells (.agg #[.bool false, .bool false, .int .i64 0, .int .i64 0, .bool false, .bool false, .slice none 0 0])) (n * 7)) 61)) := by go_grown
 have G0 := hg.alloc (.cells (madeCells (Value.cells (.agg #[.bool false, .bool false, .int .i64 0, .int .i64 0, .bool false, .bool false, .slice none 0 0])) (n * 7)) 61)
 have hns : ¬ (n : Int) < 0 := by omega
 have N1 : (n : Int) ≤ 9223372036854775807 := by omega
 obtain ⟨w2, HR, F2, HB2⟩ := F0.copy (P := Tryz.prog) 25 3 ⟨b, 0, none⟩ 1 1 n (Nat.min 1 n) Tryz.underlying25 (by rw [hi]; exact congrArg some hz1) (by simp) (fun j v hj => by
  have hj' := replRow_get (Nat.min 1 n) 1 ⟨g, none, 0⟩ (Nat.min_le_left _ _) j v hj
  have e1 : rowCells (List.replicate 1 (⟨g, none, 0⟩ : Gc)) = gcCells ⟨g, none, 0⟩ := by simp [rowCells]
  rw [e1] at hj'
  obtain ⟨⟨g0, g1, g2, g3, g4, g5, g6⟩, -⟩ := G0
  rw [Addr.add_lit]
  have hj7 : j < 7 := by have := (List.getElem?_eq_some_iff.1 hj').1; rwa [gcCells_len] at this
  rw [← hj']
  rcases (show j = 0 ∨ j = 1 ∨ j = 2 ∨ j = 3 ∨ j = 4 ∨ j = 5 ∨ j = 6 by omega) with rfl | rfl | rfl | rfl | rfl | rfl | rfl
  ·exact g0
  ·exact g1
  ·exact g2
  ·exact g3
  ·exact g4
  ·exact g5
  ·exact g6)
 have hb2 := HB2 w.heap.size w (Nat.le_refl _) hb0
 simp only [Nat.zero_mul, Nat.sub_zero, Nat.zero_add] at HR F2
 clear HB2 F0 hb0 G0
 generalize w.alloc (.cells (madeCells (Value.cells (.agg #[.bool false, .bool false, .int .i64 0, .int .i64 0, .bool false, .bool false, .slice none 0 0])) (n * 7)) 61) = wA at *
 have HNM : n ≤ 1 → Nat.min 1 n = n := fun h => Nat.min_eq_right h
 have HM1 : Nat.min 1 n ≤ n := Nat.min_le_right _ _
 have HM2 : 1 ≤ n → Nat.min 1 n = 1 := fun h => Nat.min_eq_left h
 have m0 : n = 0 ∨ 1 ≤ Nat.min 1 n := by by_cases h : n = 0; exact .inl h; exact .inr (by rw [HM2 (by omega)]; exact Nat.le_refl _)
 clear HNM HM2
 generalize Nat.min 1 n = m at *
 go_enter Tryz.func98, Tryz.ntmps98
 go_wp2_with (go_at_call 128; fail)
 refine HMU.out.mono ?_
 rintro e w1 ⟨rfl, rfl⟩
 clear HMU
 go_wp2
 clear HR HMK
 go_loopw [8] (fun i wr => ∃ k : Nat, k ≤ n ∧ (n = 0 ∨ 1 ≤ k) ∧ i = .int .i64 (k : Int) ∧ Filled wr w1.heap.size n k ⟨g, none, 0⟩ ∧ Below w1.heap.size w1 wr) (fun i _ => n - (intOf i).toNat)
 case atStart => exact ⟨m, HM1, m0, rfl, F2, hb2⟩
 case round =>
  clear F2 hb2 HM1 m0
  obtain ⟨k, hk, hk0, rfl, FK, BK⟩ := hrel
  have FD : Filled wr.drew w1.heap.size n k ⟨g, none, 0⟩ := FK
  have BD := BK.drew
  by_cases hlt : k < n
  ·have hk1 : 1 ≤ k := by omega
   have n0 : (0 : Int) ≤ (k : Int) := by omega
   have n1 : (k : Int) < (n : Int) := by omega
   have n2 : (k : Int) ≤ (n : Int) := by omega
   obtain ⟨w3, HR, F3, HB3⟩ := FD.copy (P := Tryz.prog) 25 3 ⟨w1.heap.size, 0, none⟩ k n (n - k) (Nat.min k (n - k)) Tryz.underlying25 (by rw [hi]; exact congrArg some hz1) rfl (fun j v hj => by
    obtain ⟨_, cs, c1, c2, c3⟩ := FD
    have hj' := replRow_get (Nat.min k (n - k)) k ⟨g, none, 0⟩ (Nat.min_le_left _ _) j v hj
    rw [← c3, List.getElem?_take] at hj'
    split at hj'
    ·rw [Addr.add_lit, Nat.zero_add]
     simp [World.cell?, c1, hj']
    ·cases hj')
   have B3 := HB3 w1.heap.size w1 (Nat.le_refl _) BD
   have hm1 : 1 ≤ Nat.min k (n - k) := Nat.le_min.2 ⟨hk1, by omega⟩
   have hm2 : Nat.min k (n - k) ≤ n - k := Nat.min_le_right _ _
   have HR' := hideH HR
   clear HR HB3 FK BK FD BD
   generalize Nat.min k (n - k) = q at *
   have HS1 : ∀ wx, (Instr.sliceAt 25 (.slice (some ⟨w1.heap.size, 0, none⟩) n n) (some (.int .i64 (k : Int))) none none).run Tryz.prog wx = .ok (.slice (some ⟨w1.heap.size, k * 7, none⟩) (n - k) (n - k)) wx := by
    intro wx
    simp [go_sem]
    rw [if_pos (by omega), if_neg (by omega)]
   have HS2 : ∀ wx, (Instr.sliceAt 25 (.slice (some ⟨w1.heap.size, 0, none⟩) n n) none (some (.int .i64 (k : Int))) none).run Tryz.prog wx = .ok (.slice (some ⟨w1.heap.size, 0, none⟩) k n) wx := by
    intro wx
    simp [go_sem]
    intro h
    omega
   go_upto_region 9 with fail
   refine wp_region_z (S := fun _ => True) [] (by kernel_rfl) trivial (fun hHeld => ?_)
   refine tZ 0 ?_ ?_;refine sm ?_
   refine tZ 1 ?_ ?_;refine sm ?_
   refine tZ 2 ?_ ?_;refine sm ?_
   refine tZ 3 ?_ ?_;refine sm ?_
   refine tZ 4 ?_ ?_;refine sm ?_
   refine tZ 5 ?_ ?_;refine sm ?_
   refine tZ 6 ?_ ?_;refine sm ?_
   refine wpAnyZ_one (i := 7) rfl (by kernel_rfl) (fun K hK => ?_)
   refine Lib.wp_copy_run _ _ _ 25 25 rfl _ _ rfl rfl HR'.out ?_
   refine hK.out _ _ trivial (fun hHeld => ?_)
   clear hK K
   refine sm ?_
   refine tZ 8 ?_ ?_;refine sm ?_
   refine tZ 9 ?_ ?_;refine sm ?_
   refine wpAnyZ_done (by kernel_rfl) ?_ _
   clear HS1 HS2 HR'
   have EW : IntKind.i64.wrap ((k : Int) + (q : Int)) = ((k + q : Nat) : Int) := by rw [IntKind.wrap_i64]; omega
   rw [EW]
   clear EW
   go_wp2
   go_roundw
   case rel => exact ⟨k + q, by omega, .inr (by omega), by go_num, F3, B3⟩
   case measure => simp [intOf]; omega
  ·have n1 : ¬ (k : Int) < (n : Int) := by omega
   have ek : k = n := by omega
   subst ek
   go_wp2
   go_ret
   exact ⟨⟨_, rfl, (FK.gets hs0).mono fun b h _ => by omega⟩, BK⟩
theorem rowG_any (g : Gs) (hs0 : g.s = []) (n : Nat) (h8 : n ≤ 8) (w : World) :
  Calls Tryz.prog 66 #[.agg #[.bool g.n, .bool g.sp.n, .int .i64 g.sp.lo, .int .i64 g.sp.hi, .bool g.t, .bool g.f, .slice none 0 0], .int .i64 (n : Int)] w fun e w' => (∃ rs, e = .returned (.slice rs n n) ∧ GsIn (fun b => w.heap.size ≤ b) w' rs (List.replicate n g)) ∧ Below w.heap.size w w' := by
 have hl0 : g.s.length = 0 := by rw [hs0]; rfl
 have G1 := GuAt.new (w.alloc (.cells #[.bool g.n, .bool g.sp.n, .int .i64 g.sp.lo, .int .i64 g.sp.hi, .bool g.t, .bool g.f, .slice none g.s.length 0] 61)) g none 0
 rw [hl0, World.size_alloc] at G1
 have HR := hideH (repeatG_any g hs0 n h8 _ _ G1)
 clear G1
 have hb1 : Below w.heap.size w ((w.alloc (.cells #[.bool g.n, .bool g.sp.n, .int .i64 g.sp.lo, .int .i64 g.sp.hi, .bool g.t, .bool g.f, .slice none 0 0] 61)).alloc (.cells #[.bool g.n, .bool g.sp.n, .int .i64 g.sp.lo, .int .i64 g.sp.hi, .bool g.t, .bool g.f, .slice none 0 0] 61)) := by go_grown
 go_enter Tryz.func66, Tryz.ntmps66
 go_wp2_with (go_at_call 98; fail)
 refine HR.out.mono ?_
 rintro e w2 ⟨⟨rs, rfl, GV⟩, hb2⟩
 go_wp2
 go_ret
 exact ⟨⟨rs, rfl, GV.mono fun b h _ => Nat.le_trans hb1.size h⟩, hb1.trans (hb2.mono hb1.size)⟩
end
section
open Go.RowKit

def setL (w : World) (b : Nat) : Nat → List Value → World
 | _, [] => w
 | i, y :: ys => setL (w.setCell ⟨b, i, none⟩ y) b (i + 1) ys
theorem setL_far (b k : Nat) (hk : k ≠ b) : ∀ (ys : List Value) (i : Nat) (w : World), (setL w b i ys).heap[k]? = w.heap[k]?
 | [], _, _ => rfl
 | y :: ys, i, w => by
  show (setL (w.setCell ⟨b, i, none⟩ y) b (i + 1) ys).heap[k]? = _
  rw [setL_far b k hk ys (i + 1) _, Below.heap_setCell _ _ _ _ hk]
theorem setL_size (b : Nat) : ∀ (ys : List Value) (i : Nat) (w : World), (setL w b i ys).heap.size = w.heap.size
 | [], _, _ => rfl
 | y :: ys, i, w => by
  show (setL (w.setCell ⟨b, i, none⟩ y) b (i + 1) ys).heap.size = _
  rw [setL_size b ys (i + 1) _]
  simp [World.setCell]
theorem setL_below {B : Nat} {a : World} (b : Nat) (hB : B ≤ b) : ∀ (ys : List Value) (i : Nat) (w : World), Below B a w → Below B a (setL w b i ys)
 | [], _, _, h => h
 | y :: ys, i, w, h => setL_below b hB ys (i + 1) _ (h.setCell (p := ⟨b, i, none⟩) hB y)
end
section
open Go.RowKit
def setCs : List Value → Nat → List Value → List Value
 | cs, _, [] => cs
 | cs, o, y :: ys => setCs (cs.set o y) (o + 1) ys
/-- What a row of stores into block b leaves. -/
structure Put (b : Nat) (w w' : World) (cs : List Value) : Prop where
 cells : Cells w' b cs
 far : ∀ q, q ≠ b → w'.heap[q]? = w.heap[q]?
 size : w.heap.size ≤ w'.heap.size
 low : ∀ {B : Nat} {a : World}, B ≤ b → Below B a w → Below B a w'
section
variable {b : Nat} {w w' : World} {cs : List Value}
theorem setL_cells : ∀ (ys : List Value) (o : Nat) (w : World) (cs : List Value), Cells w b cs → o + ys.length ≤ cs.length → Cells (setL w b o ys) b (setCs cs o ys)
 | [], _, _, _, h, _ => h
 | y :: ys, o, w, cs, h, hl => setL_cells ys (o + 1) _ _ (h.put o (by simp at hl; omega) y) (by simp at hl ⊢; omega)
theorem put_some (h : Cells w b cs) (o : Nat) (ys : List Value) (e : w' = setL w b o ys) (hl : o + ys.length ≤ cs.length := by simp) : Put b w w' (setCs cs o ys) := by
 subst e
 exact ⟨setL_cells ys o w cs h hl, fun q hq => setL_far b q hq ys o w, by rw [setL_size]; exact Nat.le_refl _, fun hB hb => setL_below b hB ys o w hb⟩
theorem Put.refl (h : Cells w b cs) : Put b w w cs := ⟨h, fun _ _ => rfl, Nat.le_refl _, fun _ hb => hb⟩
theorem Put.trans {w2 : World} {ds : List Value} (p : Put b w w' cs) (q : Put b w' w2 ds) : Put b w w2 ds := ⟨q.cells, fun k hk => (q.far k hk).trans (p.far k hk), Nat.le_trans p.size q.size, fun hB hb => q.low hB (p.low hB hb)⟩
theorem Put.keep (p : Put b w w' cs) {q : Nat} {ds : List Value} (h : Cells w q ds) (hq : q ≠ b := by omega) : Cells w' q ds := h.same (p.far q hq) p.size
theorem Put.ints (p : Put b w w' cs) {S : Nat → Prop} {ss : Option Addr} {l : List Int} (h : IntsIn S w ss l) (hS : ∀ q, S q → q ≠ b) : IntsIn S w' ss l := h.same (fun q hq _ => p.far q (hS q hq)) p.size
end
end
end Go.Proofs.YtmapdpcfanecdabGreat
