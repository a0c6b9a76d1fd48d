/- How guesses lie in memory. -/
import Derived.Test.YtmapdpcfanecdaaGreatKguxp01
import Derived.Test.YtmapdpcfanecdaaGreatKguxp03
import Derived.Test.YtmapdpcfanecdaaGreatKguxp05
import Derived.WalkSmall
namespace Go.Proofs.YtmapdpcfanecdaaGreat
set_option linter.unusedVariables false
set_option linter.unusedSimpArgs false
open Go.RowKit

theorem hideH {p : Prop} (h : p) : Hid p := h

theorem IntsAt.get {w : World} {ss : Option Addr} {l : List Int} (h : IntsAt w ss l) (k : Nat) (hk : k < l.length) :
    ∃ b off, ss = some ⟨b, off, none⟩ ∧ b < w.heap.size ∧ ∀ k (h : k < l.length), w.cell? ⟨b, off + k, none⟩ = some (.int .i64 l[k]) := by
  rcases h with rfl | h
  · exact absurd hk (by simp)
  · exact h
theorem IntsAt.call {w w' : World} {ss : Option Addr} {l : List Int} (h : IntsAt w ss l) (hb : Below w.heap.size w w') : IntsAt w' ss l := h.below hb (Nat.le_refl _)
theorem IntsAt.alloc {w : World} {ss : Option Addr} {l : List Int} (h : IntsAt w ss l) (o : Obj) : IntsAt (w.alloc o) ss l := h.call (Below.alloc (Below.refl _ _) (Nat.le_refl _) o)
theorem IntsAt.drew {w : World} {ss : Option Addr} {l : List Int} (h : IntsAt w ss l) : IntsAt w.drew ss l := h
theorem IntsAt.drewN {w : World} {ss : Option Addr} {l : List Int} (h : IntsAt w ss l) (n : Nat) : IntsAt (w.drewN n) ss l := h.call (below_drewN (Below.refl _ _) n)
theorem CodeAt.get {w : World} {s : Option Addr} {c : List Ins} (h : CodeAt w s c) (k : Nat) (hk : k < c.length) :
    ∃ b off, s = some ⟨b, off, none⟩ ∧ b < w.heap.size ∧ ∀ k (h : k < c.length), InsAt w b (off + k * 6) c[k] := by
  rcases h with rfl | h
  · exact absurd hk (by simp)
  · exact h
theorem CodeAt.call {w w' : World} {s : Option Addr} {c : List Ins} (h : CodeAt w s c) (hb : Below w.heap.size w w') : CodeAt w' s c := h.below hb (Nat.le_refl _)
theorem CodeAt.alloc {w : World} {s : Option Addr} {c : List Ins} (h : CodeAt w s c) (o : Obj) : CodeAt (w.alloc o) s c := h.call (Below.alloc (Below.refl _ _) (Nat.le_refl _) o)

/-- A guess as the program holds it: its sites lie behind a slice. -/
abbrev gv (g : Gs) (ss : Option Addr) (cap : Nat) : Value := .agg #[.bool g.n, .bool g.sp.n, .int .i64 g.sp.lo, .int .i64 g.sp.hi, .bool g.t, .bool g.f, .slice ss g.s.length cap]
/-- A program as it is held. -/
abbrev pv (V F : Int) (s : Option Addr) (c : List Ins) (cap : Nat) : Value := .agg #[.int .i64 V, .int .i64 F, .slice s c.length cap]

/-- A guess lies in seven cells. -/
def GuAt (w : World) (b o : Nat) (g : Gs) (ss : Option Addr) (cap : Nat) : Prop :=
  (w.cell? ⟨b, o, none⟩ = some (.bool g.n) ∧ w.cell? ⟨b, o + 1, none⟩ = some (.bool g.sp.n) ∧ w.cell? ⟨b, o + 2, none⟩ = some (.int .i64 g.sp.lo) ∧ w.cell? ⟨b, o + 3, none⟩ = some (.int .i64 g.sp.hi) ∧ w.cell? ⟨b, o + 4, none⟩ = some (.bool g.t) ∧ w.cell? ⟨b, o + 5, none⟩ = some (.bool g.f) ∧ w.cell? ⟨b, o + 6, none⟩ = some (.slice ss g.s.length cap)) ∧ b < w.heap.size
theorem GuAt.below {B : Nat} {w w' : World} {b o : Nat} {g : Gs} {ss : Option Addr} {cap : Nat} (h : GuAt w b o g ss cap) (hb : Below B w w') (hB : w.heap.size ≤ B) : GuAt w' b o g ss cap := by
  obtain ⟨⟨h0, h1, h2, h3, h4, h5, h6⟩, hz⟩ := h
  refine ⟨⟨?_, ?_, ?_, ?_, ?_, ?_, ?_⟩, Nat.lt_of_lt_of_le hz hb.size⟩ <;> rw [hb.cell (by simp; omega)] <;> assumption
theorem GuAt.call {w w' : World} {b o : Nat} {g : Gs} {ss : Option Addr} {cap : Nat} (h : GuAt w b o g ss cap) (hb : Below w.heap.size w w') : GuAt w' b o g ss cap := h.below hb (Nat.le_refl _)
theorem GuAt.alloc {w : World} {b o : Nat} {g : Gs} {ss : Option Addr} {cap : Nat} (h : GuAt w b o g ss cap) (x : Obj) : GuAt (w.alloc x) b o g ss cap := h.call (Below.alloc (Below.refl _ _) (Nat.le_refl _) x)
theorem GuAt.drew {w : World} {b o : Nat} {g : Gs} {ss : Option Addr} {cap : Nat} (h : GuAt w b o g ss cap) : GuAt w.drew b o g ss cap := h
theorem GuAt.new (w : World) (g : Gs) (ss : Option Addr) (cap : Nat) : GuAt (w.alloc (.cells #[.bool g.n, .bool g.sp.n, .int .i64 g.sp.lo, .int .i64 g.sp.hi, .bool g.t, .bool g.f, .slice ss g.s.length cap] 29)) w.heap.size 0 g ss cap := ⟨by simp [go_sem], by simp⟩

/-- A program lies in a block. -/
def PrAt (w : World) (b : Nat) (V F : Int) (s : Option Addr) (c : List Ins) (cap : Nat) : Prop :=
  (w.cell? ⟨b, 0, none⟩ = some (.int .i64 V) ∧ w.cell? ⟨b, 1, none⟩ = some (.int .i64 F) ∧ w.cell? ⟨b, 2, none⟩ = some (.slice s c.length cap)) ∧ b < w.heap.size
theorem PrAt.below {B : Nat} {w w' : World} {b : Nat} {V F : Int} {s : Option Addr} {c : List Ins} {cap : Nat} (h : PrAt w b V F s c cap) (hb : Below B w w') (hB : w.heap.size ≤ B) : PrAt w' b V F s c cap := by
  obtain ⟨⟨h0, h1, h2⟩, hz⟩ := h
  refine ⟨⟨?_, ?_, ?_⟩, Nat.lt_of_lt_of_le hz hb.size⟩ <;> rw [hb.cell (by simp; omega)] <;> assumption
theorem PrAt.call {w w' : World} {b : Nat} {V F : Int} {s : Option Addr} {c : List Ins} {cap : Nat} (h : PrAt w b V F s c cap) (hb : Below w.heap.size w w') : PrAt w' b V F s c cap := h.below hb (Nat.le_refl _)
theorem PrAt.alloc {w : World} {b : Nat} {V F : Int} {s : Option Addr} {c : List Ins} {cap : Nat} (h : PrAt w b V F s c cap) (x : Obj) : PrAt (w.alloc x) b V F s c cap := h.call (Below.alloc (Below.refl _ _) (Nat.le_refl _) x)
theorem PrAt.drew {w : World} {b : Nat} {V F : Int} {s : Option Addr} {c : List Ins} {cap : Nat} (h : PrAt w b V F s c cap) : PrAt w.drew b V F s c cap := h
theorem GuAt.drewN {w : World} {b o : Nat} {g : Gs} {ss : Option Addr} {cap : Nat} (h : GuAt w b o g ss cap) (n : Nat) : GuAt (w.drewN n) b o g ss cap := h.call (below_drewN (Below.refl _ _) n)
theorem PrAt.drewN {w : World} {b : Nat} {V F : Int} {s : Option Addr} {c : List Ins} {cap : Nat} (h : PrAt w b V F s c cap) (n : Nat) : PrAt (w.drewN n) b V F s c cap := h.call (below_drewN (Below.refl _ _) n)
theorem PrAt.new (w : World) (V F : Int) (s : Option Addr) (c : List Ins) (cap : Nat) : PrAt (w.alloc (.cells #[.int .i64 V, .int .i64 F, .slice s c.length cap] 24)) w.heap.size V F s c cap := ⟨by simp [go_sem], by simp⟩

/-- A list of guesses lies behind a slice's address, each with its sites. -/
def GsAt (w : World) (ls : Option Addr) (L : List Gs) : Prop :=
  ∀ i (h : i < L.length), ∃ b off, ls = some ⟨b, off, none⟩ ∧ ∃ ss cap, GuAt w b (off + i * 7) L[i] ss cap ∧ IntsAt w ss L[i].s ∧ L[i].s.length ≤ cap ∧ cap ≤ maxLen
theorem GsAt.below {B : Nat} {w w' : World} {ls : Option Addr} {L : List Gs} (h : GsAt w ls L) (hb : Below B w w') (hB : w.heap.size ≤ B) : GsAt w' ls L := by
  intro i hi
  obtain ⟨b, off, e, ss, cap, h1, h2, h3, h4⟩ := h i hi
  exact ⟨b, off, e, ss, cap, h1.below hb hB, h2.below hb hB, h3, h4⟩
theorem GsAt.call {w w' : World} {ls : Option Addr} {L : List Gs} (h : GsAt w ls L) (hb : Below w.heap.size w w') : GsAt w' ls L := h.below hb (Nat.le_refl _)
theorem GsAt.alloc {w : World} {ls : Option Addr} {L : List Gs} (h : GsAt w ls L) (o : Obj) : GsAt (w.alloc o) ls L := h.call (Below.alloc (Below.refl _ _) (Nat.le_refl _) o)

/-- .. without their sites. -/
def GhAt (w : World) (ls : Option Addr) (L : List Gs) : Prop :=
  ∀ i (h : i < L.length), ∃ b off, ls = some ⟨b, off, none⟩ ∧ ∃ ss cap, GuAt w b (off + i * 7) L[i] ss cap
theorem GsAt.heads {w : World} {ls : Option Addr} {L : List Gs} (h : GsAt w ls L) : GhAt w ls L := by
  intro i hi
  obtain ⟨b, off, e, ss, cap, h1, -⟩ := h i hi
  exact ⟨b, off, e, ss, cap, h1⟩
theorem GhAt.below {B : Nat} {w w' : World} {ls : Option Addr} {L : List Gs} (h : GhAt w ls L) (hb : Below B w w') (hB : w.heap.size ≤ B) : GhAt w' ls L := by
  intro i hi
  obtain ⟨b, off, e, ss, cap, h1⟩ := h i hi
  exact ⟨b, off, e, ss, cap, h1.below hb hB⟩
theorem GhAt.call {w w' : World} {ls : Option Addr} {L : List Gs} (h : GhAt w ls L) (hb : Below w.heap.size w w') : GhAt w' ls L := h.below hb (Nat.le_refl _)

/-- One guess in a block of its own. -/
theorem GsAt.new1 (w : World) (g : Gs) (ss : Option Addr) (gc : Nat) (hs : IntsAt w ss g.s) (h1 : g.s.length ≤ gc) (h2 : gc ≤ maxLen) :
    GsAt (w.alloc (.cells #[.bool g.n, .bool g.sp.n, .int .i64 g.sp.lo, .int .i64 g.sp.hi, .bool g.t, .bool g.f, .slice ss g.s.length gc] 29)) (some ⟨w.heap.size, 0, none⟩) [g] := by
  intro i hi
  obtain rfl : i = 0 := by simp at hi; omega
  exact ⟨w.heap.size, 0, rfl, ss, gc, GuAt.new w g ss gc, hs.alloc _, h1, h2⟩

theorem GhAt.new1 (w : World) (g : Gs) (ss : Option Addr) (gc : Nat) :
    GhAt (w.alloc (.cells #[.bool g.n, .bool g.sp.n, .int .i64 g.sp.lo, .int .i64 g.sp.hi, .bool g.t, .bool g.f, .slice ss g.s.length gc] 29)) (some ⟨w.heap.size, 0, none⟩) [g] := by
  intro i hi
  obtain rfl : i = 0 := by simp at hi; omega
  exact ⟨w.heap.size, 0, rfl, ss, gc, GuAt.new w g ss gc⟩

/-- Two guesses in a block of their own. -/
abbrev twoW (w : World) (g : Gs) (ss : Option Addr) (gc : Nat) (h : Gs) (st : Option Addr) (hc : Nat) : World :=
  w.alloc (.cells #[.bool g.n, .bool g.sp.n, .int .i64 g.sp.lo, .int .i64 g.sp.hi, .bool g.t, .bool g.f, .slice ss g.s.length gc, .bool h.n, .bool h.sp.n, .int .i64 h.sp.lo, .int .i64 h.sp.hi, .bool h.t, .bool h.f, .slice st h.s.length hc] 29)
theorem GuAt.two0 (w : World) (g : Gs) (ss : Option Addr) (gc : Nat) (h : Gs) (st : Option Addr) (hc : Nat) : GuAt (twoW w g ss gc h st hc) w.heap.size 0 g ss gc := ⟨by simp [go_sem], by simp⟩
theorem GuAt.two1 (w : World) (g : Gs) (ss : Option Addr) (gc : Nat) (h : Gs) (st : Option Addr) (hc : Nat) : GuAt (twoW w g ss gc h st hc) w.heap.size 7 h st hc := ⟨by simp [go_sem], by simp⟩
theorem GsAt.new2 (w : World) (g : Gs) (ss : Option Addr) (gc : Nat) (h : Gs) (st : Option Addr) (hc : Nat) (hs : IntsAt w ss g.s) (h1 : g.s.length ≤ gc) (h2 : gc ≤ maxLen) (ht : IntsAt w st h.s) (h3 : h.s.length ≤ hc) (h4 : hc ≤ maxLen) :
    GsAt (twoW w g ss gc h st hc) (some ⟨w.heap.size, 0, none⟩) [g, h] := by
  intro i hi
  by_cases e : i = 0
  · subst e; exact ⟨w.heap.size, 0, rfl, ss, gc, GuAt.two0 w g ss gc h st hc, hs.alloc _, h1, h2⟩
  · obtain rfl : i = 1 := by simp at hi; omega
    exact ⟨w.heap.size, 0, rfl, st, hc, GuAt.two1 w g ss gc h st hc, ht.alloc _, h3, h4⟩
theorem GhAt.new2 (w : World) (g : Gs) (ss : Option Addr) (gc : Nat) (h : Gs) (st : Option Addr) (hc : Nat) : GhAt (twoW w g ss gc h st hc) (some ⟨w.heap.size, 0, none⟩) [g, h] := by
  intro i hi
  by_cases e : i = 0
  · subst e; exact ⟨w.heap.size, 0, rfl, ss, gc, GuAt.two0 w g ss gc h st hc⟩
  · obtain rfl : i = 1 := by simp at hi; omega
    exact ⟨w.heap.size, 0, rfl, st, hc, GuAt.two1 w g ss gc h st hc⟩
end Go.Proofs.YtmapdpcfanecdaaGreat
