/- Guesses and values that are handed in, as they are read out of memory. -/
import Derived.Test.YtmapdpcfanecdaaGreatKguyp01
import Derived.Test.YtmapdpcfanecdaaGreatKguyp02
import Derived.Test.YtmapdpcfanecdaaGreatKguyp03
import Derived.WalkSmall
import Derived.Lib.SmallJoins
import Derived.Deep.Slices
import Derived.ProofKit
namespace Go.Proofs.YtmapdpcfanecdaaGreat
set_option linter.unusedVariables false
set_option linter.unusedSimpArgs false
open Go.RowKit

theorem hideH {p : Prop} (h : p) : Hid p := h

theorem IntsAt.get {w : World} {ss : Option Addr} {l : List Int} (h : IntsAt w ss l) (k : Nat) (hk : k < l.length) :
    ∃ b off, ss = some ⟨b, off, none⟩ ∧ b < w.heap.size ∧ ∀ k (h : k < l.length), w.cell? ⟨b, off + k, none⟩ = some (.int .i64 l[k]) := by
  rcases h with rfl | h
  · exact absurd hk (by simp)
  · exact h
theorem IntsAt.call {w w' : World} {ss : Option Addr} {l : List Int} (h : IntsAt w ss l) (hb : Below w.heap.size w w') : IntsAt w' ss l := h.below hb (Nat.le_refl _)
theorem IntsAt.alloc {w : World} {ss : Option Addr} {l : List Int} (h : IntsAt w ss l) (o : Obj) : IntsAt (w.alloc o) ss l := h.call (Below.alloc (Below.refl _ _) (Nat.le_refl _) o)
theorem IntsAt.drew {w : World} {ss : Option Addr} {l : List Int} (h : IntsAt w ss l) : IntsAt w.drew ss l := h
theorem IntsAt.drewN {w : World} {ss : Option Addr} {l : List Int} (h : IntsAt w ss l) (n : Nat) : IntsAt (w.drewN n) ss l := h.call (below_drewN (Below.refl _ _) n)
theorem CodeAt.get {w : World} {s : Option Addr} {c : List Ins} (h : CodeAt w s c) (k : Nat) (hk : k < c.length) :
    ∃ b off, s = some ⟨b, off, none⟩ ∧ b < w.heap.size ∧ ∀ k (h : k < c.length), InsAt w b (off + k * 6) c[k] := by
  rcases h with rfl | h
  · exact absurd hk (by simp)
  · exact h
theorem CodeAt.call {w w' : World} {s : Option Addr} {c : List Ins} (h : CodeAt w s c) (hb : Below w.heap.size w w') : CodeAt w' s c := h.below hb (Nat.le_refl _)
theorem CodeAt.alloc {w : World} {s : Option Addr} {c : List Ins} (h : CodeAt w s c) (o : Obj) : CodeAt (w.alloc o) s c := h.call (Below.alloc (Below.refl _ _) (Nat.le_refl _) o)

/-- A guess as the program holds it: its sites lie behind a slice. -/
abbrev gv (g : Gs) (ss : Option Addr) (cap : Nat) : Value := .agg #[.bool g.n, .bool g.sp.n, .int .i64 g.sp.lo, .int .i64 g.sp.hi, .bool g.t, .bool g.f, .slice ss g.s.length cap]
/-- A program as it is held. -/
abbrev pv (V F : Int) (s : Option Addr) (c : List Ins) (cap : Nat) : Value := .agg #[.int .i64 V, .int .i64 F, .slice s c.length cap]

/-- A guess lies in seven cells. -/
def GuAt (w : World) (b o : Nat) (g : Gs) (ss : Option Addr) (cap : Nat) : Prop :=
  (w.cell? ⟨b, o, none⟩ = some (.bool g.n) ∧ w.cell? ⟨b, o + 1, none⟩ = some (.bool g.sp.n) ∧ w.cell? ⟨b, o + 2, none⟩ = some (.int .i64 g.sp.lo) ∧ w.cell? ⟨b, o + 3, none⟩ = some (.int .i64 g.sp.hi) ∧ w.cell? ⟨b, o + 4, none⟩ = some (.bool g.t) ∧ w.cell? ⟨b, o + 5, none⟩ = some (.bool g.f) ∧ w.cell? ⟨b, o + 6, none⟩ = some (.slice ss g.s.length cap)) ∧ b < w.heap.size
theorem GuAt.below {B : Nat} {w w' : World} {b o : Nat} {g : Gs} {ss : Option Addr} {cap : Nat} (h : GuAt w b o g ss cap) (hb : Below B w w') (hB : w.heap.size ≤ B) : GuAt w' b o g ss cap := by
  obtain ⟨⟨h0, h1, h2, h3, h4, h5, h6⟩, hz⟩ := h
  refine ⟨⟨?_, ?_, ?_, ?_, ?_, ?_, ?_⟩, Nat.lt_of_lt_of_le hz hb.size⟩ <;> rw [hb.cell (by simp; omega)] <;> assumption
theorem GuAt.call {w w' : World} {b o : Nat} {g : Gs} {ss : Option Addr} {cap : Nat} (h : GuAt w b o g ss cap) (hb : Below w.heap.size w w') : GuAt w' b o g ss cap := h.below hb (Nat.le_refl _)
theorem GuAt.alloc {w : World} {b o : Nat} {g : Gs} {ss : Option Addr} {cap : Nat} (h : GuAt w b o g ss cap) (x : Obj) : GuAt (w.alloc x) b o g ss cap := h.call (Below.alloc (Below.refl _ _) (Nat.le_refl _) x)
theorem GuAt.drew {w : World} {b o : Nat} {g : Gs} {ss : Option Addr} {cap : Nat} (h : GuAt w b o g ss cap) : GuAt w.drew b o g ss cap := h
theorem GuAt.new (w : World) (g : Gs) (ss : Option Addr) (cap : Nat) : GuAt (w.alloc (.cells #[.bool g.n, .bool g.sp.n, .int .i64 g.sp.lo, .int .i64 g.sp.hi, .bool g.t, .bool g.f, .slice ss g.s.length cap] 29)) w.heap.size 0 g ss cap := ⟨by simp [go_sem], by simp⟩

/-- A program lies in a block. -/
def PrAt (w : World) (b : Nat) (V F : Int) (s : Option Addr) (c : List Ins) (cap : Nat) : Prop :=
  (w.cell? ⟨b, 0, none⟩ = some (.int .i64 V) ∧ w.cell? ⟨b, 1, none⟩ = some (.int .i64 F) ∧ w.cell? ⟨b, 2, none⟩ = some (.slice s c.length cap)) ∧ b < w.heap.size
theorem PrAt.below {B : Nat} {w w' : World} {b : Nat} {V F : Int} {s : Option Addr} {c : List Ins} {cap : Nat} (h : PrAt w b V F s c cap) (hb : Below B w w') (hB : w.heap.size ≤ B) : PrAt w' b V F s c cap := by
  obtain ⟨⟨h0, h1, h2⟩, hz⟩ := h
  refine ⟨⟨?_, ?_, ?_⟩, Nat.lt_of_lt_of_le hz hb.size⟩ <;> rw [hb.cell (by simp; omega)] <;> assumption
theorem PrAt.call {w w' : World} {b : Nat} {V F : Int} {s : Option Addr} {c : List Ins} {cap : Nat} (h : PrAt w b V F s c cap) (hb : Below w.heap.size w w') : PrAt w' b V F s c cap := h.below hb (Nat.le_refl _)
theorem PrAt.alloc {w : World} {b : Nat} {V F : Int} {s : Option Addr} {c : List Ins} {cap : Nat} (h : PrAt w b V F s c cap) (x : Obj) : PrAt (w.alloc x) b V F s c cap := h.call (Below.alloc (Below.refl _ _) (Nat.le_refl _) x)
theorem PrAt.drew {w : World} {b : Nat} {V F : Int} {s : Option Addr} {c : List Ins} {cap : Nat} (h : PrAt w b V F s c cap) : PrAt w.drew b V F s c cap := h
theorem GuAt.drewN {w : World} {b o : Nat} {g : Gs} {ss : Option Addr} {cap : Nat} (h : GuAt w b o g ss cap) (n : Nat) : GuAt (w.drewN n) b o g ss cap := h.call (below_drewN (Below.refl _ _) n)
theorem PrAt.drewN {w : World} {b : Nat} {V F : Int} {s : Option Addr} {c : List Ins} {cap : Nat} (h : PrAt w b V F s c cap) (n : Nat) : PrAt (w.drewN n) b V F s c cap := h.call (below_drewN (Below.refl _ _) n)
theorem PrAt.new (w : World) (V F : Int) (s : Option Addr) (c : List Ins) (cap : Nat) : PrAt (w.alloc (.cells #[.int .i64 V, .int .i64 F, .slice s c.length cap] 24)) w.heap.size V F s c cap := ⟨by simp [go_sem], by simp⟩

/-- A list of guesses lies behind a slice's address, each with its sites. -/
def GsAt (w : World) (ls : Option Addr) (L : List Gs) : Prop :=
  ∀ i (h : i < L.length), ∃ b off, ls = some ⟨b, off, none⟩ ∧ ∃ ss cap, GuAt w b (off + i * 7) L[i] ss cap ∧ IntsAt w ss L[i].s ∧ L[i].s.length ≤ cap ∧ cap ≤ maxLen
theorem GsAt.below {B : Nat} {w w' : World} {ls : Option Addr} {L : List Gs} (h : GsAt w ls L) (hb : Below B w w') (hB : w.heap.size ≤ B) : GsAt w' ls L := by
  intro i hi
  obtain ⟨b, off, e, ss, cap, h1, h2, h3, h4⟩ := h i hi
  exact ⟨b, off, e, ss, cap, h1.below hb hB, h2.below hb hB, h3, h4⟩
theorem GsAt.call {w w' : World} {ls : Option Addr} {L : List Gs} (h : GsAt w ls L) (hb : Below w.heap.size w w') : GsAt w' ls L := h.below hb (Nat.le_refl _)
theorem GsAt.alloc {w : World} {ls : Option Addr} {L : List Gs} (h : GsAt w ls L) (o : Obj) : GsAt (w.alloc o) ls L := h.call (Below.alloc (Below.refl _ _) (Nat.le_refl _) o)

/-- .. without their sites. -/
def GhAt (w : World) (ls : Option Addr) (L : List Gs) : Prop :=
  ∀ i (h : i < L.length), ∃ b off, ls = some ⟨b, off, none⟩ ∧ ∃ ss cap, GuAt w b (off + i * 7) L[i] ss cap
theorem GsAt.heads {w : World} {ls : Option Addr} {L : List Gs} (h : GsAt w ls L) : GhAt w ls L := by
  intro i hi
  obtain ⟨b, off, e, ss, cap, h1, -⟩ := h i hi
  exact ⟨b, off, e, ss, cap, h1⟩
theorem GhAt.below {B : Nat} {w w' : World} {ls : Option Addr} {L : List Gs} (h : GhAt w ls L) (hb : Below B w w') (hB : w.heap.size ≤ B) : GhAt w' ls L := by
  intro i hi
  obtain ⟨b, off, e, ss, cap, h1⟩ := h i hi
  exact ⟨b, off, e, ss, cap, h1.below hb hB⟩
theorem GhAt.call {w w' : World} {ls : Option Addr} {L : List Gs} (h : GhAt w ls L) (hb : Below w.heap.size w w') : GhAt w' ls L := h.below hb (Nat.le_refl _)

/-- One guess in a block of its own. -/
theorem GsAt.new1 (w : World) (g : Gs) (ss : Option Addr) (gc : Nat) (hs : IntsAt w ss g.s) (h1 : g.s.length ≤ gc) (h2 : gc ≤ maxLen) :
    GsAt (w.alloc (.cells #[.bool g.n, .bool g.sp.n, .int .i64 g.sp.lo, .int .i64 g.sp.hi, .bool g.t, .bool g.f, .slice ss g.s.length gc] 29)) (some ⟨w.heap.size, 0, none⟩) [g] := by
  intro i hi
  obtain rfl : i = 0 := by simp at hi; omega
  exact ⟨w.heap.size, 0, rfl, ss, gc, GuAt.new w g ss gc, hs.alloc _, h1, h2⟩

theorem GhAt.new1 (w : World) (g : Gs) (ss : Option Addr) (gc : Nat) :
    GhAt (w.alloc (.cells #[.bool g.n, .bool g.sp.n, .int .i64 g.sp.lo, .int .i64 g.sp.hi, .bool g.t, .bool g.f, .slice ss g.s.length gc] 29)) (some ⟨w.heap.size, 0, none⟩) [g] := by
  intro i hi
  obtain rfl : i = 0 := by simp at hi; omega
  exact ⟨w.heap.size, 0, rfl, ss, gc, GuAt.new w g ss gc⟩

/-- Two guesses in a block of their own. -/
abbrev twoW (w : World) (g : Gs) (ss : Option Addr) (gc : Nat) (h : Gs) (st : Option Addr) (hc : Nat) : World :=
  w.alloc (.cells #[.bool g.n, .bool g.sp.n, .int .i64 g.sp.lo, .int .i64 g.sp.hi, .bool g.t, .bool g.f, .slice ss g.s.length gc, .bool h.n, .bool h.sp.n, .int .i64 h.sp.lo, .int .i64 h.sp.hi, .bool h.t, .bool h.f, .slice st h.s.length hc] 29)
theorem GuAt.two0 (w : World) (g : Gs) (ss : Option Addr) (gc : Nat) (h : Gs) (st : Option Addr) (hc : Nat) : GuAt (twoW w g ss gc h st hc) w.heap.size 0 g ss gc := ⟨by simp [go_sem], by simp⟩
theorem GuAt.two1 (w : World) (g : Gs) (ss : Option Addr) (gc : Nat) (h : Gs) (st : Option Addr) (hc : Nat) : GuAt (twoW w g ss gc h st hc) w.heap.size 7 h st hc := ⟨by simp [go_sem], by simp⟩
theorem GsAt.new2 (w : World) (g : Gs) (ss : Option Addr) (gc : Nat) (h : Gs) (st : Option Addr) (hc : Nat) (hs : IntsAt w ss g.s) (h1 : g.s.length ≤ gc) (h2 : gc ≤ maxLen) (ht : IntsAt w st h.s) (h3 : h.s.length ≤ hc) (h4 : hc ≤ maxLen) :
    GsAt (twoW w g ss gc h st hc) (some ⟨w.heap.size, 0, none⟩) [g, h] := by
  intro i hi
  by_cases e : i = 0
  · subst e; exact ⟨w.heap.size, 0, rfl, ss, gc, GuAt.two0 w g ss gc h st hc, hs.alloc _, h1, h2⟩
  · obtain rfl : i = 1 := by simp at hi; omega
    exact ⟨w.heap.size, 0, rfl, st, hc, GuAt.two1 w g ss gc h st hc, ht.alloc _, h3, h4⟩
theorem GhAt.new2 (w : World) (g : Gs) (ss : Option Addr) (gc : Nat) (h : Gs) (st : Option Addr) (hc : Nat) : GhAt (twoW w g ss gc h st hc) (some ⟨w.heap.size, 0, none⟩) [g, h] := by
  intro i hi
  by_cases e : i = 0
  · subst e; exact ⟨w.heap.size, 0, rfl, ss, gc, GuAt.two0 w g ss gc h st hc⟩
  · obtain rfl : i = 1 := by simp at hi; omega
    exact ⟨w.heap.size, 0, rfl, st, hc, GuAt.two1 w g ss gc h st hc⟩
end Go.Proofs.YtmapdpcfanecdaaGreat

namespace Go.Proofs.YtmapdpcfanecdaaGreat
set_option linter.unusedVariables false
set_option linter.unusedSimpArgs false
open Go.RowKit Go.ChangeShapes Go.WideShapes Go.Joins Go.Deep

/-- It fits into 64 bits. -/
def fit (n : Int) : Prop := -9223372036854775808 ≤ n ∧ n ≤ 9223372036854775807
theorem fit_wf {n : Int} (h : (Lit.int .i64 n).wf = true) : fit n := by
  have := bounds_i64 h
  exact ⟨this.1, this.2⟩
theorem cells_span : Tryz.prog.cellsOf 26 = 3 := by kernel_rfl

section
variable {H : Type} {enc : TypeId × Value → H} {w : World} {base : Nat} {spare : Nat → Bool} {held : Bool}

set_option maxRecDepth 100000 in
/-- A span that is handed in. -/
theorem open_span {r : Reach} {b0 : Nat} {v : Value} {d : DataW H} {p : List MemPlace} (hv : Value.okWide Tryz.prog w r b0 26 v) (h : DataW.Trod enc Tryz.prog w base spare held 26 v d p) :
    ∃ s : Sp, v = sv s ∧ fit s.lo ∧ fit s.hi := by
  obtain ⟨c0, c1, c2, y0, y1, y2, n, rfl, _, _, h0, h1, h2⟩ := open_agg3 Tryz.underlying26 (by kernel_rfl) cells_span hv h
  obtain ⟨b, e0, _⟩ := DataW.trod_bool Tryz.underlying4 h0
  obtain ⟨lo, e1, _, w1⟩ := DataW.trod_int Tryz.underlying3 h1
  obtain ⟨hi, e2, _, w2⟩ := DataW.trod_int Tryz.underlying3 h2
  simp at e0 e1 e2
  subst e0 e1 e2
  exact ⟨⟨b, lo, hi⟩, rfl, fit_wf w1, fit_wf w2⟩
end
end Go.Proofs.YtmapdpcfanecdaaGreat

namespace Go.Proofs.YtmapdpcfanecdaaGreat
set_option linter.unusedVariables false
set_option linter.unusedSimpArgs false
open Go.RowKit Go.ChangeShapes Go.WideShapes Go.Joins Go.Deep

theorem cells_int1 : Tryz.prog.cellsOf 3 = 1 := by kernel_rfl
theorem cells_bool1 : Tryz.prog.cellsOf 4 = 1 := by kernel_rfl
theorem list_three {α : Type} (l : List α) (h : l.length = 3) : ∃ a b c, l = [a, b, c] := by
  match l, h with
  | [a, b, c], _ => exact ⟨a, b, c, rfl⟩

theorem cells_guess : Tryz.prog.cellsOf 29 = 7 := by kernel_rfl
theorem cells_value : Tryz.prog.cellsOf 31 = 2 := by kernel_rfl
theorem cells_ints : Tryz.prog.cellsOf 27 = 1 := by kernel_rfl
theorem list_seven {α : Type} (l : List α) (h : l.length = 7) : ∃ a b c d e f g, l = [a, b, c, d, e, f, g] := by
  match l, h with
  | [a, b, c, d, e, f, g], _ => exact ⟨a, b, c, d, e, f, g, rfl⟩
theorem list_five {α : Type} (l : List α) (h : l.length = 5) : ∃ a b c d e, l = [a, b, c, d, e] := by
  match l, h with
  | [a, b, c, d, e], _ => exact ⟨a, b, c, d, e, rfl⟩

section
variable {H : Type} {enc : TypeId × Value → H} {w : World} {base : Nat} {spare : Nat → Bool} {held : Bool}

set_option maxRecDepth 100000 in
theorem read_span {fuel : Nat} {cs : List Value} {x : DataW H × List MemPlace} (h : DataW.trod enc Tryz.prog w base spare held fuel 26 cs = some x) :
    ∃ i : Sp, cs = [.bool i.n, .int .i64 i.lo, .int .i64 i.hi] := by
  obtain ⟨xs, n, _, _, hl, hx, hf⟩ := DataW.trod_struct Tryz.underlying26 h
  rw [cells_span] at hl
  obtain ⟨c0, c1, c2, rfl⟩ := list_three cs hl
  obtain ⟨y0, y1, y2, rfl⟩ := list_three xs hx
  have g0 := hf 0 _ rfl
  have g1 := hf 1 _ rfl
  have g2 := hf 2 _ rfl
  simp [cells_int1, cells_bool1] at g0 g1 g2
  obtain ⟨a0, e0, _⟩ := DataW.trod_bool Tryz.underlying4 g0
  obtain ⟨a1, e1, _, _⟩ := DataW.trod_int Tryz.underlying3 g1
  obtain ⟨a2, e2, _, _⟩ := DataW.trod_int Tryz.underlying3 g2
  simp at e0 e1 e2
  subst e0 e1 e2
  exact ⟨⟨a0, a1, a2⟩, rfl⟩

set_option maxRecDepth 100000 in
/-- A slice of numbers. -/
theorem read_ints {fuel : Nat} {v : Value} {x : DataW H × List MemPlace} (h : DataW.trod enc Tryz.prog w base spare held fuel 27 [v] = some x) :
    ∃ (s : Option Addr) (cap : Nat) (c : List Int), v = .slice s c.length cap ∧ c.length ≤ cap ∧ cap ≤ maxLen ∧ IntsAt w s c := by
  rcases open_slice Tryz.underlying27 h with ⟨hv, _⟩ | ⟨a, len, cap, m, n, D, Pl, hv, hb, hl, hm, hmm, hx, hi⟩
  · simp at hv
    subst hv
    exact ⟨none, 0, [], rfl, Nat.le_refl _, by unfold maxLen; omega, .inl rfl⟩
  · simp at hv
    subst hv
    have hlm : len ≤ m := by rw [hmm]; split <;> omega
    have each : ∀ i, i < len → ∃ q : Int, w.cell? (a.add i) = some (.int .i64 q) := by
      intro i hil
      obtain ⟨cs', h1, h2⟩ := hi i (by omega)
      rw [cells_int1] at h1
      obtain ⟨_, _, hcell⟩ := World.cells?_some h1
      obtain ⟨q, e, _, _⟩ := DataW.trod_int Tryz.underlying3 h2
      subst e
      refine ⟨q, ?_⟩
      have := hcell 0 (by omega)
      rw [Deep.add_add] at this
      simpa using this
    have hch : ∃ f : Nat → Int, ∀ i, i < len → w.cell? (a.add i) = some (.int .i64 (f i)) := by
      refine ⟨fun i => if hi : i < len then Classical.choose (each i hi) else 0, fun i hi => ?_⟩
      simp only [dif_pos hi]
      exact Classical.choose_spec (each i hi)
    obtain ⟨f, hf⟩ := hch
    refine ⟨some a, cap, (List.range len).map f, by simp, by simpa using hl, hm, ?_⟩
    by_cases h0 : len = 0
    · left; subst h0; rfl
    · right
      have ha := hf 0 (by omega)
      simp [Addr.add] at ha
      obtain ⟨b, off, sp⟩ := a
      have hsp : sp = none := by
        cases sp with
        | none => rfl
        | some z => simp [World.cell?] at ha; split at ha <;> simp_all
      subst hsp
      refine ⟨b, off, rfl, World.block_lt_of_cell? w _ ha, fun k hk => ?_⟩
      have hkl : k < len := by simpa using hk
      have := hf k hkl
      have e : ((List.range len).map f)[k] = f k := by simp
      rw [e]
      have pl : ∀ n, (⟨b, off, none⟩ : Addr).add n = ⟨b, off + n, none⟩ := fun n => by unfold Addr.add; split <;> simp_all
      simpa [pl] using this

set_option maxRecDepth 100000 in
theorem read_guess {fuel : Nat} {cs : List Value} {x : DataW H × List MemPlace} (h : DataW.trod enc Tryz.prog w base spare held fuel 29 cs = some x) :
    ∃ (g : Gs) (ss : Option Addr) (gc : Nat), cs = [.bool g.n, .bool g.sp.n, .int .i64 g.sp.lo, .int .i64 g.sp.hi, .bool g.t, .bool g.f, .slice ss g.s.length gc] ∧ g.s.length ≤ gc ∧ gc ≤ maxLen ∧ IntsAt w ss g.s := by
  obtain ⟨xs, n, _, _, hl, hx, hf⟩ := DataW.trod_struct Tryz.underlying29 h
  rw [cells_guess] at hl
  obtain ⟨c0, c1, c2, c3, c4, c5, c6, rfl⟩ := list_seven cs hl
  obtain ⟨y0, y1, y2, y3, y4, rfl⟩ := list_five xs hx
  have g0 := hf 0 _ rfl
  have g1 := hf 1 _ rfl
  have g2 := hf 2 _ rfl
  have g3 := hf 3 _ rfl
  have g4 := hf 4 _ rfl
  simp [cells_int1, cells_bool1, cells_span, cells_ints] at g0 g1 g2 g3 g4
  obtain ⟨a0, e0, _⟩ := DataW.trod_bool Tryz.underlying4 g0
  obtain ⟨sp, e1⟩ := read_span g1
  obtain ⟨a2, e2, _⟩ := DataW.trod_bool Tryz.underlying4 g2
  obtain ⟨a3, e3, _⟩ := DataW.trod_bool Tryz.underlying4 g3
  obtain ⟨ss, gc, l, e4, q1, q2, q3⟩ := read_ints g4
  simp at e0 e1 e2 e3
  obtain ⟨r1, r2, r3⟩ := e1
  subst e0 r1 r2 r3 e2 e3 e4
  exact ⟨⟨a0, sp, a2, a3, l⟩, ss, gc, rfl, q1, q2, q3⟩

set_option maxRecDepth 100000 in
/-- A guess that is handed in. -/
theorem open_guess {r : Reach} {b0 : Nat} {v : Value} {d : DataW H} {p : List MemPlace} (hv : Value.okWide Tryz.prog w r b0 29 v) (h : DataW.Trod enc Tryz.prog w base spare held 29 v d p) :
    ∃ (g : Gs) (ss : Option Addr) (gc : Nat), v = gv g ss gc ∧ g.s.length ≤ gc ∧ gc ≤ maxLen ∧ IntsAt w ss g.s := by
  obtain ⟨cs, rfl, hsz⟩ := okWide_struct Tryz.underlying29 hv
  obtain ⟨fuel, hf⟩ := h
  obtain ⟨g, ss, gc, e, q⟩ := read_guess (by simpa [Value.cells] using hf)
  refine ⟨g, ss, gc, ?_, q⟩
  have : cs = #[.bool g.n, .bool g.sp.n, .int .i64 g.sp.lo, .int .i64 g.sp.hi, .bool g.t, .bool g.f, .slice ss g.s.length gc] := by
    cases cs; simp_all
  rw [this]

set_option maxRecDepth 100000 in
/-- A value that is handed in. -/
theorem open_val {r : Reach} {b0 : Nat} {v : Value} {d : DataW H} {p : List MemPlace} (hv : Value.okWide Tryz.prog w r b0 31 v) (h : DataW.Trod enc Tryz.prog w base spare held 31 v d p) :
    ∃ k n : Int, v = .agg #[.int .i64 k, .int .i64 n] := by
  obtain ⟨c0, c1, y0, y1, n, rfl, _, _, h0, h1⟩ := open_agg2 Tryz.underlying31 (by kernel_rfl) cells_value hv h
  obtain ⟨a, e0, _, _⟩ := DataW.trod_int Tryz.underlying3 h0
  obtain ⟨b, e1, _, _⟩ := DataW.trod_int Tryz.underlying3 h1
  simp at e0 e1
  subst e0 e1
  exact ⟨a, b, rfl⟩
end
end Go.Proofs.YtmapdpcfanecdaaGreat
