/- How pictures lie in memory. -/
import Derived.Test.YtmapdpcfanecdaaGreatKpicxp01
import Derived.Test.YtmapdpcfanecdaaGreatKpicxp02
import Derived.WalkSmall
namespace Go.Proofs.YtmapdpcfanecdaaGreat
set_option linter.unusedVariables false
set_option linter.unusedSimpArgs false
open Go.RowKit

theorem hideH {p : Prop} (h : p) : Hid p := h

theorem IntsAt.get {w : World} {ss : Option Addr} {l : List Int} (h : IntsAt w ss l) (k : Nat) (hk : k < l.length) :
    ∃ b off, ss = some ⟨b, off, none⟩ ∧ b < w.heap.size ∧ ∀ k (h : k < l.length), w.cell? ⟨b, off + k, none⟩ = some (.int .i64 l[k]) := by
  rcases h with rfl | h
  · exact absurd hk (by simp)
  · exact h
theorem IntsAt.call {w w' : World} {ss : Option Addr} {l : List Int} (h : IntsAt w ss l) (hb : Below w.heap.size w w') : IntsAt w' ss l := h.below hb (Nat.le_refl _)
theorem IntsAt.alloc {w : World} {ss : Option Addr} {l : List Int} (h : IntsAt w ss l) (o : Obj) : IntsAt (w.alloc o) ss l := h.call (Below.alloc (Below.refl _ _) (Nat.le_refl _) o)
theorem IntsAt.drew {w : World} {ss : Option Addr} {l : List Int} (h : IntsAt w ss l) : IntsAt w.drew ss l := h
theorem IntsAt.drewN {w : World} {ss : Option Addr} {l : List Int} (h : IntsAt w ss l) (n : Nat) : IntsAt (w.drewN n) ss l := h.call (below_drewN (Below.refl _ _) n)
theorem CodeAt.get {w : World} {s : Option Addr} {c : List Ins} (h : CodeAt w s c) (k : Nat) (hk : k < c.length) :
    ∃ b off, s = some ⟨b, off, none⟩ ∧ b < w.heap.size ∧ ∀ k (h : k < c.length), InsAt w b (off + k * 6) c[k] := by
  rcases h with rfl | h
  · exact absurd hk (by simp)
  · exact h
theorem CodeAt.call {w w' : World} {s : Option Addr} {c : List Ins} (h : CodeAt w s c) (hb : Below w.heap.size w w') : CodeAt w' s c := h.below hb (Nat.le_refl _)
theorem CodeAt.alloc {w : World} {s : Option Addr} {c : List Ins} (h : CodeAt w s c) (o : Obj) : CodeAt (w.alloc o) s c := h.call (Below.alloc (Below.refl _ _) (Nat.le_refl _) o)

/-- A guess as the program holds it: its sites lie behind a slice. -/
abbrev gv (g : Gs) (ss : Option Addr) (cap : Nat) : Value := .agg #[.bool g.n, .bool g.sp.n, .int .i64 g.sp.lo, .int .i64 g.sp.hi, .bool g.t, .bool g.f, .slice ss g.s.length cap]
/-- A program as it is held. -/
abbrev pv (V F : Int) (s : Option Addr) (c : List Ins) (cap : Nat) : Value := .agg #[.int .i64 V, .int .i64 F, .slice s c.length cap]

/-- A guess lies in seven cells. -/
def GuAt (w : World) (b o : Nat) (g : Gs) (ss : Option Addr) (cap : Nat) : Prop :=
  (w.cell? ⟨b, o, none⟩ = some (.bool g.n) ∧ w.cell? ⟨b, o + 1, none⟩ = some (.bool g.sp.n) ∧ w.cell? ⟨b, o + 2, none⟩ = some (.int .i64 g.sp.lo) ∧ w.cell? ⟨b, o + 3, none⟩ = some (.int .i64 g.sp.hi) ∧ w.cell? ⟨b, o + 4, none⟩ = some (.bool g.t) ∧ w.cell? ⟨b, o + 5, none⟩ = some (.bool g.f) ∧ w.cell? ⟨b, o + 6, none⟩ = some (.slice ss g.s.length cap)) ∧ b < w.heap.size
theorem GuAt.below {B : Nat} {w w' : World} {b o : Nat} {g : Gs} {ss : Option Addr} {cap : Nat} (h : GuAt w b o g ss cap) (hb : Below B w w') (hB : w.heap.size ≤ B) : GuAt w' b o g ss cap := by
  obtain ⟨⟨h0, h1, h2, h3, h4, h5, h6⟩, hz⟩ := h
  refine ⟨⟨?_, ?_, ?_, ?_, ?_, ?_, ?_⟩, Nat.lt_of_lt_of_le hz hb.size⟩ <;> rw [hb.cell (by simp; omega)] <;> assumption
theorem GuAt.call {w w' : World} {b o : Nat} {g : Gs} {ss : Option Addr} {cap : Nat} (h : GuAt w b o g ss cap) (hb : Below w.heap.size w w') : GuAt w' b o g ss cap := h.below hb (Nat.le_refl _)
theorem GuAt.alloc {w : World} {b o : Nat} {g : Gs} {ss : Option Addr} {cap : Nat} (h : GuAt w b o g ss cap) (x : Obj) : GuAt (w.alloc x) b o g ss cap := h.call (Below.alloc (Below.refl _ _) (Nat.le_refl _) x)
theorem GuAt.drew {w : World} {b o : Nat} {g : Gs} {ss : Option Addr} {cap : Nat} (h : GuAt w b o g ss cap) : GuAt w.drew b o g ss cap := h
theorem GuAt.new (w : World) (g : Gs) (ss : Option Addr) (cap : Nat) : GuAt (w.alloc (.cells #[.bool g.n, .bool g.sp.n, .int .i64 g.sp.lo, .int .i64 g.sp.hi, .bool g.t, .bool g.f, .slice ss g.s.length cap] 29)) w.heap.size 0 g ss cap := ⟨by simp [go_sem], by simp⟩

/-- A program lies in a block. -/
def PrAt (w : World) (b : Nat) (V F : Int) (s : Option Addr) (c : List Ins) (cap : Nat) : Prop :=
  (w.cell? ⟨b, 0, none⟩ = some (.int .i64 V) ∧ w.cell? ⟨b, 1, none⟩ = some (.int .i64 F) ∧ w.cell? ⟨b, 2, none⟩ = some (.slice s c.length cap)) ∧ b < w.heap.size
theorem PrAt.below {B : Nat} {w w' : World} {b : Nat} {V F : Int} {s : Option Addr} {c : List Ins} {cap : Nat} (h : PrAt w b V F s c cap) (hb : Below B w w') (hB : w.heap.size ≤ B) : PrAt w' b V F s c cap := by
  obtain ⟨⟨h0, h1, h2⟩, hz⟩ := h
  refine ⟨⟨?_, ?_, ?_⟩, Nat.lt_of_lt_of_le hz hb.size⟩ <;> rw [hb.cell (by simp; omega)] <;> assumption
theorem PrAt.call {w w' : World} {b : Nat} {V F : Int} {s : Option Addr} {c : List Ins} {cap : Nat} (h : PrAt w b V F s c cap) (hb : Below w.heap.size w w') : PrAt w' b V F s c cap := h.below hb (Nat.le_refl _)
theorem PrAt.alloc {w : World} {b : Nat} {V F : Int} {s : Option Addr} {c : List Ins} {cap : Nat} (h : PrAt w b V F s c cap) (x : Obj) : PrAt (w.alloc x) b V F s c cap := h.call (Below.alloc (Below.refl _ _) (Nat.le_refl _) x)
theorem PrAt.new (w : World) (V F : Int) (s : Option Addr) (c : List Ins) (cap : Nat) : PrAt (w.alloc (.cells #[.int .i64 V, .int .i64 F, .slice s c.length cap] 24)) w.heap.size V F s c cap := ⟨by simp [go_sem], by simp⟩

/-- A list of guesses lies behind a slice's address, each with its sites. -/
def GsAt (w : World) (ls : Option Addr) (L : List Gs) : Prop :=
  ∀ i (h : i < L.length), ∃ b off, ls = some ⟨b, off, none⟩ ∧ ∃ ss cap, GuAt w b (off + i * 7) L[i] ss cap ∧ IntsAt w ss L[i].s ∧ L[i].s.length ≤ cap ∧ cap ≤ maxLen
theorem GsAt.below {B : Nat} {w w' : World} {ls : Option Addr} {L : List Gs} (h : GsAt w ls L) (hb : Below B w w') (hB : w.heap.size ≤ B) : GsAt w' ls L := by
  intro i hi
  obtain ⟨b, off, e, ss, cap, h1, h2, h3, h4⟩ := h i hi
  exact ⟨b, off, e, ss, cap, h1.below hb hB, h2.below hb hB, h3, h4⟩
theorem GsAt.call {w w' : World} {ls : Option Addr} {L : List Gs} (h : GsAt w ls L) (hb : Below w.heap.size w w') : GsAt w' ls L := h.below hb (Nat.le_refl _)
theorem GsAt.alloc {w : World} {ls : Option Addr} {L : List Gs} (h : GsAt w ls L) (o : Obj) : GsAt (w.alloc o) ls L := h.call (Below.alloc (Below.refl _ _) (Nat.le_refl _) o)

/-- One guess in a block of its own. -/
theorem GsAt.new1 (w : World) (g : Gs) (ss : Option Addr) (gc : Nat) (hs : IntsAt w ss g.s) (h1 : g.s.length ≤ gc) (h2 : gc ≤ maxLen) :
    GsAt (w.alloc (.cells #[.bool g.n, .bool g.sp.n, .int .i64 g.sp.lo, .int .i64 g.sp.hi, .bool g.t, .bool g.f, .slice ss g.s.length gc] 29)) (some ⟨w.heap.size, 0, none⟩) [g] := by
  intro i hi
  obtain rfl : i = 0 := by simp at hi; omega
  exact ⟨w.heap.size, 0, rfl, ss, gc, GuAt.new w g ss gc, hs.alloc _, h1, h2⟩

/-- Two guesses in a block of their own. -/
abbrev twoW (w : World) (g : Gs) (ss : Option Addr) (gc : Nat) (h : Gs) (st : Option Addr) (hc : Nat) : World :=
  w.alloc (.cells #[.bool g.n, .bool g.sp.n, .int .i64 g.sp.lo, .int .i64 g.sp.hi, .bool g.t, .bool g.f, .slice ss g.s.length gc, .bool h.n, .bool h.sp.n, .int .i64 h.sp.lo, .int .i64 h.sp.hi, .bool h.t, .bool h.f, .slice st h.s.length hc] 29)
theorem GuAt.two0 (w : World) (g : Gs) (ss : Option Addr) (gc : Nat) (h : Gs) (st : Option Addr) (hc : Nat) : GuAt (twoW w g ss gc h st hc) w.heap.size 0 g ss gc := ⟨by simp [go_sem], by simp⟩
theorem GuAt.two1 (w : World) (g : Gs) (ss : Option Addr) (gc : Nat) (h : Gs) (st : Option Addr) (hc : Nat) : GuAt (twoW w g ss gc h st hc) w.heap.size 7 h st hc := ⟨by simp [go_sem], by simp⟩
theorem GsAt.new2 (w : World) (g : Gs) (ss : Option Addr) (gc : Nat) (h : Gs) (st : Option Addr) (hc : Nat) (hs : IntsAt w ss g.s) (h1 : g.s.length ≤ gc) (h2 : gc ≤ maxLen) (ht : IntsAt w st h.s) (h3 : h.s.length ≤ hc) (h4 : hc ≤ maxLen) :
    GsAt (twoW w g ss gc h st hc) (some ⟨w.heap.size, 0, none⟩) [g, h] := by
  intro i hi
  by_cases e : i = 0
  · subst e; exact ⟨w.heap.size, 0, rfl, ss, gc, GuAt.two0 w g ss gc h st hc, hs.alloc _, h1, h2⟩
  · obtain rfl : i = 1 := by simp at hi; omega
    exact ⟨w.heap.size, 0, rfl, st, hc, GuAt.two1 w g ss gc h st hc, ht.alloc _, h3, h4⟩
end Go.Proofs.YtmapdpcfanecdaaGreat

namespace Go.Proofs.YtmapdpcfanecdaaGreat
set_option linter.unusedVariables false
set_option linter.unusedSimpArgs false

/-- A picture. -/
structure Pic where
  none : Bool
  vars : List Gs
  flds : List (List Gs)

def nonePic : Pic := ⟨true, [], []⟩
def zeroPic : Pic := ⟨false, [], []⟩
/-- All guesses of a picture, in their order. -/
def allPic (x : Pic) : List Gs := x.vars ++ x.flds.flatten
def sameGs (g h : Gs) : Bool := g.n == h.n && (@decide _ (g.sp.dq h.sp) && (g.t == h.t && (g.f == h.f && decide (g.s = h.s))))
theorem sameGs_iff {g h : Gs} : sameGs g h = true ↔ g = h := by
  obtain ⟨a, b, c, d, e⟩ := g
  obtain ⟨a', b', c', d', e'⟩ := h
  simp only [sameGs, Bool.and_eq_true, beq_iff_eq, decide_eq_true_eq, Gs.mk.injEq]
/-- Is something in it? One that is not right counts, too. -/
def someGs (g : Gs) : Bool := !sameGs g noneG
/-- Has it as many guesses as it must have? -/
def formedPic (V F : Int) (c : List Ins) (x : Pic) : Bool :=
  if x.none then decide (x.vars.length = 0) && decide (x.flds.length = 0)
  else decide ((x.vars.length : Int) = V) && (decide (x.flds.length = c.length) && !(x.flds.any fun r => !decide ((r.length : Int) = F)))
/-- Is there something at an instruction that makes no things (from place i on)? -/
def strayAt (c : List Ins) (p : Gs → Bool) : Nat → List (List Gs) → Bool
  | _, [] => false
  | i, r :: l => (!isSite c i && r.any p) || strayAt c p (i + 1) l
/-- What is told of a picture, in a program that is right. -/
def ckPic (V F : Int) (c : List Ins) (x : Pic) : Int :=
  if formedPic V F c x = false then 1 else if ckGss c (allPic x) ≠ 0 then ckGss c (allPic x) else if strayAt c (fun g => !nothingGs g) 0 x.flds then 4 else 0
def ckPicL (V F : Int) (c : List Ins) : List Pic → Int
  | [] => 0
  | x :: l => if ckPic V F c x = 0 then ckPicL V F c l else ckPic V F c x
/-- .. and of the program first. -/
def ckPics (V F : Int) (c : List Ins) (l : List Pic) : Int := if ckProg V F c = 0 then ckPicL V F c l else ckProg V F c

def nullG : Gs := ⟨true, ⟨true, 0, 0⟩, false, false, []⟩
def firstPic (V F : Int) (c : List Ins) : Pic := ⟨false, List.replicate V.toNat nullG, List.replicate c.length (List.replicate F.toNat noneG)⟩
def joinRow (j : Gs → Gs → Gs) (a b : List Gs) : List Gs := List.zipWith j a b
def joinPic (j : Gs → Gs → Gs) (x y : Pic) : Pic := if x.none then y else if y.none then x else ⟨false, joinRow j x.vars y.vars, List.zipWith (joinRow j) x.flds y.flds⟩
def inRow (a b : List Gs) : Bool := (List.zipWith inGs a b).all id
def inPic (x y : Pic) : Bool := x.none || (!y.none && (inRow x.vars y.vars && (List.zipWith inRow x.flds y.flds).all id))

theorem ckGss_all {c : List Ins} : ∀ {l : List Gs}, ckGss c l = 0 → ∀ g ∈ l, ckGs c g = 0
  | [], _, g, hg => by simp at hg
  | a :: r, h, g, hg => by
    unfold ckGss at h
    split at h
    · rename_i h1
      rcases List.mem_cons.1 hg with rfl | hg
      · exact h1
      · exact ckGss_all h g hg
    · contradiction
/-- In a right guess it is the same whether it may be something or is not nothing. -/
theorem someGs_of {c : List Ins} {g : Gs} (h : ckGs c g = 0) : someGs g = !nothingGs g := by
  have hs : ckSp g.sp = 0 := by
    unfold ckGs at h
    split at h
    · exact h
    · rename_i h1; simpa using h1
  have hok := ckSp_ok.1 hs
  obtain ⟨n, ⟨sn, lo, hi⟩, t, f, s⟩ := g
  have h3 := hok.2.2.1
  simp only at h3
  unfold someGs nothingGs otherGs sameGs noneG
  cases sn with
  | false => simp
  | true =>
    obtain ⟨e1, e2⟩ := h3 rfl
    subst e1 e2
    cases n <;> cases t <;> cases f <;> cases s <;> simp
theorem strayAt_congr {c : List Ins} {p q : Gs → Bool} : ∀ {l : List (List Gs)} {i : Nat}, (∀ r ∈ l, ∀ g ∈ r, p g = q g) → strayAt c p i l = strayAt c q i l
  | [], _, _ => rfl
  | r :: l, i, h => by
    unfold strayAt
    rw [strayAt_congr (l := l) fun r' hr' => h r' (List.mem_cons_of_mem _ hr')]
    have : r.any p = r.any q := by
      have h1 := h r List.mem_cons_self
      clear h
      induction r with
      | nil => rfl
      | cons a r ih =>
        simp only [List.any_cons]
        rw [h1 a List.mem_cons_self, ih fun g hg => h1 g (List.mem_cons_of_mem _ hg)]
    rw [this]
/-- By the program's own test, too. -/
theorem ckPic_some (V F : Int) (c : List Ins) (x : Pic) : ckPic V F c x = if formedPic V F c x = false then 1 else if ckGss c (allPic x) ≠ 0 then ckGss c (allPic x) else if strayAt c someGs 0 x.flds then 4 else 0 := by
  unfold ckPic
  by_cases h1 : formedPic V F c x = false
  · rw [if_pos h1, if_pos h1]
  rw [if_neg h1, if_neg h1]
  by_cases h2 : ckGss c (allPic x) ≠ 0
  · rw [if_pos h2, if_pos h2]
  rw [if_neg h2, if_neg h2]
  have h3 : ckGss c (allPic x) = 0 := by simpa using h2
  rw [strayAt_congr (p := someGs) (q := fun g => !nothingGs g) fun r hr g hg => someGs_of (ckGss_all h3 g ?_)]
  unfold allPic
  rw [List.mem_append, List.mem_flatten]
  exact .inr ⟨r, hr, hg⟩
end Go.Proofs.YtmapdpcfanecdaaGreat

namespace Go.Proofs.YtmapdpcfanecdaaGreat
set_option linter.unusedVariables false
set_option linter.unusedSimpArgs false
open Go.RowKit

/-- Numbers behind a slice, in a block of which S is true. -/
def IntsIn (S : Nat → Prop) (w : World) (ss : Option Addr) (l : List Int) : Prop :=
  l = [] ∨ ∃ b off, ss = some ⟨b, off, none⟩ ∧ S b ∧ b < w.heap.size ∧ ∀ k (h : k < l.length), w.cell? ⟨b, off + k, none⟩ = some (.int .i64 l[k])
section
variable {S S' : Nat → Prop} {w w' : World} {ss : Option Addr} {l : List Int}
theorem IntsIn.at (h : IntsIn S w ss l) : IntsAt w ss l := by
  rcases h with h | ⟨b, off, e, -, hb, hc⟩
  · exact .inl h
  · exact .inr ⟨b, off, e, hb, hc⟩
theorem IntsAt.inAll (h : IntsAt w ss l) : IntsIn (fun b => b < w.heap.size) w ss l := by
  rcases h with h | ⟨b, off, e, hb, hc⟩
  · exact .inl h
  · exact .inr ⟨b, off, e, hb, hb, hc⟩
theorem IntsIn.same (h : IntsIn S w ss l) (hs : ∀ b, S b → b < w.heap.size → w'.heap[b]? = w.heap[b]?) (hz : w.heap.size ≤ w'.heap.size) : IntsIn S w' ss l := by
  rcases h with h | ⟨b, off, e, hS, hb, hc⟩
  · exact .inl h
  · exact .inr ⟨b, off, e, hS, Nat.lt_of_lt_of_le hb hz, fun k hk => by rw [World.cell?_of_block (a := ⟨b, off + k, none⟩) (hs b hS hb)]; exact hc k hk⟩
theorem IntsIn.mono (h : IntsIn S w ss l) (hs : ∀ b, S b → b < w.heap.size → S' b) : IntsIn S' w ss l := by
  rcases h with h | ⟨b, off, e, hS, hb, hc⟩
  · exact .inl h
  · exact .inr ⟨b, off, e, hs b hS hb, hb, hc⟩
theorem IntsIn.call (h : IntsIn S w ss l) (hb : Below w.heap.size w w') : IntsIn S w' ss l := h.same (fun b _ hlt => hb.block b hlt) hb.size
end

theorem ownsI_lt {w : World} {B : Nat} {e : TypeId} {z : Nat} {v : Value} {n : Nat} {xs : List Value} (h : w.ownsRow B e z v n xs) {k : Nat} (hk : v.ownBlock = some k) : k < w.heap.size ∧ B ≤ k := by
  rcases h.2 with ⟨rfl, _⟩ | ⟨g, cap, cur, rfl, hb, hg, _⟩
  · cases hk
  · cases hk
    exact ⟨(Array.getElem?_eq_some_iff.1 hg).1, hb⟩
theorem ownsI_same {w w' : World} {B : Nat} {e : TypeId} {z : Nat} {v : Value} {n : Nat} {xs : List Value} (h : w.ownsRow B e z v n xs) (hb : ∀ k, v.ownBlock = some k → w'.heap[k]? = w.heap[k]?) : w'.ownsRow B e z v n xs := by
  obtain ⟨hl, h2⟩ := h
  rcases h2 with h2 | ⟨g, cap, cur, rfl, h1, hg, hr⟩
  · exact ⟨hl, .inl h2⟩
  · exact ⟨hl, .inr ⟨g, cap, cur, rfl, h1, by rw [hb g rfl]; exact hg, hr⟩⟩
theorem ownsI_call {w w' : World} {B : Nat} {e : TypeId} {z : Nat} {v : Value} {n : Nat} {xs : List Value} (h : w.ownsRow B e z v n xs) (hb : Below w.heap.size w w') : w'.ownsRow B e z v n xs := ownsI_same h fun k hk => hb.block k (ownsI_lt h hk).1

/-- A guess and where its sites lie. -/
structure Gc where
  g : Gs
  ss : Option Addr
  cap : Nat
def gcCells (x : Gc) : List Value := [.bool x.g.n, .bool x.g.sp.n, .int .i64 x.g.sp.lo, .int .i64 x.g.sp.hi, .bool x.g.t, .bool x.g.f, .slice x.ss x.g.s.length x.cap]
def rowCells (l : List Gc) : List Value := l.flatMap gcCells
/-- Its sites lie where S is true. -/
def GcIn (S : Nat → Prop) (w : World) (x : Gc) : Prop := IntsIn S w x.ss x.g.s ∧ x.g.s.length ≤ x.cap ∧ x.cap ≤ maxLen
theorem gcCells_len (x : Gc) : (gcCells x).length = 7 := rfl
theorem rowCells_len (l : List Gc) : (rowCells l).length = l.length * 7 := by
  induction l with
  | nil => rfl
  | cons x r ih =>
    have : rowCells (x :: r) = gcCells x ++ rowCells r := rfl
    rw [this, List.length_append, ih, gcCells_len, List.length_cons]
    omega
theorem rowCells_append (a b : List Gc) : rowCells (a ++ b) = rowCells a ++ rowCells b := by simp [rowCells]
theorem gcCells_one (x : Gc) : ∀ u ∈ gcCells x, u.oneCell' = true := by
  intro u hu
  simp only [gcCells, List.mem_cons, List.not_mem_nil, or_false] at hu
  rcases hu with rfl | rfl | rfl | rfl | rfl | rfl | rfl <;> rfl
theorem rowCells_get : ∀ (l : List Gc) (i : Nat) (h : i < l.length) (j : Nat) (_ : j < 7), (rowCells l)[i * 7 + j]? = (gcCells l[i])[j]?
  | [], i, h, _, _ => absurd h (by simp)
  | x :: r, 0, _, j, hj => by
    have e : rowCells (x :: r) = gcCells x ++ rowCells r := rfl
    rw [e, Nat.zero_mul, Nat.zero_add, List.getElem?_append_left (by rw [gcCells_len]; exact hj)]
    rfl
  | x :: r, i + 1, h, j, hj => by
    have e : rowCells (x :: r) = gcCells x ++ rowCells r := rfl
    rw [e, List.getElem?_append_right (by rw [gcCells_len]; omega), gcCells_len]
    have : (i + 1) * 7 + j - 7 = i * 7 + j := by omega
    rw [this, rowCells_get r i (by simpa using h) j hj]
    rfl

/-- A row of guesses in memory of its own (from block B on), its sites away from the row's block. -/
def GRow (w : World) (B : Nat) (v : Value) (l : List Gc) : Prop := w.ownsRow B 29 7 v l.length (rowCells l) ∧ ∀ x ∈ l, GcIn (fun b => v.ownBlock ≠ some b) w x
section
variable {w w' : World} {B : Nat} {v v' : Value} {l : List Gc}
/-- A row as it is read. -/
theorem GRow.at (h : GRow w B v l) : ∃ rs rc, v = .slice rs l.length rc ∧ l.length ≤ rc ∧ rc ≤ maxLen ∧ GsAt w rs (l.map Gc.g) ∧ ∀ a, rs = some a → B ≤ a.block := by
  obtain ⟨h1, h2⟩ := h
  rcases h1.2 with ⟨rfl, h0⟩ | ⟨g, cap, cur, rfl, hb, hg, k1, k2, k3, k4⟩
  · have : l = [] := List.length_eq_zero_iff.1 h0
    subst this
    exact ⟨none, 0, rfl, Nat.le_refl _, by unfold maxLen; omega, fun i hi => absurd hi (by simp), fun a ha => by cases ha⟩
  · refine ⟨some ⟨g, 0, none⟩, cap, rfl, k1, k2, fun i hi => ?_, fun a ha => by cases ha; exact hb⟩
    have hil : i < l.length := by simpa using hi
    have e : (l.map Gc.g)[i] = l[i].g := by simp
    rw [e]
    have hx := h2 l[i] (List.getElem_mem hil)
    refine ⟨g, 0, rfl, l[i].ss, l[i].cap, ⟨?_, (Array.getElem?_eq_some_iff.1 hg).1⟩, hx.1.at, hx.2.1, hx.2.2⟩
    have hc : ∀ j, j < 7 → w.cell? ⟨g, i * 7 + j, none⟩ = (gcCells l[i])[j]? := fun j hj => by
      have := h1.cellAt (i * 7 + j) (by omega)
      rw [← rowCells_get l i hil j hj]
      exact this
    simp only [Nat.zero_add]
    exact ⟨hc 0 (by omega), hc 1 (by omega), hc 2 (by omega), hc 3 (by omega), hc 4 (by omega), hc 5 (by omega), hc 6 (by omega)⟩
end

/-- Rows of guesses behind a slice. -/
def RowsAt (w : World) (fs : Option Addr) (L : List (List Gs)) : Prop :=
  ∀ i (h : i < L.length), ∃ b off, fs = some ⟨b, off, none⟩ ∧ b < w.heap.size ∧ ∃ rs rc, w.cell? ⟨b, off + i, none⟩ = some (.slice rs L[i].length rc) ∧ L[i].length ≤ rc ∧ rc ≤ maxLen ∧ GsAt w rs L[i]
theorem RowsAt.below {B : Nat} {w w' : World} {fs : Option Addr} {L : List (List Gs)} (h : RowsAt w fs L) (hb : Below B w w') (hB : w.heap.size ≤ B) : RowsAt w' fs L := by
  intro i hi
  obtain ⟨b, off, e, hz, rs, rc, h1, h2, h3, h4⟩ := h i hi
  exact ⟨b, off, e, Nat.lt_of_lt_of_le hz hb.size, rs, rc, by rw [hb.cell (by simp; omega)]; exact h1, h2, h3, h4.below hb hB⟩
/-- What a picture's slices lead to. -/
def PicAt (w : World) (x : Pic) (vs fs : Option Addr) : Prop := GsAt w vs x.vars ∧ RowsAt w fs x.flds
theorem PicAt.below {B : Nat} {w w' : World} {x : Pic} {vs fs : Option Addr} (h : PicAt w x vs fs) (hb : Below B w w') (hB : w.heap.size ≤ B) : PicAt w' x vs fs := ⟨h.1.below hb hB, h.2.below hb hB⟩
theorem PicAt.call {w w' : World} {x : Pic} {vs fs : Option Addr} (h : PicAt w x vs fs) (hb : Below w.heap.size w w') : PicAt w' x vs fs := h.below hb (Nat.le_refl _)
/-- A picture, as a value. -/
abbrev xv (x : Pic) (vs : Option Addr) (vc : Nat) (fs : Option Addr) (fc : Nat) : Value := .agg #[.bool x.none, .slice vs x.vars.length vc, .slice fs x.flds.length fc]
/-- Its lengths are lengths. -/
def LenPic (x : Pic) : Prop := x.vars.length ≤ maxLen ∧ x.flds.length ≤ maxLen
/-- A variable of type Picture. -/
def XAt (w : World) (b : Nat) (x : Pic) (vs : Option Addr) (vc : Nat) (fs : Option Addr) (fc : Nat) : Prop :=
  (w.cell? ⟨b, 0, none⟩ = some (.bool x.none) ∧ w.cell? ⟨b, 1, none⟩ = some (.slice vs x.vars.length vc) ∧ w.cell? ⟨b, 2, none⟩ = some (.slice fs x.flds.length fc)) ∧ b < w.heap.size ∧ ∀ j, w.frozen? ⟨b, j, none⟩ = false
section
variable {w w' : World} {b : Nat} {x : Pic} {vs fs : Option Addr} {vc fc : Nat}
theorem XAt.same (h : XAt w b x vs vc fs fc) (hb : w'.heap[b]? = w.heap[b]?) (hz : w.heap.size ≤ w'.heap.size) : XAt w' b x vs vc fs fc := by
  have hc : ∀ j, w'.cell? ⟨b, j, none⟩ = w.cell? ⟨b, j, none⟩ := fun j => World.cell?_of_block (a := ⟨b, j, none⟩) hb
  have hf : ∀ j, w'.frozen? ⟨b, j, none⟩ = w.frozen? ⟨b, j, none⟩ := fun j => World.frozen?_of_block (a := ⟨b, j, none⟩) hb
  obtain ⟨⟨h0, h1, h2⟩, h6, h7⟩ := h
  exact ⟨⟨(hc _).trans h0, (hc _).trans h1, (hc _).trans h2⟩, Nat.lt_of_lt_of_le h6 hz, fun j => (hf j).trans (h7 j)⟩
theorem XAt.call (h : XAt w b x vs vc fs fc) (hb : Below w.heap.size w w') : XAt w' b x vs vc fs fc := h.same (hb.block b h.2.1) hb.size
theorem XAt.new (w : World) (x : Pic) (vs : Option Addr) (vc : Nat) (fs : Option Addr) (fc : Nat) : XAt (w.alloc (.cells #[.bool x.none, .slice vs x.vars.length vc, .slice fs x.flds.length fc] 58)) w.heap.size x vs vc fs fc := by
  refine ⟨⟨?_, ?_, ?_⟩, by simp, fun j => ?_⟩ <;> simp [go_sem]
end
end Go.Proofs.YtmapdpcfanecdaaGreat
