/- What the document says of guesses, as plain Lean functions: no program in sight. -/
import Derived.Test.YtmapdpcfanecdaaGreatProg
import Derived.WalkKit
import Derived.WalkSpells
import Derived.WalkLawsBesides
import Derived.Handy
import Derived.Lib.SmallJoins
import Derived.Deep.Slices
import Derived.ProofKit
namespace Go.Proofs.YtmapdpcfanecdaaGreat
set_option linter.unusedVariables false
set_option linter.unusedSimpArgs false

/-- Is a number from l to m? -/
def btw (n l m : Int) : Bool := decide (l ≤ n ∧ n ≤ m)
theorem btw_true {n l m : Int} (h1 : l ≤ n) (h2 : n ≤ m) : btw n l m = true := by simp [btw, h1, h2]
theorem btw_lo {n l m : Int} (h : ¬ l ≤ n) : btw n l m = false := by simp [btw, h]
theorem btw_hi {n l m : Int} (h : ¬ n ≤ m) : btw n l m = false := by simp [btw, h]

theorem btw_cases {k : Int} (h : btw k 1 19 = true) : k = 1 ∨ k = 2 ∨ k = 3 ∨ k = 4 ∨ k = 5 ∨ k = 6 ∨ k = 7 ∨ k = 8 ∨ k = 9 ∨ k = 10 ∨ k = 11 ∨ k = 12 ∨ k = 13 ∨ k = 14 ∨ k = 15 ∨ k = 16 ∨ k = 17 ∨ k = 18 ∨ k = 19 := by
  simp [btw] at h; omega

theorem btw19 (k : Int) : btw k 1 19 = (decide (1 ≤ k) && decide (k ≤ 19)) := by simp [btw]

def nTo (k : Int) : Bool := btw k 1 12 || decide (k = 14)
def nA (k : Int) : Bool := btw k 4 10 || decide (k = 12) || decide (k = 13) || decide (k = 15) || decide (k = 17) || decide (k = 18)
def nB (k : Int) : Bool := btw k 5 9 || decide (k = 13)
def nN (k : Int) : Bool := decide (k = 1) || decide (k = 2) || btw k 12 14
def nG (k : Int) : Bool := decide (k = 15) || decide (k = 16)

/-- An instruction. -/
structure Ins where
  k : Int
  to : Int
  a : Int
  b : Int
  n : Int
  g : Int

/-- What is told of an instruction of a program with V variables, F fields, L instructions. -/
def ckOne (V F L : Int) (i : Ins) : Int :=
  if btw i.k 1 19 = false then 6
  else if (nTo i.k && !btw i.to 0 (V - 1)) || (nA i.k && !btw i.a 0 (V - 1)) || (nB i.k && !btw i.b 0 (V - 1)) || ((decide (i.k = 12) || decide (i.k = 13)) && !btw i.n 0 (F - 1)) || (nG i.k && !btw i.g 0 L) then 5
  else if (decide (i.k = 1) && !btw i.n (-2147483648) 2147483647) || (decide (i.k = 2) && !btw i.n 0 1) || (decide (i.k = 14) && !btw i.n 0 1000000) then 3
  else if (!nTo i.k && decide (i.to ≠ 0)) || (!nA i.k && decide (i.a ≠ 0)) || (!nB i.k && decide (i.b ≠ 0)) || (!nN i.k && decide (i.n ≠ 0)) || (!nG i.k && decide (i.g ≠ 0)) then 1
  else 0

def ckAll (V F L : Int) : List Ins → Int
  | [] => 0
  | i :: r => if ckOne V F L i = 0 then ckAll V F L r else ckOne V F L i

/-- What is told of a program. -/
def ckProg (V F : Int) (c : List Ins) : Int :=
  if btw V 1 8 = false || btw F 0 3 = false then 3 else if 60 < c.length then 2 else ckAll V F c.length c

/-- The word of a kind, as bytes; empty: it is none. -/
def wordB : Int → ByteArray
  | 1 => ⟨#[110, 117, 109, 98, 101, 114]⟩
  | 2 => ⟨#[116, 114, 117, 116, 104]⟩
  | 3 => ⟨#[110, 117, 108, 108]⟩
  | 4 => ⟨#[99, 111, 112, 121]⟩
  | 5 => ⟨#[97, 100, 100]⟩
  | 6 => ⟨#[115, 117, 98]⟩
  | 7 => ⟨#[109, 117, 108]⟩
  | 8 => ⟨#[108, 101, 115, 115]⟩
  | 9 => ⟨#[115, 97, 109, 101]⟩
  | 10 => ⟨#[110, 111, 116]⟩
  | 11 => ⟨#[110, 101, 119]⟩
  | 12 => ⟨#[103, 101, 116]⟩
  | 13 => ⟨#[112, 117, 116]⟩
  | 14 => ⟨#[105, 110, 112, 117, 116]⟩
  | 15 => ⟨#[105, 102]⟩
  | 16 => ⟨#[103, 111, 116, 111]⟩
  | 17 => ⟨#[101, 120, 112, 101, 99, 116]⟩
  | 18 => ⟨#[112, 114, 105, 110, 116]⟩
  | 19 => ⟨#[101, 110, 100]⟩
  | _ => ⟨#[]⟩

theorem wordB_none {k : Int} (h : btw k 1 19 = false) : wordB k = ⟨#[]⟩ := by
  have : ¬ (1 ≤ k ∧ k ≤ 19) := by simpa [btw] using h
  unfold wordB
  split <;> first | rfl | omega

end Go.Proofs.YtmapdpcfanecdaaGreat

namespace Go.Proofs.YtmapdpcfanecdaaGreat
set_option linter.unusedVariables false
set_option linter.unusedSimpArgs false

structure Val where
  k : Int
  n : Int

structure Thg where
  site : Int
  fs : List Val

structure St where
  at_ : Int
  vars : List Val
  things : List Thg
  taken : Int
  lines : List ByteArray
  fin : Int

/-- A value of a run that has T things. -/
def okVal (T : Nat) (v : Val) : Prop := (v.k = 0 ∧ v.n = 0) ∨ (v.k = 1 ∧ -2147483648 ≤ v.n ∧ v.n ≤ 2147483647) ∨ (v.k = 2 ∧ (v.n = 0 ∨ v.n = 1)) ∨ (v.k = 3 ∧ 0 ≤ v.n ∧ v.n < T)

def truV (b : Bool) : Val := ⟨2, if b then 1 else 0⟩

end Go.Proofs.YtmapdpcfanecdaaGreat

namespace Go.Proofs.YtmapdpcfanecdaaGreat
set_option linter.unusedVariables false
set_option linter.unusedSimpArgs false
open Go.RowKit

theorem ret_bool {a b : Bool} (h : a = b) : Ending.returned (.bool a) = .returned (.bool b) := by rw [h]
theorem ret_int {k : IntKind} {a b : Int} (h : a = b) : Ending.returned (.int k a) = .returned (.int k b) := by rw [h]
theorem ret_str {a b : ByteArray} (h : a = b) : Ending.returned (.string a) = .returned (.string b) := by rw [h]

theorem bcell {W w1 : World} (hb : Below W.heap.size W w1) : (∀ b o, b < W.heap.size → w1.cell? ⟨b, o, none⟩ = W.cell? ⟨b, o, none⟩) ∧ (∀ b o, b < W.heap.size → w1.frozen? ⟨b, o, none⟩ = W.frozen? ⟨b, o, none⟩) :=
  ⟨fun b o h => hb.cell (p := ⟨b, o, none⟩) h, fun b o h => hb.frozen (p := ⟨b, o, none⟩) h⟩

set_option maxHeartbeats 400000 in
theorem between_any (n l m : Int) (w : World) :
    Calls Tryz.prog 73 #[.int .i64 n, .int .i64 l, .int .i64 m] w fun e w' => e = .returned (.bool (btw n l m)) ∧ w' = w := by
  by_cases h1 : l ≤ n
  · by_cases h2 : n ≤ m
    · have hb := btw_true h1 h2
      go_enter Tryz.func73, Tryz.ntmps73
      go_wp2
      go_ret
      exact ⟨ret_bool hb.symm, rfl⟩
    · have hb := btw_hi (l := l) h2
      go_enter Tryz.func73, Tryz.ntmps73
      go_wp2
      go_ret
      exact ⟨rfl, rfl⟩
  · have hb := btw_lo (m := m) h1
    go_enter Tryz.func73, Tryz.ntmps73
    go_wp2
    go_ret
    exact ⟨rfl, rfl⟩
end Go.Proofs.YtmapdpcfanecdaaGreat

namespace Go.Proofs.YtmapdpcfanecdaaGreat
set_option linter.unusedVariables false
set_option linter.unusedSimpArgs false
open Go.RowKit

set_option maxHeartbeats 400000 in
theorem namesTo_any (k : Int) (w : World) :
    Calls Tryz.prog 113 #[.int .i64 k] w fun e w' => e = .returned (.bool (nTo k)) ∧ w' = w := by
  unfold nTo
  go_enter Tryz.func113, Tryz.ntmps113
  go_wp2_with (go_at_call 73; refine (between_any _ _ _ _).mono ?_; rintro e w' ⟨rfl, rfl⟩)
  all_goals go_ret
  all_goals exact ⟨ret_bool (by simp_all [BEq.beq]), rfl⟩

set_option maxHeartbeats 400000 in
theorem namesA_any (k : Int) (w : World) :
    Calls Tryz.prog 114 #[.int .i64 k] w fun e w' => e = .returned (.bool (nA k)) ∧ w' = w := by
  unfold nA
  go_enter Tryz.func114, Tryz.ntmps114
  go_wp2_with (go_at_call 73; refine (between_any _ _ _ _).mono ?_; rintro e w' ⟨rfl, rfl⟩)
  all_goals go_ret
  all_goals exact ⟨ret_bool (by simp_all [BEq.beq]), rfl⟩

set_option maxHeartbeats 400000 in
theorem namesB_any (k : Int) (w : World) :
    Calls Tryz.prog 115 #[.int .i64 k] w fun e w' => e = .returned (.bool (nB k)) ∧ w' = w := by
  unfold nB
  go_enter Tryz.func115, Tryz.ntmps115
  go_wp2_with (go_at_call 73; refine (between_any _ _ _ _).mono ?_; rintro e w' ⟨rfl, rfl⟩)
  all_goals go_ret
  all_goals exact ⟨ret_bool (by simp_all [BEq.beq]), rfl⟩

set_option maxHeartbeats 400000 in
theorem namesN_any (k : Int) (w : World) :
    Calls Tryz.prog 117 #[.int .i64 k] w fun e w' => e = .returned (.bool (nN k)) ∧ w' = w := by
  unfold nN
  go_enter Tryz.func117, Tryz.ntmps117
  go_wp2_with (go_at_call 73; refine (between_any _ _ _ _).mono ?_; rintro e w' ⟨rfl, rfl⟩)
  all_goals go_ret
  all_goals exact ⟨ret_bool (by simp_all [BEq.beq]), rfl⟩

set_option maxHeartbeats 400000 in
theorem namesGoto_any (k : Int) (w : World) :
    Calls Tryz.prog 116 #[.int .i64 k] w fun e w' => e = .returned (.bool (nG k)) ∧ w' = w := by
  unfold nG
  go_enter Tryz.func116, Tryz.ntmps116
  go_wp2
  all_goals go_ret
  all_goals exact ⟨ret_bool (by simp_all [BEq.beq]), rfl⟩
end Go.Proofs.YtmapdpcfanecdaaGreat

namespace Go.Proofs.YtmapdpcfanecdaaGreat
set_option linter.unusedVariables false
set_option linter.unusedSimpArgs false
open Go.RowKit

/-- An instruction lies in six cells. -/
def InsAt (w : World) (b o : Nat) (i : Ins) : Prop :=
  w.cell? ⟨b, o, none⟩ = some (.int .i64 i.k) ∧ w.cell? ⟨b, o + 1, none⟩ = some (.int .i64 i.to) ∧ w.cell? ⟨b, o + 2, none⟩ = some (.int .i64 i.a) ∧
  w.cell? ⟨b, o + 3, none⟩ = some (.int .i64 i.b) ∧ w.cell? ⟨b, o + 4, none⟩ = some (.int .i64 i.n) ∧ w.cell? ⟨b, o + 5, none⟩ = some (.int .i64 i.g)

/-- A list of instructions lies behind a slice's address. -/
def CodeAt (w : World) (s : Option Addr) (c : List Ins) : Prop :=
  c = [] ∨ ∃ b off, s = some ⟨b, off, none⟩ ∧ b < w.heap.size ∧ ∀ k (h : k < c.length), InsAt w b (off + k * 6) c[k]

theorem InsAt.below {B : Nat} {w w' : World} {b o : Nat} {i : Ins} (h : InsAt w b o i) (hb : Below B w w') (hB : b < B) : InsAt w' b o i := by
  obtain ⟨h0, h1, h2, h3, h4, h5⟩ := h
  refine ⟨?_, ?_, ?_, ?_, ?_, ?_⟩ <;> rw [hb.cell (by simpa using hB)] <;> assumption

theorem CodeAt.below {B : Nat} {w w' : World} {s : Option Addr} {c : List Ins} (h : CodeAt w s c) (hb : Below B w w') (hB : w.heap.size ≤ B) : CodeAt w' s c := by
  rcases h with h | ⟨b, off, hs, hlt, hi⟩
  · exact .inl h
  · exact .inr ⟨b, off, hs, Nat.lt_of_lt_of_le hlt hb.size, fun k h => (hi k h).below hb (by omega)⟩

/-- A list of integers lies behind a slice's address. -/
def IntsAt (w : World) (s : Option Addr) (l : List Int) : Prop :=
  l = [] ∨ ∃ b off, s = some ⟨b, off, none⟩ ∧ b < w.heap.size ∧ ∀ k (h : k < l.length), w.cell? ⟨b, off + k, none⟩ = some (.int .i64 l[k])

/-- A list of values lies behind a slice's address. -/
def ValsAt (w : World) (s : Option Addr) (l : List Val) : Prop :=
  l = [] ∨ ∃ b off, s = some ⟨b, off, none⟩ ∧ b < w.heap.size ∧ ∀ k (h : k < l.length), w.cell? ⟨b, off + k * 2, none⟩ = some (.int .i64 l[k].k) ∧ w.cell? ⟨b, off + k * 2 + 1, none⟩ = some (.int .i64 l[k].n)

theorem IntsAt.below {B : Nat} {w w' : World} {s : Option Addr} {l : List Int} (h : IntsAt w s l) (hb : Below B w w') (hB : w.heap.size ≤ B) : IntsAt w' s l := by
  rcases h with h | ⟨b, off, hs, hlt, hi⟩
  · exact .inl h
  · exact .inr ⟨b, off, hs, Nat.lt_of_lt_of_le hlt hb.size, fun k h => by rw [hb.cell (by simp; omega)]; exact hi k h⟩

theorem ValsAt.below {B : Nat} {w w' : World} {s : Option Addr} {l : List Val} (h : ValsAt w s l) (hb : Below B w w') (hB : w.heap.size ≤ B) : ValsAt w' s l := by
  rcases h with h | ⟨b, off, hs, hlt, hi⟩
  · exact .inl h
  · exact .inr ⟨b, off, hs, Nat.lt_of_lt_of_le hlt hb.size, fun k h => by rw [hb.cell (by simp; omega), hb.cell (by simp; omega)]; exact hi k h⟩

end Go.Proofs.YtmapdpcfanecdaaGreat

namespace Go.Proofs.YtmapdpcfanecdaaGreat
set_option linter.unusedVariables false
set_option linter.unusedSimpArgs false
open Go.RowKit Go.ChangeShapes Go.WideShapes Go.Joins Go.Deep

theorem list_six {α : Type} (l : List α) (h : l.length = 6) : ∃ a b c d e f, l = [a, b, c, d, e, f] := by
  match l, h with
  | [a, b, c, d, e, f], _ => exact ⟨a, b, c, d, e, f, rfl⟩
theorem cells_instr : Tryz.prog.cellsOf 113 = 6 := by kernel_rfl
theorem cells_int : Tryz.prog.cellsOf 3 = 1 := by kernel_rfl
theorem cells_program : Tryz.prog.cellsOf 24 = 3 := by kernel_rfl

section
variable {H : Type} {enc : TypeId × Value → H} {w : World} {base : Nat} {spare : Nat → Bool} {held : Bool}

set_option maxRecDepth 100000 in
theorem read_ins {fuel : Nat} {cs : List Value} {x : DataW H × List MemPlace} (h : DataW.trod enc Tryz.prog w base spare held fuel 113 cs = some x) :
    ∃ i : Ins, cs = [.int .i64 i.k, .int .i64 i.to, .int .i64 i.a, .int .i64 i.b, .int .i64 i.n, .int .i64 i.g] ∧ True := by
  obtain ⟨xs, n, _, _, hl, hx, hf⟩ := DataW.trod_struct Tryz.underlying113 h
  rw [cells_instr] at hl
  obtain ⟨c0, c1, c2, c3, c4, c5, rfl⟩ := list_six cs hl
  obtain ⟨y0, y1, y2, y3, y4, y5, rfl⟩ := list_six xs hx
  have g0 := hf 0 _ rfl
  have g1 := hf 1 _ rfl
  have g2 := hf 2 _ rfl
  have g3 := hf 3 _ rfl
  have g4 := hf 4 _ rfl
  have g5 := hf 5 _ rfl
  simp [cells_int] at g0 g1 g2 g3 g4 g5
  obtain ⟨a0, e0, _, w0⟩ := DataW.trod_int Tryz.underlying3 g0
  obtain ⟨a1, e1, _, w1⟩ := DataW.trod_int Tryz.underlying3 g1
  obtain ⟨a2, e2, _, w2⟩ := DataW.trod_int Tryz.underlying3 g2
  obtain ⟨a3, e3, _, w3⟩ := DataW.trod_int Tryz.underlying3 g3
  obtain ⟨a4, e4, _, w4⟩ := DataW.trod_int Tryz.underlying3 g4
  obtain ⟨a5, e5, _, w5⟩ := DataW.trod_int Tryz.underlying3 g5
  simp at e0 e1 e2 e3 e4 e5
  subst e0 e1 e2 e3 e4 e5
  exact ⟨⟨a0, a1, a2, a3, a4, a5⟩, rfl, trivial⟩

set_option maxRecDepth 100000 in
/-- A slice of instructions. -/
theorem read_code {fuel : Nat} {v : Value} {x : DataW H × List MemPlace} (h : DataW.trod enc Tryz.prog w base spare held fuel 22 [v] = some x) :
    ∃ (s : Option Addr) (cap : Nat) (c : List Ins), v = .slice s c.length cap ∧ c.length ≤ cap ∧ cap ≤ maxLen ∧ CodeAt w s c ∧ True := by
  rcases open_slice Tryz.underlying22 h with ⟨hv, _⟩ | ⟨a, len, cap, m, n, D, Pl, hv, hb, hl, hm, hmm, hx, hi⟩
  · simp at hv
    subst hv
    exact ⟨none, 0, [], rfl, Nat.le_refl _, by unfold maxLen; omega, .inl rfl, trivial⟩
  · simp at hv
    subst hv
    have hlm : len ≤ m := by rw [hmm]; split <;> omega
    have each : ∀ i, i < len → ∃ q : Ins, (∀ j, j < 6 → w.cell? (a.add (i * 6 + j)) = [Value.int .i64 q.k, .int .i64 q.to, .int .i64 q.a, .int .i64 q.b, .int .i64 q.n, .int .i64 q.g][j]?) ∧ True := by
      intro i hil
      obtain ⟨cs', h1, h2⟩ := hi i (by omega)
      rw [cells_instr] at h1
      obtain ⟨_, _, hcell⟩ := World.cells?_some h1
      obtain ⟨q, rfl, hq⟩ := read_ins h2
      refine ⟨q, fun j hj => ?_, hq⟩
      rw [← Deep.add_add]
      exact hcell j hj
    have inh : Nonempty Ins := ⟨⟨0, 0, 0, 0, 0, 0⟩⟩
    have hch : ∃ f : Nat → Ins, ∀ i, i < len → (∀ j, j < 6 → w.cell? (a.add (i * 6 + j)) = [Value.int .i64 (f i).k, .int .i64 (f i).to, .int .i64 (f i).a, .int .i64 (f i).b, .int .i64 (f i).n, .int .i64 (f i).g][j]?) ∧ True := by
      refine ⟨fun i => if hi : i < len then Classical.choose (each i hi) else Classical.choice inh, fun i hi => ?_⟩
      simp only [dif_pos hi]
      exact Classical.choose_spec (each i hi)
    obtain ⟨f, hf⟩ := hch
    refine ⟨some a, cap, (List.range len).map f, by simp, by simpa using hl, hm, ?_, ?_⟩
    · by_cases h0 : len = 0
      · left; subst h0; rfl
      · right
        have ha := (hf 0 (by omega)).1 0 (by omega)
        simp [Addr.add] at ha
        obtain ⟨b, off, sp⟩ := a
        have hsp : sp = none := by
          cases sp with
          | none => rfl
          | some z => simp [World.cell?] at ha; split at ha <;> simp_all
        subst hsp
        refine ⟨b, off, rfl, World.block_lt_of_cell? w _ ha, fun k hk => ?_⟩
        have hkl : k < len := by simpa using hk
        have := (hf k hkl).1
        have e : ((List.range len).map f)[k] = f k := by simp
        rw [e]
        have pl : ∀ n, (⟨b, off, none⟩ : Addr).add n = ⟨b, off + n, none⟩ := fun n => by unfold Addr.add; split <;> simp_all
        refine ⟨?_, ?_, ?_, ?_, ?_, ?_⟩
        · simpa [pl] using this 0 (by omega)
        · simpa [pl, Nat.add_assoc] using this 1 (by omega)
        · simpa [pl, Nat.add_assoc] using this 2 (by omega)
        · simpa [pl, Nat.add_assoc] using this 3 (by omega)
        · simpa [pl, Nat.add_assoc] using this 4 (by omega)
        · simpa [pl, Nat.add_assoc] using this 5 (by omega)
    · trivial

set_option maxRecDepth 100000 in
/-- A program that is handed in. -/
theorem open_program {r : Reach} {b0 : Nat} {v : Value} {d : DataW H} {p : List MemPlace} (hv : Value.okWide Tryz.prog w r b0 24 v) (h : DataW.Trod enc Tryz.prog w base spare held 24 v d p) :
    ∃ (V F : Int) (s : Option Addr) (cap : Nat) (c : List Ins), v = .agg #[.int .i64 V, .int .i64 F, .slice s c.length cap]  ∧ c.length ≤ cap ∧ cap ≤ maxLen ∧ CodeAt w s c ∧ True := by
  obtain ⟨c0, c1, c2, y0, y1, y2, n, rfl, _, _, h0, h1, h2⟩ := open_agg3 Tryz.underlying24 (by kernel_rfl) cells_program hv h
  obtain ⟨V, e0, _, w0⟩ := DataW.trod_int Tryz.underlying3 h0
  obtain ⟨F, e1, _, w1⟩ := DataW.trod_int Tryz.underlying3 h1
  simp at e0 e1
  subst e0 e1
  obtain ⟨s, cap, c, rfl, hl, hm, hc, hf⟩ := read_code h2
  exact ⟨V, F, s, cap, c, rfl, hl, hm, hc, hf⟩
end
end Go.Proofs.YtmapdpcfanecdaaGreat

namespace Go.Proofs.YtmapdpcfanecdaaGreat
set_option linter.unusedVariables false
set_option linter.unusedSimpArgs false

/-- A span. -/
structure Sp where
  n : Bool
  lo : Int
  hi : Int
def Sp.dq(s t:Sp):Decidable (s=t):=decidable_of_iff (s.n=t.n/\s.lo=t.lo/\s.hi=t.hi) (by cases s;cases t;simp)

abbrev inNum (x : Int) : Prop := -2147483648 ≤ x ∧ x ≤ 2147483647

/-- What is told of a span. -/
def ckSp (s : Sp) : Int :=
  if ¬ (inNum s.lo ∧ inNum s.hi) then 3 else if s.n = true ∧ ¬ (s.lo = 0 ∧ s.hi = 0) then 1 else if s.hi < s.lo then 4 else 0

def ckSps (s t : Sp) : Int := if ckSp s = 0 then ckSp t else ckSp s

/-- It is right. -/
def Sp.Ok (s : Sp) : Prop := inNum s.lo ∧ inNum s.hi ∧ (s.n = true → s.lo = 0 ∧ s.hi = 0) ∧ s.lo ≤ s.hi

theorem ckSp_ok {s : Sp} : ckSp s = 0 ↔ s.Ok := by
  unfold ckSp Sp.Ok
  by_cases h1 : inNum s.lo ∧ inNum s.hi
  · rw [if_neg (not_not_intro h1)]
    by_cases h2 : s.n = true ∧ ¬ (s.lo = 0 ∧ s.hi = 0)
    · rw [if_pos h2]
      refine ⟨fun h => absurd h (by decide), fun h => absurd (h.2.2.1 h2.1) h2.2⟩
    · rw [if_neg h2]
      have h3 : s.n = true → s.lo = 0 ∧ s.hi = 0 := fun hn => Decidable.not_not.1 fun hc => h2 ⟨hn, hc⟩
      by_cases h4 : s.hi < s.lo
      · rw [if_pos h4]
        exact ⟨fun h => absurd h (by decide), fun h => absurd h.2.2.2 (by omega)⟩
      · rw [if_neg h4]
        exact ⟨fun _ => ⟨h1.1, h1.2, h3, by omega⟩, fun _ => rfl⟩
  · rw [if_pos h1]
    exact ⟨fun h => absurd h (by decide), fun h => absurd ⟨h.1, h.2.1⟩ h1⟩

theorem ckSps_ok {s t : Sp} : ckSps s t = 0 ↔ s.Ok ∧ t.Ok := by
  unfold ckSps
  by_cases h : ckSp s = 0
  · rw [if_pos h, ckSp_ok]
    exact ⟨fun ht => ⟨ckSp_ok.1 h, ht⟩, fun ht => ht.2⟩
  · rw [if_neg h]
    exact ⟨fun ht => absurd ht h, fun ht => absurd (ckSp_ok.2 ht.1) h⟩

def Sp.has (s : Sp) (x : Int) : Bool := !s.n && (decide (s.lo ≤ x) && decide (x ≤ s.hi))
def joinSp (s t : Sp) : Sp := if s.n then t else if t.n then s else ⟨false, min s.lo t.lo, max s.hi t.hi⟩
def wideSp (s t : Sp) : Sp := if s.n then t else if t.n then s else ⟨false, if t.lo < s.lo then -2147483648 else s.lo, if s.hi < t.hi then 2147483647 else s.hi⟩
def meetSp (s t : Sp) : Sp := if s.n || t.n || decide (min s.hi t.hi < max s.lo t.lo) then ⟨true, 0, 0⟩ else ⟨false, max s.lo t.lo, min s.hi t.hi⟩
def spIn (s t : Sp) : Bool := s.n || (t.has s.lo && t.has s.hi)

def zeroSp : Sp := ⟨false, 0, 0⟩
end Go.Proofs.YtmapdpcfanecdaaGreat

namespace Go.Proofs.YtmapdpcfanecdaaGreat
set_option linter.unusedVariables false
set_option linter.unusedSimpArgs false

/-- A guess. -/
structure Gs where
  n : Bool
  sp : Sp
  t : Bool
  f : Bool
  s : List Int

/-- Is a thing made there? -/
def isSite (c : List Ins) (x : Int) : Bool := decide (0 ≤ x) && (decide (x < c.length) && decide ((c.getD x.toNat ⟨0, 0, 0, 0, 0, 0⟩).k = 11))

def rising : List Int → Bool
  | [] => true
  | [_] => true
  | a :: b :: r => decide (a < b) && rising (b :: r)

/-- What is told of a guess, in a program that is right. -/
def ckGs (c : List Ins) (g : Gs) : Int := if ckSp g.sp ≠ 0 then ckSp g.sp else if g.s.all (isSite c) = false then 5 else if rising g.s = false then 4 else 0

/-- What is told of guesses, one after the other. -/
def ckGss (c : List Ins) : List Gs → Int
  | [] => 0
  | g :: r => if ckGs c g = 0 then ckGss c r else ckGs c g

/-- .. and of the program first. -/
def ckAllG (V F : Int) (c : List Ins) (l : List Gs) : Int := if ckProg V F c = 0 then ckGss c l else ckProg V F c

def inGs (g h : Gs) : Bool := !(g.n && !h.n) && (!(g.t && !h.t) && (!(g.f && !h.f) && (spIn g.sp h.sp && g.s.all fun x => h.s.contains x)))
def heldGs (g : Gs) (k n site : Int) : Bool := if k = 0 then g.n else if k = 1 then g.sp.has n else if k = 2 then (g.t && decide (n = 1)) || (g.f && decide (n = 0)) else g.s.contains site
def otherGs (g : Gs) : Bool := g.n || (g.t || (g.f || decide (0 < g.s.length)))
def nothingGs (g : Gs) : Bool := g.sp.n && !otherGs g
def noneG : Gs := ⟨false, ⟨true, 0, 0⟩, false, false, []⟩
def zeroG : Gs := ⟨false, ⟨false, 0, 0⟩, false, false, []⟩
end Go.Proofs.YtmapdpcfanecdaaGreat
