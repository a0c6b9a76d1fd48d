/- One operation of a region in its own order; a guarded one too, whatever its guard is. -/
import Derived.Test.YtmapdpcfanecdabGreatProg
import Derived.WalkKit
import Derived.WalkSpells
import Derived.WalkLawsBesides
import Derived.Handy
import Derived.Lib.SmallJoins
import Derived.Deep.Slices
import Derived.ProofKit
import Derived.BigQuiet
import Derived.Deep.RegionHeld3
import Derived.Lib.QuietBelow
import Derived.SizedLaws
import Derived.Deep.RegionHeld
import Derived.OwnWalk
import Derived.Deep.QuietTactic
import Derived.Deep.AppendLies
import Derived.Laws.OwnMore
import Derived.Laws.CopyRow
import Derived.Lib.SlBuf
set_option linter.unusedSimpArgs false
set_option linter.unusedVariables false
namespace Go.Proofs.YtmapdpcfanecdabGreat
section

/-- Is a number from l to m? -/
def btw (n l m : Int) : Bool := decide (l ≤ n ∧ n ≤ m)
theorem btw_true {n l m : Int} (h1 : l ≤ n) (h2 : n ≤ m) : btw n l m = true := by simp [btw, h1, h2]
theorem btw_lo {n l m : Int} (h : ¬ l ≤ n) : btw n l m = false := by simp [btw, h]
theorem btw_hi {n l m : Int} (h : ¬ n ≤ m) : btw n l m = false := by simp [btw, h]

theorem btw_cases {k : Int} (h : btw k 1 19 = true) : k = 1 ∨ k = 2 ∨ k = 3 ∨ k = 4 ∨ k = 5 ∨ k = 6 ∨ k = 7 ∨ k = 8 ∨ k = 9 ∨ k = 10 ∨ k = 11 ∨ k = 12 ∨ k = 13 ∨ k = 14 ∨ k = 15 ∨ k = 16 ∨ k = 17 ∨ k = 18 ∨ k = 19 := by
 simp [btw] at h; omega

theorem btw19 (k : Int) : btw k 1 19 = (decide (1 ≤ k) && decide (k ≤ 19)) := by simp [btw]

def nTo (k : Int) : Bool := btw k 1 12 || decide (k = 14)
def nA (k : Int) : Bool := btw k 4 10 || decide (k = 12) || decide (k = 13) || decide (k = 15) || decide (k = 17) || decide (k = 18)
def nB (k : Int) : Bool := btw k 5 9 || decide (k = 13)
def nN (k : Int) : Bool := decide (k = 1) || decide (k = 2) || btw k 12 14
def nG (k : Int) : Bool := decide (k = 15) || decide (k = 16)

/-- An instruction. -/
structure Ins where
 k : Int
 tgt : Int
 a : Int
 b : Int
 n : Int
 g : Int

/-- What is told of an instruction of a program with V variables, F fields, L instructions. -/
def ckOne (V F L : Int) (i : Ins) : Int :=
 if btw i.k 1 19 = false then 6
 else if (nTo i.k && !btw i.tgt 0 (V - 1)) || (nA i.k && !btw i.a 0 (V - 1)) || (nB i.k && !btw i.b 0 (V - 1)) || ((decide (i.k = 12) || decide (i.k = 13)) && !btw i.n 0 (F - 1)) || (nG i.k && !btw i.g 0 L) then 5
 else if (decide (i.k = 1) && !btw i.n (-2147483648) 2147483647) || (decide (i.k = 2) && !btw i.n 0 1) || (decide (i.k = 14) && !btw i.n 0 1000000) then 3
 else if (!nTo i.k && decide (i.tgt ≠ 0)) || (!nA i.k && decide (i.a ≠ 0)) || (!nB i.k && decide (i.b ≠ 0)) || (!nN i.k && decide (i.n ≠ 0)) || (!nG i.k && decide (i.g ≠ 0)) then 1
 else 0

def ckAll (V F L : Int) : List Ins → Int
 | [] => 0
 | i :: r => if ckOne V F L i = 0 then ckAll V F L r else ckOne V F L i

/-- What is told of a program. -/
def ckProg (V F : Int) (c : List Ins) : Int :=
 if btw V 1 8 = false || btw F 0 3 = false then 3 else if 60 < c.length then 2 else ckAll V F c.length c

/-- The word of a kind, as bytes; empty: it is none. -/
def wordB : Int → ByteArray
 | 1 => ⟨#[110, 117, 109, 98, 101, 114]⟩
 | 2 => ⟨#[116, 114, 117, 116, 104]⟩
 | 3 => ⟨#[110, 117, 108, 108]⟩
 | 4 => ⟨#[99, 111, 112, 121]⟩
 | 5 => ⟨#[97, 100, 100]⟩
 | 6 => ⟨#[115, 117, 98]⟩
 | 7 => ⟨#[109, 117, 108]⟩
 | 8 => ⟨#[108, 101, 115, 115]⟩
 | 9 => ⟨#[115, 97, 109, 101]⟩
 | 10 => ⟨#[110, 111, 116]⟩
 | 11 => ⟨#[110, 101, 119]⟩
 | 12 => ⟨#[103, 101, 116]⟩
 | 13 => ⟨#[112, 117, 116]⟩
 | 14 => ⟨#[105, 110, 112, 117, 116]⟩
 | 15 => ⟨#[105, 102]⟩
 | 16 => ⟨#[103, 111, 116, 111]⟩
 | 17 => ⟨#[101, 120, 112, 101, 99, 116]⟩
 | 18 => ⟨#[112, 114, 105, 110, 116]⟩
 | 19 => ⟨#[101, 110, 100]⟩
 | _ => ⟨#[]⟩

theorem wordB_none {k : Int} (h : btw k 1 19 = false) : wordB k = ⟨#[]⟩ := by
 have : ¬ (1 ≤ k ∧ k ≤ 19) := by simpa [btw] using h
 unfold wordB
 split <;> first | rfl | omega
end
section
set_option maxHeartbeats 400000
open Go.RowKit

theorem ret_bool {a b : Bool} (h : a = b) : Ending.returned (.bool a) = .returned (.bool b) := by rw [h]
theorem ret_int {k : IntKind} {a b : Int} (h : a = b) : Ending.returned (.int k a) = .returned (.int k b) := by rw [h]
theorem ret_str {a b : ByteArray} (h : a = b) : Ending.returned (.string a) = .returned (.string b) := by rw [h]

theorem bcell {W w1 : World} (hb : Below W.heap.size W w1) : (∀ b o, b < W.heap.size → w1.cell? ⟨b, o, none⟩ = W.cell? ⟨b, o, none⟩) ∧ (∀ b o, b < W.heap.size → w1.frozen? ⟨b, o, none⟩ = W.frozen? ⟨b, o, none⟩) :=
 ⟨fun b o h => hb.cell (p := ⟨b, o, none⟩) h, fun b o h => hb.frozen (p := ⟨b, o, none⟩) h⟩

theorem between_any (n l m : Int) (w : World) :
  Calls Tryz.prog 38 #[.int .i64 n, .int .i64 l, .int .i64 m] w fun e w' => e = .returned (.bool (btw n l m)) ∧ w' = w := by
 by_cases h1 : l ≤ n
 ·by_cases h2 : n ≤ m
  ·have hb := btw_true h1 h2
   go_enter Tryz.func38, Tryz.ntmps38
   go_wp2
   go_ret
   exact ⟨ret_bool hb.symm, rfl⟩
  ·have hb := btw_hi (l := l) h2
   go_enter Tryz.func38, Tryz.ntmps38
   go_wp2
   go_ret
   exact ⟨rfl, rfl⟩
 ·have hb := btw_lo (m := m) h1
  go_enter Tryz.func38, Tryz.ntmps38
  go_wp2
  go_ret
  exact ⟨rfl, rfl⟩
end
section
set_option maxHeartbeats 400000
open Go.RowKit

theorem namesTo_any (k : Int) (w : World) :
  Calls Tryz.prog 74 #[.int .i64 k] w fun e w' => e = .returned (.bool (nTo k)) ∧ w' = w := by
 unfold nTo
 go_enter Tryz.func74, Tryz.ntmps74
 go_wp2_with (go_at_call 38; refine (between_any _ _ _ _).mono ?_; rintro e w' ⟨rfl, rfl⟩)
 all_goals go_ret
 all_goals exact ⟨ret_bool (by simp_all [BEq.beq]), rfl⟩

theorem namesA_any (k : Int) (w : World) :
  Calls Tryz.prog 22 #[.int .i64 k] w fun e w' => e = .returned (.bool (nA k)) ∧ w' = w := by
 unfold nA
 go_enter Tryz.func22, Tryz.ntmps22
 go_wp2_with (go_at_call 38; refine (between_any _ _ _ _).mono ?_; rintro e w' ⟨rfl, rfl⟩)
 all_goals go_ret
 all_goals exact ⟨ret_bool (by simp_all [BEq.beq]), rfl⟩

theorem namesB_any (k : Int) (w : World) :
  Calls Tryz.prog 23 #[.int .i64 k] w fun e w' => e = .returned (.bool (nB k)) ∧ w' = w := by
 unfold nB
 go_enter Tryz.func23, Tryz.ntmps23
 go_wp2_with (go_at_call 38; refine (between_any _ _ _ _).mono ?_; rintro e w' ⟨rfl, rfl⟩)
 all_goals go_ret
 all_goals exact ⟨ret_bool (by simp_all [BEq.beq]), rfl⟩

theorem namesN_any (k : Int) (w : World) :
  Calls Tryz.prog 76 #[.int .i64 k] w fun e w' => e = .returned (.bool (nN k)) ∧ w' = w := by
 unfold nN
 go_enter Tryz.func76, Tryz.ntmps76
 go_wp2_with (go_at_call 38; refine (between_any _ _ _ _).mono ?_; rintro e w' ⟨rfl, rfl⟩)
 all_goals go_ret
 all_goals exact ⟨ret_bool (by simp_all [BEq.beq]), rfl⟩

theorem namesGoto_any (k : Int) (w : World) :
  Calls Tryz.prog 75 #[.int .i64 k] w fun e w' => e = .returned (.bool (nG k)) ∧ w' = w := by
 unfold nG
 go_enter Tryz.func75, Tryz.ntmps75
 go_wp2
 all_goals go_ret
 all_goals exact ⟨ret_bool (by simp_all [BEq.beq]), rfl⟩
end
section
open Go.RowKit

/-- An instruction lies in six cells. -/
def InsAt (w : World) (b o : Nat) (i : Ins) : Prop :=
 w.cell? ⟨b, o, none⟩ = some (.int .i64 i.k) ∧ w.cell? ⟨b, o + 1, none⟩ = some (.int .i64 i.tgt) ∧ w.cell? ⟨b, o + 2, none⟩ = some (.int .i64 i.a) ∧
 w.cell? ⟨b, o + 3, none⟩ = some (.int .i64 i.b) ∧ w.cell? ⟨b, o + 4, none⟩ = some (.int .i64 i.n) ∧ w.cell? ⟨b, o + 5, none⟩ = some (.int .i64 i.g)

/-- A list of instructions lies behind a slice's address. -/
def CodeAt (w : World) (s : Option Addr) (c : List Ins) : Prop :=
 c = [] ∨ ∃ b off, s = some ⟨b, off, none⟩ ∧ b < w.heap.size ∧ ∀ k (h : k < c.length), InsAt w b (off + k * 6) c[k]

theorem InsAt.below {B : Nat} {w w' : World} {b o : Nat} {i : Ins} (h : InsAt w b o i) (hb : Below B w w') (hB : b < B) : InsAt w' b o i := by
 obtain ⟨h0, h1, h2, h3, h4, h5⟩ := h
 refine ⟨?_, ?_, ?_, ?_, ?_, ?_⟩ <;> rw [hb.cell (by simpa using hB)] <;> assumption

theorem CodeAt.below {B : Nat} {w w' : World} {s : Option Addr} {c : List Ins} (h : CodeAt w s c) (hb : Below B w w') (hB : w.heap.size ≤ B) : CodeAt w' s c := by
 rcases h with h | ⟨b, off, hs, hlt, hi⟩
 ·exact .inl h
 ·exact .inr ⟨b, off, hs, Nat.lt_of_lt_of_le hlt hb.size, fun k h => (hi k h).below hb (by omega)⟩

/-- A list of integers lies behind a slice's address. -/
def IntsAt (w : World) (s : Option Addr) (l : List Int) : Prop :=
 l = [] ∨ ∃ b off, s = some ⟨b, off, none⟩ ∧ b < w.heap.size ∧ ∀ k (h : k < l.length), w.cell? ⟨b, off + k, none⟩ = some (.int .i64 l[k])

theorem IntsAt.below {B : Nat} {w w' : World} {s : Option Addr} {l : List Int} (h : IntsAt w s l) (hb : Below B w w') (hB : w.heap.size ≤ B) : IntsAt w' s l := by
 rcases h with h | ⟨b, off, hs, hlt, hi⟩
 ·exact .inl h
 ·exact .inr ⟨b, off, hs, Nat.lt_of_lt_of_le hlt hb.size, fun k h => by rw [hb.cell (by simp; omega)]; exact hi k h⟩
end
section
set_option maxRecDepth 100000
open Go.RowKit Go.ChangeShapes Go.WideShapes Go.Joins Go.Deep

theorem list_six {α : Type} (l : List α) (h : l.length = 6) : ∃ a b c d e f, l = [a, b, c, d, e, f] := by
 match l, h with
 | [a, b, c, d, e, f], _ => exact ⟨a, b, c, d, e, f, rfl⟩
theorem cells_instr : Tryz.prog.cellsOf 51 = 6 := by kernel_rfl
theorem cells_int : Tryz.prog.cellsOf 3 = 1 := by kernel_rfl
theorem cells_program : Tryz.prog.cellsOf 24 = 3 := by kernel_rfl

section
variable {H : Type} {enc : TypeId × Value → H} {w : World} {base : Nat} {spare : Nat → Bool} {held : Bool}

theorem read_ins {fuel : Nat} {cs : List Value} {x : DataW H × List MemPlace} (h : DataW.trod enc Tryz.prog w base spare held fuel 51 cs = some x) :
  ∃ i : Ins, cs = [.int .i64 i.k, .int .i64 i.tgt, .int .i64 i.a, .int .i64 i.b, .int .i64 i.n, .int .i64 i.g] ∧ True := by
 obtain ⟨xs, n, _, _, hl, hx, hf⟩ := DataW.trod_struct Tryz.underlying51 h
 rw [cells_instr] at hl
 obtain ⟨c0, c1, c2, c3, c4, c5, rfl⟩ := list_six cs hl
 obtain ⟨y0, y1, y2, y3, y4, y5, rfl⟩ := list_six xs hx
 have g0 := hf 0 _ rfl
 have g1 := hf 1 _ rfl
 have g2 := hf 2 _ rfl
 have g3 := hf 3 _ rfl
 have g4 := hf 4 _ rfl
 have g5 := hf 5 _ rfl
 simp [cells_int] at g0 g1 g2 g3 g4 g5
 obtain ⟨a0, e0, _, w0⟩ := DataW.trod_int Tryz.underlying3 g0
 obtain ⟨a1, e1, _, w1⟩ := DataW.trod_int Tryz.underlying3 g1
 obtain ⟨a2, e2, _, w2⟩ := DataW.trod_int Tryz.underlying3 g2
 obtain ⟨a3, e3, _, w3⟩ := DataW.trod_int Tryz.underlying3 g3
 obtain ⟨a4, e4, _, w4⟩ := DataW.trod_int Tryz.underlying3 g4
 obtain ⟨a5, e5, _, w5⟩ := DataW.trod_int Tryz.underlying3 g5
 simp at e0 e1 e2 e3 e4 e5
 subst e0 e1 e2 e3 e4 e5
 exact ⟨⟨a0, a1, a2, a3, a4, a5⟩, rfl, trivial⟩

/-- A slice of instructions. -/
theorem read_code {fuel : Nat} {v : Value} {x : DataW H × List MemPlace} (h : DataW.trod enc Tryz.prog w base spare held fuel 22 [v] = some x) :
  ∃ (s : Option Addr) (cap : Nat) (c : List Ins), v = .slice s c.length cap ∧ c.length ≤ cap ∧ cap ≤ maxLen ∧ CodeAt w s c ∧ True := by
 rcases open_slice Tryz.underlying22 h with ⟨hv, _⟩ | ⟨a, len, cap, m, n, D, Pl, hv, hb, hl, hm, hmm, hx, hi⟩
 ·simp at hv
  subst hv
  exact ⟨none, 0, [], rfl, Nat.le_refl _, by unfold maxLen; omega, .inl rfl, trivial⟩
 ·simp at hv
  subst hv
  have hlm : len ≤ m := by rw [hmm]; split <;> omega
  have each : ∀ i, i < len → ∃ q : Ins, (∀ j, j < 6 → w.cell? (a.add (i * 6 + j)) = [Value.int .i64 q.k, .int .i64 q.tgt, .int .i64 q.a, .int .i64 q.b, .int .i64 q.n, .int .i64 q.g][j]?) ∧ True := by
   intro i hil
   obtain ⟨cs', h1, h2⟩ := hi i (by omega)
   rw [cells_instr] at h1
   obtain ⟨_, _, hcell⟩ := World.cells?_some h1
   obtain ⟨q, rfl, hq⟩ := read_ins h2
   refine ⟨q, fun j hj => ?_, hq⟩
   rw [← Deep.add_add]
   exact hcell j hj
  have inh : Nonempty Ins := ⟨⟨0, 0, 0, 0, 0, 0⟩⟩
  have hch : ∃ f : Nat → Ins, ∀ i, i < len → (∀ j, j < 6 → w.cell? (a.add (i * 6 + j)) = [Value.int .i64 (f i).k, .int .i64 (f i).tgt, .int .i64 (f i).a, .int .i64 (f i).b, .int .i64 (f i).n, .int .i64 (f i).g][j]?) ∧ True := by
   refine ⟨fun i => if hi : i < len then Classical.choose (each i hi) else Classical.choice inh, fun i hi => ?_⟩
   simp only [dif_pos hi]
   exact Classical.choose_spec (each i hi)
  obtain ⟨f, hf⟩ := hch
  refine ⟨some a, cap, (List.range len).map f, by simp, by simpa using hl, hm, ?_, ?_⟩
  ·by_cases h0 : len = 0
   ·left; subst h0; rfl
   ·right
    have ha := (hf 0 (by omega)).1 0 (by omega)
    simp [Addr.add] at ha
    obtain ⟨b, off, sp⟩ := a
    have hsp : sp = none := by
     cases sp with
     | none => rfl
     | some z => simp [World.cell?] at ha; split at ha <;> simp_all
    subst hsp
    refine ⟨b, off, rfl, World.block_lt_of_cell? w _ ha, fun k hk => ?_⟩
    have hkl : k < len := by simpa using hk
    have := (hf k hkl).1
    have e : ((List.range len).map f)[k] = f k := by simp
    rw [e]
    have pl : ∀ n, (⟨b, off, none⟩ : Addr).add n = ⟨b, off + n, none⟩ := fun n => by unfold Addr.add; split <;> simp_all
    refine ⟨?_, ?_, ?_, ?_, ?_, ?_⟩
    ·simpa [pl] using this 0 (by omega)
    ·simpa [pl, Nat.add_assoc] using this 1 (by omega)
    ·simpa [pl, Nat.add_assoc] using this 2 (by omega)
    ·simpa [pl, Nat.add_assoc] using this 3 (by omega)
    ·simpa [pl, Nat.add_assoc] using this 4 (by omega)
    ·simpa [pl, Nat.add_assoc] using this 5 (by omega)
  ·trivial

/-- A program that is handed in. -/
theorem open_program {r : Reach} {b0 : Nat} {v : Value} {d : DataW H} {p : List MemPlace} (hv : Value.okWide Tryz.prog w r b0 24 v) (h : DataW.Trod enc Tryz.prog w base spare held 24 v d p) :
  ∃ (V F : Int) (s : Option Addr) (cap : Nat) (c : List Ins), v = .agg #[.int .i64 V, .int .i64 F, .slice s c.length cap]  ∧ c.length ≤ cap ∧ cap ≤ maxLen ∧ CodeAt w s c ∧ True := by
 obtain ⟨c0, c1, c2, y0, y1, y2, n, rfl, _, _, h0, h1, h2⟩ := open_agg3 Tryz.underlying24 (by kernel_rfl) cells_program hv h
 obtain ⟨V, e0, _, w0⟩ := DataW.trod_int Tryz.underlying3 h0
 obtain ⟨F, e1, _, w1⟩ := DataW.trod_int Tryz.underlying3 h1
 simp at e0 e1
 subst e0 e1
 obtain ⟨s, cap, c, rfl, hl, hm, hc, hf⟩ := read_code h2
 exact ⟨V, F, s, cap, c, rfl, hl, hm, hc, hf⟩
end
end
section

/-- A span. -/
structure Sp where
 n : Bool
 lo : Int
 hi : Int
def Sp.dq(s t:Sp):Decidable (s=t):=decidable_of_iff (s.n=t.n/\s.lo=t.lo/\s.hi=t.hi) (by cases s;cases t;simp)

abbrev inNum (x : Int) : Prop := -2147483648 ≤ x ∧ x ≤ 2147483647

/-- What is told of a span. -/
def ckSp (s : Sp) : Int :=
 if ¬ (inNum s.lo ∧ inNum s.hi) then 3 else if s.n = true ∧ ¬ (s.lo = 0 ∧ s.hi = 0) then 1 else if s.hi < s.lo then 4 else 0

def ckSps (s t : Sp) : Int := if ckSp s = 0 then ckSp t else ckSp s

/-- It is right. -/
def Sp.Ok (s : Sp) : Prop := inNum s.lo ∧ inNum s.hi ∧ (s.n = true → s.lo = 0 ∧ s.hi = 0) ∧ s.lo ≤ s.hi

theorem ckSp_ok {s : Sp} : ckSp s = 0 ↔ s.Ok := by
 unfold ckSp Sp.Ok
 by_cases h1 : inNum s.lo ∧ inNum s.hi
 ·rw [if_neg (not_not_intro h1)]
  by_cases h2 : s.n = true ∧ ¬ (s.lo = 0 ∧ s.hi = 0)
  ·rw [if_pos h2]
   refine ⟨fun h => absurd h (by decide), fun h => absurd (h.2.2.1 h2.1) h2.2⟩
  ·rw [if_neg h2]
   have h3 : s.n = true → s.lo = 0 ∧ s.hi = 0 := fun hn => Decidable.not_not.1 fun hc => h2 ⟨hn, hc⟩
   by_cases h4 : s.hi < s.lo
   ·rw [if_pos h4]
    exact ⟨fun h => absurd h (by decide), fun h => absurd h.2.2.2 (by omega)⟩
   ·rw [if_neg h4]
    exact ⟨fun _ => ⟨h1.1, h1.2, h3, by omega⟩, fun _ => rfl⟩
 ·rw [if_pos h1]
  exact ⟨fun h => absurd h (by decide), fun h => absurd ⟨h.1, h.2.1⟩ h1⟩

theorem ckSps_ok {s t : Sp} : ckSps s t = 0 ↔ s.Ok ∧ t.Ok := by
 unfold ckSps
 by_cases h : ckSp s = 0
 ·rw [if_pos h, ckSp_ok]
  exact ⟨fun ht => ⟨ckSp_ok.1 h, ht⟩, fun ht => ht.2⟩
 ·rw [if_neg h]
  exact ⟨fun ht => absurd ht h, fun ht => absurd (ckSp_ok.2 ht.1) h⟩

def Sp.has (s : Sp) (x : Int) : Bool := !s.n && (decide (s.lo ≤ x) && decide (x ≤ s.hi))
def joinSp (s t : Sp) : Sp := if s.n then t else if t.n then s else ⟨false, min s.lo t.lo, max s.hi t.hi⟩
def wideSp (s t : Sp) : Sp := if s.n then t else if t.n then s else ⟨false, if t.lo < s.lo then -2147483648 else s.lo, if s.hi < t.hi then 2147483647 else s.hi⟩
def meetSp (s t : Sp) : Sp := if s.n || t.n || decide (min s.hi t.hi < max s.lo t.lo) then ⟨true, 0, 0⟩ else ⟨false, max s.lo t.lo, min s.hi t.hi⟩
def spIn (s t : Sp) : Bool := s.n || (t.has s.lo && t.has s.hi)

def opOf (k x y : Int) : Int := if k = 5 then x + y else if k = 6 then x - y else x * y
def min4 (a b c d : Int) : Int := min (min (min a b) c) d
def max4 (a b c d : Int) : Int := max (max (max a b) c) d
def hull (a b c d : Int) : Sp := if inNum (min4 a b c d) ∧ inNum (max4 a b c d) then ⟨false, min4 a b c d, max4 a b c d⟩ else ⟨false, -2147483648, 2147483647⟩
def doSp (k : Int) (s t : Sp) : Sp := if s.n || t.n then ⟨true, 0, 0⟩ else hull (opOf k s.lo t.lo) (opOf k s.lo t.hi) (opOf k s.hi t.lo) (opOf k s.hi t.hi)

def zeroSp : Sp := ⟨false, 0, 0⟩
end
section

theorem do_ok {k : Int} {s t : Sp} (hs : s.Ok) (ht : t.Ok) : (doSp k s t).Ok := by
 unfold doSp
 split
 ·exact ⟨by decide, by decide, fun _ => ⟨rfl, rfl⟩, Int.le_refl _⟩
 ·unfold hull
  split
  ·rename_i h
   refine ⟨h.1, h.2, fun hn => (by cases hn), ?_⟩
   unfold min4 max4
   simp only
   omega
  ·exact ⟨by decide, by decide, fun hn => (by cases hn), by decide⟩

theorem join_ok {s t : Sp} (hs : s.Ok) (ht : t.Ok) : (joinSp s t).Ok := by
 unfold joinSp
 split
 ·exact ht
 ·split
  ·exact hs
  ·obtain ⟨a, b, _, d⟩ := hs
   obtain ⟨a', b', _, d'⟩ := ht
   unfold inNum at a b a' b'
   refine ⟨?_, ?_, fun hn => (by cases hn), ?_⟩ <;> (try unfold inNum) <;> simp only <;> omega

theorem wide_ok {s t : Sp} (hs : s.Ok) (ht : t.Ok) : (wideSp s t).Ok := by
 unfold wideSp
 split
 ·exact ht
 ·split
  ·exact hs
  ·obtain ⟨a, b, _, d⟩ := hs
   obtain ⟨a', b', _, d'⟩ := ht
   unfold inNum at a b a' b'
   refine ⟨?_, ?_, fun hn => (by cases hn), ?_⟩ <;> (try unfold inNum) <;> simp only <;> (repeat' split) <;> omega
end
section

/-- A guess. -/
structure Gs where
 n : Bool
 sp : Sp
 t : Bool
 f : Bool
 s : List Int

/-- Is a thing made there? -/
def isSite (c : List Ins) (x : Int) : Bool := decide (0 ≤ x) && (decide (x < c.length) && decide ((c.getD x.toNat ⟨0, 0, 0, 0, 0, 0⟩).k = 11))

def rising : List Int → Bool
 | [] => true
 | [_] => true
 | a :: b :: r => decide (a < b) && rising (b :: r)

/-- What is told of a guess, in a program that is right. -/
def ckGs (c : List Ins) (g : Gs) : Int := if ckSp g.sp ≠ 0 then ckSp g.sp else if g.s.all (isSite c) = false then 5 else if rising g.s = false then 4 else 0

/-- What is told of guesses, one after the other. -/
def ckGss (c : List Ins) : List Gs → Int
 | [] => 0
 | g :: r => if ckGs c g = 0 then ckGss c r else ckGs c g

/-- .. and of the program first. -/
def ckAllG (V F : Int) (c : List Ins) (l : List Gs) : Int := if ckProg V F c = 0 then ckGss c l else ckProg V F c

/-- The sites that one of both has. -/
def siteSet (a b : List Int) : List Int := ((List.range 60).map fun n : Nat => (n : Int)).filter fun x => a.contains x || b.contains x

def joinGs (wide : Bool) (g h : Gs) : Gs := ⟨g.n || h.n, if wide then wideSp g.sp h.sp else joinSp g.sp h.sp, g.t || h.t, g.f || h.f, siteSet g.s h.s⟩
def inGs (g h : Gs) : Bool := !(g.n && !h.n) && (!(g.t && !h.t) && (!(g.f && !h.f) && (spIn g.sp h.sp && g.s.all fun x => h.s.contains x)))
def yesGs (g : Gs) : Bool := (!g.sp.n && !decide (g.sp.lo = 0 ∧ g.sp.hi = 0)) || (g.t || decide (0 < g.s.length))
def noGs (g : Gs) : Bool := g.sp.has 0 || (g.n || g.f)
def otherGs (g : Gs) : Bool := g.n || (g.t || (g.f || decide (0 < g.s.length)))
def nothingGs (g : Gs) : Bool := g.sp.n && !otherGs g
def noneG : Gs := ⟨false, ⟨true, 0, 0⟩, false, false, []⟩
def zeroG : Gs := ⟨false, ⟨false, 0, 0⟩, false, false, []⟩
def b2n (b : Bool) : Nat := if b then 1 else 0
def singleGs (g : Gs) : Bool := decide (b2n g.n + b2n (!g.sp.n) + b2n g.t + b2n g.f = 1) && (decide (g.sp.lo = g.sp.hi) && decide (g.s.length = 0))
def alikeGs (g h : Gs) : Bool := singleGs g && (singleGs h && (g.n == h.n && (@decide _ (g.sp.dq h.sp) && (g.t == h.t && g.f == h.f))))

/-- What comes of two guesses, and whether it may be wrong. -/
def doGs (k : Int) (g h : Gs) : Gs × Bool :=
 if k = 4 then (g, false)
 else if k = 10 then (⟨false, ⟨true, 0, 0⟩, noGs g, yesGs g, []⟩, false)
 else if nothingGs g || nothingGs h then (noneG, false)
 else if k = 9 then (⟨false, ⟨true, 0, 0⟩, (g.n && h.n) || (!(meetSp g.sp h.sp).n || ((g.t && h.t) || ((g.f && h.f) || g.s.any fun x => h.s.contains x))), !alikeGs g h, []⟩, false)
 else if k = 8 then (⟨false, ⟨true, 0, 0⟩, !(g.sp.n || h.sp.n) && decide (g.sp.lo < h.sp.hi), !(g.sp.n || h.sp.n) && decide (h.sp.lo ≤ g.sp.hi), []⟩, otherGs g || otherGs h)
 else (⟨false, doSp k g.sp h.sp, false, false, []⟩, otherGs g || otherGs h)
end
section
set_option maxHeartbeats 1000000
set_option maxRecDepth 100000
open Go.RowKit

/-- A span as the program holds it. -/
abbrev sv (s : Sp) : Value := .agg #[.bool s.n, .int .i64 s.lo, .int .i64 s.hi]

theorem beyond_any (n : Int) (w : World) :
  Calls Tryz.prog 163 #[.int .i64 n] w fun e w' => e = .returned (.bool (!decide (inNum n))) ∧ w' = w := by
 have e1 : decide (inNum n) = (decide (-2147483648 ≤ n) && decide (n ≤ 2147483647)) := by unfold inNum; exact Bool.decide_and _ _
 rw [e1]
 by_cases h1 : n < -2147483648
 ·go_enter Tryz.func163, Tryz.ntmps163
  go_wp2
  go_ret
  exact ⟨ret_bool (by simp <;> omega), rfl⟩
 ·by_cases h2 : n > 2147483647
  ·go_enter Tryz.func163, Tryz.ntmps163
   go_wp2
   go_ret
   exact ⟨ret_bool (by simp <;> omega), rfl⟩
  ·go_enter Tryz.func163, Tryz.ntmps163
   go_wp2
   go_ret
   exact ⟨ret_bool (by simp <;> omega), rfl⟩

theorem none_eq (w : World) :
  Calls Tryz.prog 139 #[] w fun e w' => e = .returned (sv ⟨true, 0, 0⟩) ∧ w' = w.alloc (.cells #[.bool true, .int .i64 0, .int .i64 0] 58) := by
 go_enter Tryz.func139, Tryz.ntmps139
 go_wp2
 go_returns
 exact ⟨rfl, by simp [go_sem]⟩

theorem none_any (w : World) :
  Calls Tryz.prog 139 #[] w fun e w' => e = .returned (sv ⟨true, 0, 0⟩) ∧ Below w.heap.size w w' := by
 refine (none_eq w).mono ?_
 rintro e w' ⟨rfl, rfl⟩
 exact ⟨rfl, by go_grown⟩

theorem all_eq (w : World) :
  Calls Tryz.prog 164 #[] w fun e w' => e = .returned (sv ⟨false, -2147483648, 2147483647⟩) ∧ w' = w.alloc (.cells #[.bool false, .int .i64 (-2147483648), .int .i64 2147483647] 58) := by
 go_enter Tryz.func164, Tryz.ntmps164
 go_wp2
 go_returns
 exact ⟨rfl, by simp [go_sem]⟩

theorem add_any (n m : Int) (w : World) (h : wrap64 (n + m) = n + m) :
  Calls Tryz.prog 146 #[.int .i64 n, .int .i64 m] w fun e w' => e = .returned (.int .i64 (n + m)) ∧ w' = w := by
 go_enter Tryz.func146, Tryz.ntmps146
 go_wp2
 go_ret
 exact ⟨ret_int h, rfl⟩

theorem sub_any (n m : Int) (w : World) (h : wrap64 (n - m) = n - m) :
  Calls Tryz.prog 147 #[.int .i64 n, .int .i64 m] w fun e w' => e = .returned (.int .i64 (n - m)) ∧ w' = w := by
 go_enter Tryz.func147, Tryz.ntmps147
 go_wp2
 go_ret
 exact ⟨ret_int h, rfl⟩

theorem mul_any (n m : Int) (w : World) (h : wrap64 (n * m) = n * m) :
  Calls Tryz.prog 148 #[.int .i64 n, .int .i64 m] w fun e w' => e = .returned (.int .i64 (n * m)) ∧ w' = w := by
 go_enter Tryz.func148, Tryz.ntmps148
 go_wp2
 go_ret
 exact ⟨ret_int h, rfl⟩

theorem check_1 (n : Bool) (lo hi : Int) (w : World) (h : ¬ inNum lo) :
  Calls Tryz.prog 161 #[sv ⟨n, lo, hi⟩] w fun e w' => e = .returned (.int .i64 3) ∧ Below w.heap.size w w' := by
 have h1 : decide (inNum lo) = false := by simpa using h
 go_enter Tryz.func161, Tryz.ntmps161
 go_wp2_with (go_at_call 163; refine (beyond_any _ _).mono ?_; rintro e w' ⟨rfl, rfl⟩)
 go_ret
 exact ⟨rfl, by go_grown⟩

theorem check_2 (n : Bool) (lo hi : Int) (w : World) (h : inNum lo) (h' : ¬ inNum hi) :
  Calls Tryz.prog 161 #[sv ⟨n, lo, hi⟩] w fun e w' => e = .returned (.int .i64 3) ∧ Below w.heap.size w w' := by
 have h1 : decide (inNum lo) = true := by simpa using h
 have h2 : decide (inNum hi) = false := by simpa using h'
 go_enter Tryz.func161, Tryz.ntmps161
 go_wp2_with (go_at_call 163; refine (beyond_any _ _).mono ?_; rintro e w' ⟨rfl, rfl⟩)
 go_ret
 exact ⟨rfl, by go_grown⟩

theorem prf_95b5cc {p : Prop} (h : p := by
 go_enter Tryz.func161, Tryz.ntmps161
 go_wp2_with (go_at_call 163; refine (beyond_any _ _).mono ?_; rintro e w' ⟨rfl, rfl⟩)
 refine wp_region_quiet_below (by kernel_rfl) (by kernel_rfl) ?_
 repeat (quiet_step (exact Calls.regrown_of (none_any _)))
 refine wpQuiet_nil ?_
 intro _ hw'
 obtain ⟨⟨dq, osq⟩, hw''⟩ := hw'
 subst hw''
 go_wp2
 go_ret
 exact ⟨rfl, Below.trans (by go_grown) ((below_regrown _ dq osq).mono (by go_size))⟩) : p := h
theorem check_3a (lo hi : Int) (w : World) (h : inNum lo) (h' : inNum hi) (hz : (lo == 0) = false) :
  Calls Tryz.prog 161 #[sv ⟨true, lo, hi⟩] w fun e w' => e = .returned (.int .i64 1) ∧ Below w.heap.size w w' := by
 have h1 : decide (inNum lo) = true := by simpa using h
 have h2 : decide (inNum hi) = true := by simpa using h'
 have c0 := cell_regrown (w := w.alloc (.cells #[.bool true, .int .i64 lo, .int .i64 hi] 58)) (a := ⟨w.heap.size, 0, none⟩) (v := .bool true) (by simp [go_sem])
 have c1 := cell_regrown (w := w.alloc (.cells #[.bool true, .int .i64 lo, .int .i64 hi] 58)) (a := ⟨w.heap.size, 1, none⟩) (v := .int .i64 lo) (by simp [go_sem])
 have c2 := cell_regrown (w := w.alloc (.cells #[.bool true, .int .i64 lo, .int .i64 hi] 58)) (a := ⟨w.heap.size, 2, none⟩) (v := .int .i64 hi) (by simp [go_sem])
 exact prf_95b5cc

theorem check_3b (hi : Int) (w : World) (h' : inNum hi) (hz : (hi == 0) = false) :
  Calls Tryz.prog 161 #[sv ⟨true, 0, hi⟩] w fun e w' => e = .returned (.int .i64 1) ∧ Below w.heap.size w w' := by
 have h1 : decide (inNum 0) = true := by decide
 have h2 : decide (inNum hi) = true := by simpa using h'
 have c0 := cell_regrown (w := w.alloc (.cells #[.bool true, .int .i64 0, .int .i64 hi] 58)) (a := ⟨w.heap.size, 0, none⟩) (v := .bool true) (by simp [go_sem])
 have c1 := cell_regrown (w := w.alloc (.cells #[.bool true, .int .i64 0, .int .i64 hi] 58)) (a := ⟨w.heap.size, 1, none⟩) (v := .int .i64 0) (by simp [go_sem])
 have c2 := cell_regrown (w := w.alloc (.cells #[.bool true, .int .i64 0, .int .i64 hi] 58)) (a := ⟨w.heap.size, 2, none⟩) (v := .int .i64 hi) (by simp [go_sem])
 exact prf_95b5cc

theorem check_4  (w : World) :
  Calls Tryz.prog 161 #[sv ⟨true, 0, 0⟩] w fun e w' => e = .returned (.int .i64 0) ∧ Below w.heap.size w w' := by
 have h1 : decide (inNum 0) = true := by decide
 have c0 := cell_regrown (w := w.alloc (.cells #[.bool true, .int .i64 0, .int .i64 0] 58)) (a := ⟨w.heap.size, 0, none⟩) (v := .bool true) (by simp [go_sem])
 have c1 := cell_regrown (w := w.alloc (.cells #[.bool true, .int .i64 0, .int .i64 0] 58)) (a := ⟨w.heap.size, 1, none⟩) (v := .int .i64 0) (by simp [go_sem])
 have c2 := cell_regrown (w := w.alloc (.cells #[.bool true, .int .i64 0, .int .i64 0] 58)) (a := ⟨w.heap.size, 2, none⟩) (v := .int .i64 0) (by simp [go_sem])
 exact prf_95b5cc

theorem prf_c69b4e {p : Prop} (h : p := by
 have h1 : decide (inNum lo) = true := by simpa using h
 have h2 : decide (inNum hi) = true := by simpa using h'
 go_enter Tryz.func161, Tryz.ntmps161
 go_wp2_with (go_at_call 163; refine (beyond_any _ _).mono ?_; rintro e w' ⟨rfl, rfl⟩)
 go_quiet (fail)
 go_wp2
 go_ret
 exact ⟨rfl, below_drewN (by go_grown) _⟩) : p := h
theorem check_5 (lo hi : Int) (w : World) (h : inNum lo) (h' : inNum hi) (hz : hi < lo) :
  Calls Tryz.prog 161 #[sv ⟨false, lo, hi⟩] w fun e w' => e = .returned (.int .i64 4) ∧ Below w.heap.size w w' := prf_c69b4e

theorem check_6 (lo hi : Int) (w : World) (h : inNum lo) (h' : inNum hi) (hz : ¬ hi < lo) :
  Calls Tryz.prog 161 #[sv ⟨false, lo, hi⟩] w fun e w' => e = .returned (.int .i64 0) ∧ Below w.heap.size w w' := prf_c69b4e

theorem check_any (s : Sp) (w : World) :
  Calls Tryz.prog 161 #[sv s] w fun e w' => e = .returned (.int .i64 (ckSp s)) ∧ Below w.heap.size w w' := by
 obtain ⟨n, lo, hi⟩ := s
 unfold ckSp
 by_cases h : inNum lo
 ·by_cases h' : inNum hi
  ·rw [if_neg (by simp [h, h'])]
   cases n with
   | true =>
    by_cases hz : lo = 0
    ·subst hz
     by_cases hz' : hi = 0
     ·subst hz'
      rw [if_neg (by simp), if_neg (by simp)]
      exact check_4 w
     ·rw [if_pos (by simp [hz'])]
      exact check_3b hi w h' (by simpa using hz')
    ·rw [if_pos (by simp [hz])]
     exact check_3a lo hi w h h' (by simpa using hz)
   | false =>
    rw [if_neg (by simp)]
    by_cases hz : hi < lo
    ·rw [if_pos hz]
     exact check_5 lo hi w h h' hz
    ·rw [if_neg hz]
     exact check_6 lo hi w h h' hz
  ·rw [if_pos (by simp [h'])]
   exact check_2 n lo hi w h h'
 ·rw [if_pos (by simp [h])]
  exact check_1 n lo hi w h
end
section

/-- A picture. -/
structure Pic where
 none : Bool
 vars : List Gs
 flds : List (List Gs)

def nonePic : Pic := ⟨true, [], []⟩
def zeroPic : Pic := ⟨false, [], []⟩
/-- All guesses of a picture, in their order. -/
def allPic (x : Pic) : List Gs := x.vars ++ x.flds.flatten
def sameGs (g h : Gs) : Bool := g.n == h.n && (@decide _ (g.sp.dq h.sp) && (g.t == h.t && (g.f == h.f && decide (g.s = h.s))))
theorem sameGs_iff {g h : Gs} : sameGs g h = true ↔ g = h := by
 obtain ⟨a, b, c, d, e⟩ := g
 obtain ⟨a', b', c', d', e'⟩ := h
 simp only [sameGs, Bool.and_eq_true, beq_iff_eq, decide_eq_true_eq, Gs.mk.injEq]
/-- Is something in it? One that is not right counts, too. -/
def someGs (g : Gs) : Bool := !sameGs g noneG
/-- Has it as many guesses as it must have? -/
def formedPic (V F : Int) (c : List Ins) (x : Pic) : Bool :=
 if x.none then decide (x.vars.length = 0) && decide (x.flds.length = 0)
 else decide ((x.vars.length : Int) = V) && (decide (x.flds.length = c.length) && !(x.flds.any fun r => !decide ((r.length : Int) = F)))
/-- Is there something at an instruction that makes no things (from place i on)? -/
def strayAt (c : List Ins) (p : Gs → Bool) : Nat → List (List Gs) → Bool
 | _, [] => false
 | i, r :: l => (!isSite c i && r.any p) || strayAt c p (i + 1) l
/-- What is told of a picture, in a program that is right. -/
def ckPic (V F : Int) (c : List Ins) (x : Pic) : Int :=
 if formedPic V F c x = false then 1 else if ckGss c (allPic x) ≠ 0 then ckGss c (allPic x) else if strayAt c (fun g => !nothingGs g) 0 x.flds then 4 else 0
def ckPicL (V F : Int) (c : List Ins) : List Pic → Int
 | [] => 0
 | x :: l => if ckPic V F c x = 0 then ckPicL V F c l else ckPic V F c x
/-- .. and of the program first. -/
def ckPics (V F : Int) (c : List Ins) (l : List Pic) : Int := if ckProg V F c = 0 then ckPicL V F c l else ckProg V F c

def nullG : Gs := ⟨true, ⟨true, 0, 0⟩, false, false, []⟩
def firstPic (V F : Int) (c : List Ins) : Pic := ⟨false, List.replicate V.toNat nullG, List.replicate c.length (List.replicate F.toNat noneG)⟩
def joinRow (j : Gs → Gs → Gs) (a b : List Gs) : List Gs := List.zipWith j a b
def joinPic (j : Gs → Gs → Gs) (x y : Pic) : Pic := if x.none then y else if y.none then x else ⟨false, joinRow j x.vars y.vars, List.zipWith (joinRow j) x.flds y.flds⟩
theorem ckGss_all {c : List Ins} : ∀ {l : List Gs}, ckGss c l = 0 → ∀ g ∈ l, ckGs c g = 0
 | [], _, g, hg => by simp at hg
 | a :: r, h, g, hg => by
  unfold ckGss at h
  split at h
  ·rename_i h1
   rcases List.mem_cons.1 hg with rfl | hg
   ·exact h1
   ·exact ckGss_all h g hg
  ·contradiction
/-- In a right guess it is the same whether it may be something or is not nothing. -/
theorem someGs_of {c : List Ins} {g : Gs} (h : ckGs c g = 0) : someGs g = !nothingGs g := by
 have hs : ckSp g.sp = 0 := by
  unfold ckGs at h
  split at h
  ·exact h
  ·rename_i h1; simpa using h1
 have hok := ckSp_ok.1 hs
 obtain ⟨n, ⟨sn, lo, hi⟩, t, f, s⟩ := g
 have h3 := hok.2.2.1
 simp only at h3
 unfold someGs nothingGs otherGs sameGs noneG
 cases sn with
 | false => simp
 | true =>
  obtain ⟨e1, e2⟩ := h3 rfl
  subst e1 e2
  cases n <;> cases t <;> cases f <;> cases s <;> simp
theorem strayAt_congr {c : List Ins} {p q : Gs → Bool} : ∀ {l : List (List Gs)} {i : Nat}, (∀ r ∈ l, ∀ g ∈ r, p g = q g) → strayAt c p i l = strayAt c q i l
 | [], _, _ => rfl
 | r :: l, i, h => by
  unfold strayAt
  rw [strayAt_congr (l := l) fun r' hr' => h r' (List.mem_cons_of_mem _ hr')]
  have : r.any p = r.any q := by
   have h1 := h r List.mem_cons_self
   clear h
   induction r with
   | nil => rfl
   | cons a r ih =>
    simp only [List.any_cons]
    rw [h1 a List.mem_cons_self, ih fun g hg => h1 g (List.mem_cons_of_mem _ hg)]
  rw [this]
/-- By the program's own test, too. -/
theorem ckPic_some (V F : Int) (c : List Ins) (x : Pic) : ckPic V F c x = if formedPic V F c x = false then 1 else if ckGss c (allPic x) ≠ 0 then ckGss c (allPic x) else if strayAt c someGs 0 x.flds then 4 else 0 := by
 unfold ckPic
 by_cases h1 : formedPic V F c x = false
 ·rw [if_pos h1, if_pos h1]
 rw [if_neg h1, if_neg h1]
 by_cases h2 : ckGss c (allPic x) ≠ 0
 ·rw [if_pos h2, if_pos h2]
 rw [if_neg h2, if_neg h2]
 have h3 : ckGss c (allPic x) = 0 := by simpa using h2
 rw [strayAt_congr (p := someGs) (q := fun g => !nothingGs g) fun r hr g hg => someGs_of (ckGss_all h3 g ?_)]
 unfold allPic
 rw [List.mem_append, List.mem_flatten]
 exact .inr ⟨r, hr, hg⟩
end
section
open Go.RowKit Go.ChangeShapes Go.WideShapes Go.Joins Go.Deep

section
variable {H : Type} {enc : TypeId × Value → H} {P : Program} {w : World} {base : Nat} {spare : Nat → Bool} {held : Bool}

theorem choose_to {α : Type} (inh : Nonempty α) {len : Nat} {R : Nat → α → Prop} (h : ∀ i, i < len → ∃ q, R i q) : ∃ f : Nat → α, ∀ i, i < len → R i (f i) := by
 refine ⟨fun i => if hi : i < len then Classical.choose (h i hi) else Classical.choice inh, fun i hi => ?_⟩
 simp only [dif_pos hi]
 exact Classical.choose_spec (h i hi)

/-- A slice of elements, each of them read by its own law. -/
theorem read_list {α : Type} {t e : TypeId} {n : Nat} (hn : 0 < n) (ht : P.underlying t = some (.slice e)) (hcn : P.cellsOf e = n) (Q : α → List Value → Prop) (inh : Nonempty α)
  (each : ∀ fuel cs x, DataW.trod enc P w base spare held fuel e cs = some x → ∃ q, Q q cs) {fuel : Nat} {v : Value} {x : DataW H × List MemPlace} (h : DataW.trod enc P w base spare held fuel t [v] = some x) :
  ∃ (s : Option Addr) (cap : Nat) (l : List α), v = .slice s l.length cap ∧ l.length ≤ cap ∧ cap ≤ maxLen ∧ (l = [] ∨ ∃ b off, s = some ⟨b, off, none⟩ ∧ b < w.heap.size ∧ ∀ k (hk : k < l.length), ∃ cs, (∀ j, j < n → w.cell? ⟨b, off + k * n + j, none⟩ = cs[j]?) ∧ Q l[k] cs) ∧
   (l ≠ [] → ∃ m, l.length ≤ m ∧ m * P.bytesOf e ∈ x.1.weights P t) := by
 rcases open_slice ht h with ⟨hv, _⟩ | ⟨a, len, cap, m, n', D, Pl, hv, hb, hl, hm, hmm, hx, hi⟩
 ·simp at hv
  subst hv
  exact ⟨none, 0, [], rfl, Nat.le_refl _, by unfold maxLen; omega, .inl rfl, fun h => absurd rfl h⟩
 ·simp at hv
  subst hv
  have hlm : len ≤ m := by rw [hmm]; split <;> omega
  have ea : ∀ i, i < len → ∃ q : α, ∃ cs, (∀ j, j < n → w.cell? (a.add (i * n + j)) = cs[j]?) ∧ cs.length = n ∧ Q q cs := by
   intro i hil
   obtain ⟨cs', h1, h2⟩ := hi i (by omega)
   rw [hcn] at h1
   obtain ⟨_, hlen, hcell⟩ := World.cells?_some h1
   obtain ⟨q, hq⟩ := each _ _ _ h2
   refine ⟨q, cs', fun j hj => ?_, hlen, hq⟩
   rw [← Deep.add_add]
   exact hcell j hj
  obtain ⟨f, hf⟩ := choose_to inh ea
  refine ⟨some a, cap, (List.range len).map f, by simp, by simpa using hl, hm, ?_, fun _ => ⟨m, by simpa using hlm, ?_⟩⟩
  ·by_cases h0 : len = 0
   ·left; subst h0; rfl
   ·right
    obtain ⟨cs0, hc0, hn0, -⟩ := hf 0 (by omega)
    have ha := hc0 0 hn
    rw [List.getElem?_eq_getElem (by omega)] at ha
    simp [Addr.add] at ha
    obtain ⟨b, off, sp⟩ := a
    have hsp : sp = none := by
     cases sp with
     | none => rfl
     | some z => simp [World.cell?] at ha; split at ha <;> simp_all
    subst hsp
    refine ⟨b, off, rfl, World.block_lt_of_cell? w _ ha, fun k hk => ?_⟩
    have hkl : k < len := by simpa using hk
    obtain ⟨cs, hc, hn, hq⟩ := hf k hkl
    have pl : ∀ n, (⟨b, off, none⟩ : Addr).add n = ⟨b, off + n, none⟩ := fun n => by unfold Addr.add; split <;> simp_all
    refine ⟨cs, fun j hj => ?_, by simpa using hq⟩
    have := hc j hj
    rw [pl] at this
    rw [Nat.add_assoc]
    exact this
  ·subst hx
   simp only [DataW.weights, ht, List.length_map, List.length_range]
   have : len + (m - len) = m := by omega
   rw [this]
   exact List.mem_cons_self
end
end
section
open Go

section
variable {P : Program} {ops : Array Oper} {Q : Exit → Act → World → Prop} {md : Region.Mode} {S : World → Prop} {zs : List Nat}

/-- Whatever order is picked from here on, and S holds behind every operation that is carried out, but for those of zs. -/
def wpAnyZ (P : Program) (md : Region.Mode) (ops : Array Oper) (Q : Exit → Act → World → Prop) (S : World → Prop) (zs : List Nat) : Nat → Array Bool → Act → World → Prop
 | 0, listed, a, w => Region.ready md ops listed = [] ∧ Q .normal a w
 | fuel + 1, listed, a, w =>
  (Region.ready md ops listed = [] → Q .normal a w) ∧
  ∀ i ∈ Region.ready md ops listed, wpOp P ops Q i (fun a' w' => (i ∉ zs → S w') ∧ wpAnyZ P md ops Q S zs fuel (listed.setIfInBounds i true) a' w') a w

theorem wpAny_of_z : ∀ (fuel : Nat) (listed : Array Bool) (a : Act) (w : World), wpAnyZ P md ops Q S zs fuel listed a w → wpAny P md ops Q fuel listed a w
 | 0, _, _, _, h => h
 | fuel + 1, _, _, _, h => ⟨h.1, fun i hi => wpOp_mono (fun a' w' h' => wpAny_of_z fuel _ a' w' h'.2) (h.2 i hi)⟩

/-- Those that wait for number i, through others too. -/
def waitsOf (md : Region.Mode) (ops : Array Oper) (i : Nat) : Nat → List Nat → List Nat
 | 0, ws => ws
 | n + 1, ws => waitsOf md ops i n ((List.range ops.size).filter fun x => ((ops[x]?).map fun o => o.after.any fun e => Region.binds md e && (e.on == i || ws.contains e.on)).getD false)
def waitsOk (md : Region.Mode) (ops : Array Oper) (listed : Array Bool) (i : Nat) (ws : List Nat) : Bool :=
 ws.all fun x => !(listed.getD x true) && ((ops[x]?).map fun o => o.after.any fun e => Region.binds md e && (e.on == i || ws.contains e.on)).getD false
def zOk (md : Region.Mode) (ops : Array Oper) (listed : Array Bool) (i : Nat) (zs : List Nat) : Bool :=
 !zs.contains i && (let ws := waitsOf md ops i 8 []; waitsOk md ops listed i ws && zs.all fun z => listed.getD z true || ws.contains z)

theorem wpAnyZ_first {i : Nat} {oi : Oper} {v : Value} (hi : ops[i]? = some oi) (hsel : ∀ (j : Nat) (o : Oper) cs b, ops[j]? = some o → o.op ≠ .select cs b)
  (hQ : ∀ c a w, Q (.panic c) (a.put oi.dst v) w → Q (.panic c) a w) (hiz : i ∉ zs) (ws : List Nat)
  (hws : ∀ x ∈ ws, ∀ o, ops[x]? = some o → ∃ e ∈ o.after, Region.binds md e = true ∧ (e.on = i ∨ e.on ∈ ws)) :
  ∀ (fuel : Nat) (listed : Array Bool) (a : Act) (w : World),
   (∀ j oj, ops[j]? = some oj → j ≠ i → listed.getD j true = false → (∀ e ∈ oj.after, Region.binds md e = true → e.on ≠ i) → oi.apart ops oj = true) →
   (∀ x ∈ ws, listed.getD x true = false) → (∀ z ∈ zs, listed.getD z true = true ∨ z ∈ ws) →
   i ∈ Region.ready md ops listed → YieldsIf P ops S oi v a → S w →
   wpAnyZ P md ops Q S zs fuel (listed.setIfInBounds i true) (a.put oi.dst v) w → wpAnyZ P md ops Q S zs (fuel + 1) listed a w := by
 intro fuel
 induction fuel with
 | zero =>
  intro listed a w _ _ _ hr hy hS H
  refine ⟨fun h => (by rw [h] at hr; cases hr), fun j hj => ?_⟩
  by_cases hji : j = i
  ·subst hji; exact hy.wpOp hi hS ⟨fun _ => hS, H⟩
  ·have := ready_mono hj hji
   rw [H.1] at this
   cases this
 | succ fuel ih =>
  intro listed a w hfree hun hzs hr hy hS H
  refine ⟨fun h => (by rw [h] at hr; cases hr), fun j hj => ?_⟩
  by_cases hji : j = i
  ·subst hji; exact hy.wpOp hi hS ⟨fun _ => hS, H⟩
  ·have h1 := H.2 j (ready_mono hj hji)
   obtain ⟨hjun, oj, hoj, hall⟩ := mem_ready.1 hj
   have h0 := (mem_ready.1 hr).1
   have hf : ∀ x, listed.getD x true = false → listed.getD x false = false := fun x hx => by
    rcases Nat.lt_or_ge x listed.size with h' | h'
    ·simp [h'] at hx ⊢; exact hx
    ·simp [Array.getElem?_eq_none h'] at hx
   have hjw : j ∉ ws := fun hj' => by
    obtain ⟨e, he, hb, hon⟩ := hws j hj' oj hoj
    have h2 := hall e he hb
    rcases hon with hon | hon
    ·rw [hon, hf i h0] at h2; cases h2
    ·rw [hf _ (hun _ hon)] at h2; cases h2
   have hjz : j ∉ zs := fun hj' => by
    rcases hzs j hj' with h | h
    ·rw [h] at hjun; cases hjun
    ·exact hjw h
   have hnot : ∀ e ∈ oj.after, Region.binds md e = true → e.on ≠ i := fun e he hb heq => by
    have h2 := hall e he hb
    rw [heq, hf i h0] at h2
    cases h2
   have h2 := wpOp_putIf hoj (hfree j oj hoj hji hjun hnot) (fun cs b => hsel i oi cs b hi) (fun cs b => hsel j oj cs b hoj) hQ hy h1
   have hset : ∀ k, (listed.setIfInBounds j true).getD k true = false → listed.getD k true = false := fun k hk => by
    by_cases hjk : j = k
    ·subst hjk; exact hjun
    ·rw [getD_set_ne true hjk] at hk; exact hk
   have hfree' : ∀ k ok, ops[k]? = some ok → k ≠ i → (listed.setIfInBounds j true).getD k true = false →
     (∀ e ∈ ok.after, Region.binds md e = true → e.on ≠ i) → oi.apart ops ok = true := fun k ok hk hki hun' hno => hfree k ok hk hki (hset k hun') hno
   refine wpOp_mono (fun a' w' h3 => ⟨h3.2.1, ih (listed.setIfInBounds j true) a' w' hfree' (fun x hx => ?_) (fun z hz => ?_) (ready_mono hr (Ne.symm hji)) h3.1 (h3.2.1 hjz) ?_⟩) h2
   ·rw [getD_set_ne true (fun e => hjw (by rw [e]; exact hx))]; exact hun x hx
   ·rcases hzs z hz with h | h
    ·left
     by_cases hjk : j = z
     ·exact absurd (hjk ▸ hz) hjz
     ·rw [getD_set_ne true hjk]; exact h
    ·exact .inr h
   ·rw [Array.setIfInBounds_comm _ _ hji]
    exact h3.2.2

theorem wpAnyZ_take {i : Nat} {oi : Oper} {v : Value} {fuel : Nat} {listed : Array Bool} {a : Act} {w : World} (hi : ops[i]? = some oi)
  (hs : Region.noSelect ops = true) (hf : (Region.free md ops listed i && zOk md ops listed i zs) = true) (hr : (Region.ready md ops listed).contains i = true)
  (hQ : ∀ c a w, Q (.panic c) (a.put oi.dst v) w → Q (.panic c) a w) (hy : YieldsIf P ops S oi v a) (hS : S w)
  (h : wpAnyZ P md ops Q S zs fuel (listed.setIfInBounds i true) (a.put oi.dst v) w) : wpAnyZ P md ops Q S zs (fuel + 1) listed a w := by
 rw [Bool.and_eq_true] at hf
 obtain ⟨hf, hz⟩ := hf
 simp only [zOk, Bool.and_eq_true, waitsOk, List.all_eq_true, Bool.not_eq_true', Bool.or_eq_true] at hz
 obtain ⟨hz1, hz2, hz3⟩ := hz
 refine wpAnyZ_first hi (Region.noSelect_spec hs) hQ (by simpa using hz1) (waitsOf md ops i 8 []) (fun x hx o ho => ?_) fuel listed a w (Region.free_spec hi hf) (fun x hx => (hz2 x hx).1) (fun z hz => ?_) (by simpa using hr) hy hS h
 ·have := (hz2 x hx).2
  rw [ho] at this
  simp only [Option.map_some, Option.getD_some, Array.any_eq_true, Bool.and_eq_true, Bool.or_eq_true, beq_iff_eq] at this
  obtain ⟨k, hk, hb, hon⟩ := this
  exact ⟨_, Array.getElem_mem hk, hb, hon.imp id (by simp)⟩
 ·rcases hz3 z hz with h | h
  ·exact .inl h
  ·exact .inr (by simpa using h)

theorem wpAnyZ_done {listed : Array Bool} {a : Act} {w : World} (hr : Region.ready md ops listed = []) (h : Q .normal a w) :
  ∀ fuel, wpAnyZ P md ops Q S zs fuel listed a w
 | 0 => ⟨hr, h⟩
 | _ + 1 => ⟨fun _ => h, by rw [hr]; simp⟩

/-- The operation that alone may come up is carried out; behind it S is shown anew. -/
theorem wpAnyZ_one {i : Nat} {o : Oper} {fuel : Nat} {listed : Array Bool} {a : Act} {w : World} (ho : ops[i]? = some o) (hr : Region.ready md ops listed = [i])
  (h : ∀ K' : Act → World → Prop, Shut (∀ a w, S w → (S w → wpAnyZ P md ops Q S zs fuel (listed.setIfInBounds i true) a w) → K' a w) → if Region.wanted o (yielded ops a.tmps) = true then Oper.wp P o a w K' Q else K' (a.put o.dst undef) w) :
  wpAnyZ P md ops Q S zs (fuel + 1) listed a w := by
 refine ⟨fun h0 => (by rw [hr] at h0; cases h0), fun j hj => ?_⟩
 rw [hr] at hj
 obtain rfl : j = i := by simpa using hj
 exact wpOp_step ho (fun K' hK => h K' (fun a w hS hW => hK a w ⟨fun _ => hS, hW hS⟩))
/-- Of two that may come up whichever comes first. -/
theorem wpAnyZ_two {i j : Nat} {oi oj : Oper} {fuel : Nat} {listed : Array Bool} {a : Act} {w : World} (hoi : ops[i]? = some oi) (hoj : ops[j]? = some oj) (hr : Region.ready md ops listed = [i, j])
  (h : ∀ K' : Act → World → Prop, Shut (∀ a w, S w → (S w → wpAnyZ P md ops Q S zs fuel (listed.setIfInBounds i true) a w) → K' a w) → if Region.wanted oi (yielded ops a.tmps) = true then Oper.wp P oi a w K' Q else K' (a.put oi.dst undef) w)
  (h' : ∀ K' : Act → World → Prop, Shut (∀ a w, S w → (S w → wpAnyZ P md ops Q S zs fuel (listed.setIfInBounds j true) a w) → K' a w) → if Region.wanted oj (yielded ops a.tmps) = true then Oper.wp P oj a w K' Q else K' (a.put oj.dst undef) w) :
  wpAnyZ P md ops Q S zs (fuel + 1) listed a w := by
 refine ⟨fun h0 => (by rw [hr] at h0; cases h0), fun k hk => ?_⟩
 rw [hr] at hk
 rcases List.mem_cons.1 hk with rfl | hk
 ·exact wpOp_step hoi (fun K' hK => h K' (fun a w hS hW => hK a w ⟨fun _ => hS, hW hS⟩))
 ·obtain rfl : k = j := by simpa using hk
  exact wpOp_step hoj (fun K' hK => h' K' (fun a w hS hW => hK a w ⟨fun _ => hS, hW hS⟩))
/-- .. and one of the last stores. -/
theorem wpAnyZ_last {i : Nat} {o : Oper} {fuel : Nat} {listed : Array Bool} {a : Act} {w : World} (ho : ops[i]? = some o) (hr : Region.ready md ops listed = [i]) (hz : zs.contains i = true)
  (h : ∀ K' : Act → World → Prop, Shut (∀ a w, wpAnyZ P md ops Q S zs fuel (listed.setIfInBounds i true) a w → K' a w) → if Region.wanted o (yielded ops a.tmps) = true then Oper.wp P o a w K' Q else K' (a.put o.dst undef) w) :
  wpAnyZ P md ops Q S zs (fuel + 1) listed a w := by
 refine ⟨fun h0 => (by rw [hr] at h0; cases h0), fun j hj => ?_⟩
 rw [hr] at hj
 obtain rfl : j = i := by simpa using hj
 exact wpOp_step ho (fun K' hK => h K' (fun a w hW => hK a w ⟨fun hn => absurd (by simpa using hz) hn, hW⟩))

theorem wp_region_z {id : Nat} {a : Act} {w : World} (zs : List Nat) (hm : P.follows .mixedOrders = true) (hS : S w.drew)
  (h : S w.drew → wpAnyZ P .any ops Q S zs ops.size (Array.replicate ops.size false) a w.drew) : (Code.region id ops true).wp P Q a w :=
 wp_region_any hm (wpAny_of_z _ _ _ _ (h hS))
end
end
section
open Go
/-- A goal goes on in fewer signs. -/
theorem sm {p q : Prop} (h : q) (e : q → p := by (intro h; (try simp only [Act.put, List.getElem_toArray, List.getElem_cons_zero, List.getElem_cons_succ, List.setIfInBounds_toArray, List.set_cons_zero, List.set_cons_succ]); exact h)) : p := e h
section
variable {P : Program} {ops : Array Oper} {Q : Exit → Act → World → Prop} {md : Region.Mode} {S : World → Prop} {zs : List Nat}
theorem tZ (i : Nat) {oi : Oper} (v : Value) {fuel : Nat} {listed : Array Bool} {a : Act} {w : World}
  (h : wpAnyZ P md ops Q S zs fuel (listed.setIfInBounds i true) (a.put oi.dst v) w) (hi : ops[i]? = some oi := by rfl) (hy : ∀ w, S w → (execOp a.eval oi).run P w = .ok (.value v) w := by (intro w hSw; (try dsimp only at hSw); first | (go_simp; done) | (go_simp; with_reducible rfl)))
  (hs : Region.noSelect ops = true := by kernel_rfl) (hf : (Region.free md ops listed i && zOk md ops listed i zs) = true := by kernel_rfl) (hr : (Region.ready md ops listed).contains i = true := by kernel_rfl)
  (hQ : ∀ c a w, Q (.panic c) (a.put oi.dst v) w → Q (.panic c) a w := by exact fun _ _ _ h => h) (hw : Region.wanted oi (yielded ops a.tmps) = true := by rfl) (hS : S w := by assumption) : wpAnyZ P md ops Q S zs (fuel + 1) listed a w :=
 wpAnyZ_take hi hs hf hr hQ (.inl ⟨hw, hy⟩) hS h
theorem tH (i : Nat) {oi : Oper} (v : Value) {fuel : Nat} {listed : Array Bool} {a : Act} {w : World}
  (h : wpAnyH P md ops Q S fuel (listed.setIfInBounds i true) (a.put oi.dst v) w) (hi : ops[i]? = some oi := by rfl) (hy : ∀ w, S w → (execOp a.eval oi).run P w = .ok (.value v) w := by (intro w hSw; (try dsimp only at hSw); first | (go_simp; done) | (go_simp; with_reducible rfl)))
  (hs : Region.noSelect ops = true := by kernel_rfl) (hf : Region.free md ops listed i = true := by kernel_rfl) (hr : (Region.ready md ops listed).contains i = true := by kernel_rfl)
  (hQ : ∀ c a w, Q (.panic c) (a.put oi.dst v) w → Q (.panic c) a w := by exact fun _ _ _ h => h) (hw : Region.wanted oi (yielded ops a.tmps) = true := by rfl) (hS : S w := by assumption) : wpAnyH P md ops Q S (fuel + 1) listed a w :=
 wpAnyH_take hi hs hf hr hQ (.inl ⟨hw, hy⟩) hS h
theorem uH (i : Nat) {oi : Oper} {fuel : Nat} {listed : Array Bool} {a : Act} {w : World}
  (h : wpAnyH P md ops Q S fuel (listed.setIfInBounds i true) (a.put oi.dst undef) w) (hi : ops[i]? = some oi := by rfl)
  (hs : Region.noSelect ops = true := by kernel_rfl) (hf : Region.free md ops listed i = true := by kernel_rfl) (hr : (Region.ready md ops listed).contains i = true := by kernel_rfl)
  (hQ : ∀ c a w, Q (.panic c) (a.put oi.dst undef) w → Q (.panic c) a w := by exact fun _ _ _ h => h) (hw : Region.wanted oi (yielded ops a.tmps) = false := by rfl) (hS : S w := by assumption) : wpAnyH P md ops Q S (fuel + 1) listed a w :=
 wpAnyH_take hi hs hf hr hQ (.inr ⟨hw, rfl⟩) hS h
end
end
section
set_option maxHeartbeats 1000000
open Go.RowKit

theorem sameInts_loop (b1 o1 c1 b2 o2 c2 : Nat) (l : List Int) (w : World) (h63 : l.length ≤ maxLen) (b1lt : b1 < w.heap.size) (b2lt : b2 < w.heap.size)
  (h1 : ∀ k (h : k < l.length), w.cell? ⟨b1, o1 + k, none⟩ = some (.int .i64 l[k])) (h2 : ∀ k (h : k < l.length), w.cell? ⟨b2, o2 + k, none⟩ = some (.int .i64 l[k])) :
  Calls Tryz.prog 129 #[.slice (some ⟨b1, o1, none⟩) l.length c1, .slice (some ⟨b2, o2, none⟩) l.length c2] w fun e w' => e = .returned (.bool true) ∧ Below w.heap.size w w' := by
 unfold maxLen at h63
 go_enter Tryz.func129, Tryz.ntmps129
 go_wp2
 go_loopw [5] (fun i wr => ∃ k : Nat, k ≤ l.length ∧ i = .int .i64 k ∧ Below w.heap.size w wr) (fun i _ => l.length - (intOf i).toNat)
 case atStart => exact ⟨0, Nat.zero_le _, rfl, Below.refl _ _⟩
 case round =>
  obtain ⟨k, hk, rfl, hb⟩ := hrel
  by_cases hlt : k < l.length
  ·have n0 : (0 : Int) ≤ (k : Int) := by omega
   have n1 : (k : Int) < (l.length : Int) := by omega
   have q0 : wr.cell? ⟨b1, o1 + k, none⟩ = some (.int .i64 l[k]) := by rw [hb.cell (p := ⟨b1, _, none⟩) b1lt]; exact h1 k hlt
   have r0 : wr.cell? ⟨b2, o2 + k, none⟩ = some (.int .i64 l[k]) := by rw [hb.cell (p := ⟨b2, _, none⟩) b2lt]; exact h2 k hlt
   clear h1 h2
   go_wp2
   go_quiet (fail)
   go_wp2
   go_roundw
   case rel => exact ⟨k + 1, by omega, by go_num, below_drewN hb _⟩
   case measure => simp [intOf]; omega
  ·go_wp2
   go_ret
   exact ⟨rfl, hb⟩

theorem sameInts_nil (s1 s2 : Option Addr) (c1 c2 : Nat) (w : World) :
  Calls Tryz.prog 129 #[.slice s1 0 c1, .slice s2 0 c2] w fun e w' => e = .returned (.bool true) ∧ Below w.heap.size w w' := by
 go_enter Tryz.func129, Tryz.ntmps129
 go_wp2
 go_rounds 1
 go_ret
 exact ⟨rfl, Below.refl _ _⟩

theorem sameInts_any (s1 s2 : Option Addr) (c1 c2 : Nat) (l : List Int) (w : World) (h63 : l.length ≤ maxLen) (h1 : IntsAt w s1 l) (h2 : IntsAt w s2 l) :
  Calls Tryz.prog 129 #[.slice s1 l.length c1, .slice s2 l.length c2] w fun e w' => e = .returned (.bool true) ∧ Below w.heap.size w w' := by
 rcases h1 with rfl | ⟨b1, o1, rfl, hb1, h1⟩
 ·exact sameInts_nil s1 s2 c1 c2 w
 ·rcases h2 with rfl | ⟨b2, o2, rfl, hb2, h2⟩
  ·exact sameInts_nil _ s2 c1 c2 w
  ·exact sameInts_loop b1 o1 c1 b2 o2 c2 l w h63 hb1 hb2 h1 h2
end
section
open Go

section
variable {P : Program} (w : World)
theorem run_append_any (t ty : TypeId) (base : Nat) (e : TypeId) (i : TypeInfo) (z : Value) (size bytes : Nat) (ht : P.underlying t = some (.slice e)) (hi : P.info? e = some i) (hz : i.zero = some z)
  (hsize : i.size = size) (hby : i.bytes = bytes) (hzs : z.cells.size = size) (hsz : 0 < size)
  (v : Value) (n : Nat) (xs : List Value) (hown : w.ownsRow base e size v n xs)
  (ao : Option Addr) (m c : Nat) (news : List Value) (hl : news.length = m * size) (hao : ao = none → m = 0) (hnews : ∀ ad, ao = some ad → ∀ j u, news[j]? = some u → w.cell? (ad.add j) = some u) (h1 : ∀ u ∈ news, u.oneCell' = true)
  (h63 : n + m ≤ maxLen) (hbytes : (n + m) * bytes ≤ 140737488355328) (hbase : base ≤ w.heap.size) :
  ∃ v' w', (Builtin.append_ #[t, t] ty #[v, .slice ao m c]).run P w = .ok v' w' ∧ w'.ownsRow base e size v' (n + m) (xs ++ news) ∧ w.grownBy w' v.ownBlock ∧ (v'.ownBlock = v.ownBlock ∨ v'.ownBlock = some w.heap.size) := by
 cases ao with
 | some ad =>
  obtain ⟨v', w', hr, h2, h3, _, h5⟩ := run_append_own_at (P := P) w base t ty e i z size bytes ht hi hz hsize hby hzs hsz v n xs hown ad m c news hl (hnews ad rfl) h1 h63 hbytes hbase
  exact ⟨v', w', hr, h2, h3, h5⟩
 | none =>
  obtain rfl := hao rfl
  obtain rfl : news = [] := List.eq_nil_of_length_eq_zero (by simpa using hl)
  refine ⟨v, w, ?_, by simpa using hown, ⟨rfl, rfl, rfl, Nat.le_refl _, fun _ _ _ => rfl⟩, .inl rfl⟩
  rcases hown.2 with ⟨rfl, rfl⟩ | ⟨g, cap, cur, rfl, _, _, hnc, _⟩
  ·simp [Builtin.append_, run_underlying ht, sizeOf, typeInfo, hi, Builtin.lenOf, Builtin.firstCells]
  ·simp [Builtin.append_, run_underlying ht, sizeOf, typeInfo, hi, Builtin.lenOf, Builtin.firstCells, hnc, storeCells]

theorem wp_append_any {o : Oper} {a : Act} {K : Act → World → Prop} {Q : Exit → Act → World → Prop} (s x : Operand) (t : TypeId)
  (ho : o.op = .call { callee := .builtin .append, args := #[s, x], argTypes := #[t, t] })
  (base : Nat) (e : TypeId) (i : TypeInfo) (z : Value) (size bytes : Nat) (ht : P.underlying t = some (.slice e)) (hi : P.info? e = some i) (hz : i.zero = some z)
  (hsize : i.size = size) (hby : i.bytes = bytes) (hzs : z.cells.size = size) (hsz : 0 < size)
  (v : Value) (n : Nat) (xs : List Value) (hs : a.eval s = v) (hown : w.ownsRow base e size v n xs)
  (ao : Option Addr) (m c : Nat) (news : List Value) (hx : a.eval x = .slice ao m c) (hl : news.length = m * size) (hao : ao = none → m = 0) (hnews : ∀ ad, ao = some ad → ∀ j u, news[j]? = some u → w.cell? (ad.add j) = some u) (h1 : ∀ u ∈ news, u.oneCell' = true)
  (h63 : n + m ≤ maxLen) (hbytes : (n + m) * bytes ≤ 140737488355328) (hbase : base ≤ w.heap.size)
  (h : ∀ v' w', w'.ownsRow base e size v' (n + m) (xs ++ news) → w.grownBy w' v.ownBlock → (v'.ownBlock = v.ownBlock ∨ v'.ownBlock = some w.heap.size) → K (a.put o.dst v') w') : o.wp P a w K Q := by
 obtain ⟨v', w', hr, h2, h3, h4⟩ := run_append_any (P := P) w t o.type base e i z size bytes ht hi hz hsize hby hzs hsz v n xs hown ao m c news hl hao hnews h1 h63 hbytes hbase
 unfold Oper.wp execOp
 simp only [ho, resolve, invoke, builtin, Sem.run_bind, Sem.run_pure, Result.andThen_ok, List.map_toArray, List.map_cons, List.map_nil, hs, hx, hr]
 exact h v' w' h2 h3 h4

theorem wpList_append_any {ops : Array Oper} {rest : List Oper} {o : Oper} {a : Act} {Q : Exit → Act → World → Prop} (hgd : o.guard = none) (s x : Operand) (t : TypeId)
  (ho : o.op = .call { callee := .builtin .append, args := #[s, x], argTypes := #[t, t] })
  (base : Nat) (e : TypeId) (i : TypeInfo) (z : Value) (size bytes : Nat) (ht : P.underlying t = some (.slice e)) (hi : P.info? e = some i) (hz : i.zero = some z)
  (hsize : i.size = size) (hby : i.bytes = bytes) (hzs : z.cells.size = size) (hsz : 0 < size)
  (v : Value) (n : Nat) (xs : List Value) (hs : a.eval s = v) (hown : w.ownsRow base e size v n xs)
  (ao : Option Addr) (m c : Nat) (news : List Value) (hx : a.eval x = .slice ao m c) (hl : news.length = m * size) (hao : ao = none → m = 0) (hnews : ∀ ad, ao = some ad → ∀ j u, news[j]? = some u → w.cell? (ad.add j) = some u) (h1 : ∀ u ∈ news, u.oneCell' = true)
  (h63 : n + m ≤ maxLen) (hbytes : (n + m) * bytes ≤ 140737488355328) (hbase : base ≤ w.heap.size)
  (h : ∀ v' w', w'.ownsRow base e size v' (n + m) (xs ++ news) → w.grownBy w' v.ownBlock → (v'.ownBlock = v.ownBlock ∨ v'.ownBlock = some w.heap.size) → wpList P ops Q rest (a.put o.dst v') w') : wpList P ops Q (o :: rest) a w :=
 wpList_plain hgd fun _ hK => wp_append_any w s x t ho base e i z size bytes ht hi hz hsize hby hzs hsz v n xs hs hown ao m c news hx hl hao hnews h1 h63 hbytes hbase fun v' w' h2 h3 h4 => hK _ _ (h v' w' h2 h3 h4)

/-- At a step of a region that draws its order. -/
theorem step_append_any {ops : Array Oper} {o : Oper} {a : Act} {K : Act → World → Prop} {Q : Exit → Act → World → Prop} {E : Prop} (hgd : o.guard = none) (s x : Operand) (t : TypeId)
  (ho : o.op = .call { callee := .builtin .append, args := #[s, x], argTypes := #[t, t] })
  (base : Nat) (e : TypeId) (i : TypeInfo) (z : Value) (size bytes : Nat) (ht : P.underlying t = some (.slice e)) (hi : P.info? e = some i) (hz : i.zero = some z)
  (hsize : i.size = size) (hby : i.bytes = bytes) (hzs : z.cells.size = size) (hsz : 0 < size)
  (v : Value) (n : Nat) (xs : List Value) (hs : a.eval s = v) (hown : w.ownsRow base e size v n xs)
  (ao : Option Addr) (m c : Nat) (news : List Value) (hx : a.eval x = .slice ao m c) (hl : news.length = m * size) (hao : ao = none → m = 0) (hnews : ∀ ad, ao = some ad → ∀ j u, news[j]? = some u → w.cell? (ad.add j) = some u) (h1 : ∀ u ∈ news, u.oneCell' = true)
  (h63 : n + m ≤ maxLen) (hbytes : (n + m) * bytes ≤ 140737488355328) (hbase : base ≤ w.heap.size)
  (h : ∀ v' w', w'.ownsRow base e size v' (n + m) (xs ++ news) → w.grownBy w' v.ownBlock → (v'.ownBlock = v.ownBlock ∨ v'.ownBlock = some w.heap.size) → K (a.put o.dst v') w') :
  if Region.wanted o (yielded ops a.tmps) = true then Oper.wp P o a w K Q else E := by
 have hw : Region.wanted o (yielded ops a.tmps) = true := by simp [Region.wanted, hgd]
 rw [if_pos hw]
 exact wp_append_any w s x t ho base e i z size bytes ht hi hz hsize hby hzs hsz v n xs hs hown ao m c news hx hl hao hnews h1 h63 hbytes hbase h
end
end
section
set_option maxHeartbeats 1000000
set_option maxRecDepth 20000
open Go.RowKit

def smallC : List Ins := [⟨1, 0, 0, 0, 5, 0⟩, ⟨18, 0, 0, 0, 0, 0⟩]

theorem small_any (w : World) :
  Calls Tryz.prog 30 #[] w fun e w' => ∃ b, e = .returned (.agg #[.int .i64 1, .int .i64 0, .slice (some ⟨b, 0, none⟩) 2 2]) ∧ CodeAt w' (some ⟨b, 0, none⟩) smallC ∧ Below w.heap.size w w' := by
 go_enter Tryz.func30, Tryz.ntmps30
 go_wp2
 refine bodyPost_ret (v := .agg #[.int .i64 1, .int .i64 0, .slice (some ⟨w.heap.size + 1, 0, none⟩) 2 2]) (by simp [results, Tryz.results30, go_sem]) rfl ⟨w.heap.size + 1, rfl, .inr ⟨_, _, rfl, by simp, ?_⟩, by go_grown⟩
 intro k hk
 match k, hk with
 | 0, _ => refine ⟨?_, ?_, ?_, ?_, ?_, ?_⟩ <;> simp [go_sem, smallC]
 | 1, _ => refine ⟨?_, ?_, ?_, ?_, ?_, ?_⟩ <;> simp [go_sem, smallC]
 | k + 2, h => simp [smallC] at h; omega
end
section
open Go.RowKit

theorem Tryz.info_int : (Tryz.prog.info? 3).map (fun i => (i.zero, i.size, i.bytes)) = some (some (.int .i64 0), 1, 8) := by kernel_rfl
end
section
open Go

theorem run_copy_rowK {P : Program} (w : World) (dT sT ty elem : TypeId) (g o dLen dCap : Nat) (a : Addr) (sLen sCap k : Nat) (cur : Array Value) (t : TypeId) (cs : List Value)
  (hu : P.underlying dT = some (.slice elem)) (hs : (P.info? elem).map (·.size) = some k)
  (hg : w.heap[g]? = some (.cells cur t (0, 0))) (hn : cs.length = Nat.min sLen dLen * k)
  (hsrc : ∀ j v, cs[j]? = some v → w.cell? (a.add j) = some v) (hfit : o + cs.length ≤ cur.size) (h1 : ∀ v ∈ cs, v.oneCell' = true) :
  (Builtin.copy_ #[dT, sT] ty #[.slice (some ⟨g, o, none⟩) dLen dCap, .slice (some a) sLen sCap]).run P w =
   .ok (goInt (Nat.min sLen dLen)) (w.setRow g (cur.toList.take o ++ cs ++ cur.toList.drop (o + cs.length)).toArray) := by
 have hl := run_loadCells_list (P := P) w a cs hsrc
 have hst := run_storeCells_at P g o t cs 0 cur w hg (by simpa using hfit) h1
 cases hq : P.info? elem with
 | none => simp [hq] at hs
 | some i =>
  have hi : i.size = k := by simpa [hq] using hs
  simp [Builtin.copy_, run_underlying hu, Builtin.lenOf, Builtin.firstCells, sizeOf, typeInfo, hq, hi, ← hn, hl, hst]
end
section
open Go.RowKit Go
section
variable {P : Program} {ops : Array Oper} {Q : Exit → Act → World → Prop} {a : Act} {w : World} {rest : List Oper} {o : Oper}
theorem tL (v : Value) (h : wpList P ops Q rest (a.put o.dst v) w) (hy : (execOp a.eval o).run P w = .ok (.value v) w := by first | (go_simp; done) | (go_simp; with_reducible rfl)) (hw : Region.wanted o (yielded ops a.tmps) = true := by rfl) : wpList P ops Q (o :: rest) a w := by
 unfold wpList
 rw [if_pos hw]
 left
 unfold Oper.wp
 rw [hy]
 exact h
theorem tLb (b : Bool) (X : Value) (h : ∀ v, Hid (v = if b = true then undef else X) → wpList P ops Q rest (a.put o.dst v) w) (h0 : b = false → Region.wanted o (yielded ops a.tmps) = true ∧ (execOp a.eval o).run P w = .ok (.value X) w) (h1 : b = true → Region.wanted o (yielded ops a.tmps) = false) : wpList P ops Q (o :: rest) a w := by
 cases b with
 | false =>
  obtain ⟨hw, hy⟩ := h0 rfl
  exact tL X (h X (by show _ = _; simp)) hy hw
 | true =>
  unfold wpList
  rw [if_neg (by rw [h1 rfl]; decide)]
  exact h _ (by show _ = _; simp)
end
end
end Go.Proofs.YtmapdpcfanecdabGreat
