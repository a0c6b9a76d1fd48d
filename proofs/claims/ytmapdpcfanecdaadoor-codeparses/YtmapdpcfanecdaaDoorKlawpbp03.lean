/- Walks over the document's own answers: the small tests. -/
import Derived.Test.YtmapdpcfanecdaaDoorProg
import Derived.WalkKit
import Derived.WalkSpells
import Derived.WalkLawsBesides
import Derived.Handy
namespace Go.Proofs.YtmapdpcfanecdaaDoor
set_option linter.unusedVariables false
set_option linter.unusedSimpArgs false

/-- Is a number from l to m? -/
def btw (n l m : Int) : Bool := decide (l ≤ n ∧ n ≤ m)
theorem btw_true {n l m : Int} (h1 : l ≤ n) (h2 : n ≤ m) : btw n l m = true := by simp [btw, h1, h2]
theorem btw_lo {n l m : Int} (h : ¬ l ≤ n) : btw n l m = false := by simp [btw, h]
theorem btw_hi {n l m : Int} (h : ¬ n ≤ m) : btw n l m = false := by simp [btw, h]

theorem btw_cases {k : Int} (h : btw k 1 19 = true) : k = 1 ∨ k = 2 ∨ k = 3 ∨ k = 4 ∨ k = 5 ∨ k = 6 ∨ k = 7 ∨ k = 8 ∨ k = 9 ∨ k = 10 ∨ k = 11 ∨ k = 12 ∨ k = 13 ∨ k = 14 ∨ k = 15 ∨ k = 16 ∨ k = 17 ∨ k = 18 ∨ k = 19 := by
  simp [btw] at h; omega

theorem btw19 (k : Int) : btw k 1 19 = (decide (1 ≤ k) && decide (k ≤ 19)) := by simp [btw]

def nTo (k : Int) : Bool := btw k 1 12 || decide (k = 14)
def nA (k : Int) : Bool := btw k 4 10 || decide (k = 12) || decide (k = 13) || decide (k = 15) || decide (k = 17) || decide (k = 18)
def nB (k : Int) : Bool := btw k 5 9 || decide (k = 13)
def nN (k : Int) : Bool := decide (k = 1) || decide (k = 2) || btw k 12 14
def nG (k : Int) : Bool := decide (k = 15) || decide (k = 16)

/-- An instruction. -/
structure Ins where
  k : Int
  to : Int
  a : Int
  b : Int
  n : Int
  g : Int

/-- What is told of an instruction of a program with V variables, F fields, L instructions. -/
def ckOne (V F L : Int) (i : Ins) : Int :=
  if btw i.k 1 19 = false then 6
  else if (nTo i.k && !btw i.to 0 (V - 1)) || (nA i.k && !btw i.a 0 (V - 1)) || (nB i.k && !btw i.b 0 (V - 1)) || ((decide (i.k = 12) || decide (i.k = 13)) && !btw i.n 0 (F - 1)) || (nG i.k && !btw i.g 0 L) then 5
  else if (decide (i.k = 1) && !btw i.n (-2147483648) 2147483647) || (decide (i.k = 2) && !btw i.n 0 1) || (decide (i.k = 14) && !btw i.n 0 1000000) then 3
  else if (!nTo i.k && decide (i.to ≠ 0)) || (!nA i.k && decide (i.a ≠ 0)) || (!nB i.k && decide (i.b ≠ 0)) || (!nN i.k && decide (i.n ≠ 0)) || (!nG i.k && decide (i.g ≠ 0)) then 1
  else 0

def ckAll (V F L : Int) : List Ins → Int
  | [] => 0
  | i :: r => if ckOne V F L i = 0 then ckAll V F L r else ckOne V F L i

/-- What is told of a program. -/
def ckProg (V F : Int) (c : List Ins) : Int :=
  if btw V 1 8 = false || btw F 0 3 = false then 3 else if 60 < c.length then 2 else ckAll V F c.length c

/-- The word of a kind, as bytes; empty: it is none. -/
def wordB : Int → ByteArray
  | 1 => ⟨#[110, 117, 109, 98, 101, 114]⟩
  | 2 => ⟨#[116, 114, 117, 116, 104]⟩
  | 3 => ⟨#[110, 117, 108, 108]⟩
  | 4 => ⟨#[99, 111, 112, 121]⟩
  | 5 => ⟨#[97, 100, 100]⟩
  | 6 => ⟨#[115, 117, 98]⟩
  | 7 => ⟨#[109, 117, 108]⟩
  | 8 => ⟨#[108, 101, 115, 115]⟩
  | 9 => ⟨#[115, 97, 109, 101]⟩
  | 10 => ⟨#[110, 111, 116]⟩
  | 11 => ⟨#[110, 101, 119]⟩
  | 12 => ⟨#[103, 101, 116]⟩
  | 13 => ⟨#[112, 117, 116]⟩
  | 14 => ⟨#[105, 110, 112, 117, 116]⟩
  | 15 => ⟨#[105, 102]⟩
  | 16 => ⟨#[103, 111, 116, 111]⟩
  | 17 => ⟨#[101, 120, 112, 101, 99, 116]⟩
  | 18 => ⟨#[112, 114, 105, 110, 116]⟩
  | 19 => ⟨#[101, 110, 100]⟩
  | _ => ⟨#[]⟩

theorem wordB_none {k : Int} (h : btw k 1 19 = false) : wordB k = ⟨#[]⟩ := by
  have : ¬ (1 ≤ k ∧ k ≤ 19) := by simpa [btw] using h
  unfold wordB
  split <;> first | rfl | omega

end Go.Proofs.YtmapdpcfanecdaaDoor

namespace Go.Proofs.YtmapdpcfanecdaaDoor
set_option linter.unusedVariables false
set_option linter.unusedSimpArgs false

structure Val where
  k : Int
  n : Int

structure Thg where
  site : Int
  fs : List Val

structure St where
  at_ : Int
  vars : List Val
  things : List Thg
  taken : Int
  lines : List ByteArray
  fin : Int

/-- A value of a run that has T things. -/
def okVal (T : Nat) (v : Val) : Prop := (v.k = 0 ∧ v.n = 0) ∨ (v.k = 1 ∧ -2147483648 ≤ v.n ∧ v.n ≤ 2147483647) ∨ (v.k = 2 ∧ (v.n = 0 ∨ v.n = 1)) ∨ (v.k = 3 ∧ 0 ≤ v.n ∧ v.n < T)

/-- What counts as true. -/
def cnt (v : Val) : Bool := decide (v.k = 3) || ((decide (v.k = 1) || decide (v.k = 2)) && decide (v.n ≠ 0))

/-- Over 2 to the power of 32. -/
def wr (n : Int) : Int := (n + 2147483648) % 4294967296 - 2147483648

def truV (b : Bool) : Val := ⟨2, if b then 1 else 0⟩

def varAt (s : St) (i : Int) : Val := s.vars.getD i.toNat ⟨0, 0⟩
def putVar (s : St) (i : Int) (v : Val) : St := { s with vars := s.vars.set i.toNat v }

/-- An input, held within -N and N. -/
def clamp (n x : Int) : Int := if x > n then n else if x < -n then -n else x

def fieldAt (s : St) (t f : Int) : Val := ((s.things.getD t.toNat ⟨0, []⟩).fs).getD f.toNat ⟨0, 0⟩
def putField (s : St) (t f : Int) (v : Val) : St := { s with things := s.things.modify t.toNat fun x => { x with fs := x.fs.set f.toNat v } }

end Go.Proofs.YtmapdpcfanecdaaDoor

namespace Go.Proofs.YtmapdpcfanecdaaDoor
set_option linter.unusedVariables false
set_option linter.unusedSimpArgs false
open Go.RowKit

theorem ret_bool {a b : Bool} (h : a = b) : Ending.returned (.bool a) = .returned (.bool b) := by rw [h]
theorem ret_int {k : IntKind} {a b : Int} (h : a = b) : Ending.returned (.int k a) = .returned (.int k b) := by rw [h]
theorem ret_str {a b : ByteArray} (h : a = b) : Ending.returned (.string a) = .returned (.string b) := by rw [h]

theorem bcell {W w1 : World} (hb : Below W.heap.size W w1) : (∀ b o, b < W.heap.size → w1.cell? ⟨b, o, none⟩ = W.cell? ⟨b, o, none⟩) ∧ (∀ b o, b < W.heap.size → w1.frozen? ⟨b, o, none⟩ = W.frozen? ⟨b, o, none⟩) :=
  ⟨fun b o h => hb.cell (p := ⟨b, o, none⟩) h, fun b o h => hb.frozen (p := ⟨b, o, none⟩) h⟩

set_option maxHeartbeats 400000 in
theorem between_any (n l m : Int) (w : World) :
    Calls Tryd.prog 36 #[.int .i64 n, .int .i64 l, .int .i64 m] w fun e w' => e = .returned (.bool (btw n l m)) ∧ w' = w := by
  by_cases h1 : l ≤ n
  · by_cases h2 : n ≤ m
    · have hb := btw_true h1 h2
      go_enter Tryd.func36, Tryd.ntmps36
      go_wp2
      go_ret
      exact ⟨ret_bool hb.symm, rfl⟩
    · have hb := btw_hi (l := l) h2
      go_enter Tryd.func36, Tryd.ntmps36
      go_wp2
      go_ret
      exact ⟨rfl, rfl⟩
  · have hb := btw_lo (m := m) h1
    go_enter Tryd.func36, Tryd.ntmps36
    go_wp2
    go_ret
    exact ⟨rfl, rfl⟩
end Go.Proofs.YtmapdpcfanecdaaDoor

namespace Go.Proofs.YtmapdpcfanecdaaDoor
set_option linter.unusedVariables false
set_option linter.unusedSimpArgs false
open Go.RowKit

set_option maxHeartbeats 400000 in
theorem namesTo_any (k : Int) (w : World) :
    Calls Tryd.prog 57 #[.int .i64 k] w fun e w' => e = .returned (.bool (nTo k)) ∧ w' = w := by
  unfold nTo
  go_enter Tryd.func57, Tryd.ntmps57
  go_wp2_with (go_at_call 36; refine (between_any _ _ _ _).mono ?_; rintro e w' ⟨rfl, rfl⟩)
  all_goals go_ret
  all_goals exact ⟨ret_bool (by simp_all [BEq.beq]), rfl⟩

set_option maxHeartbeats 400000 in
theorem namesA_any (k : Int) (w : World) :
    Calls Tryd.prog 51 #[.int .i64 k] w fun e w' => e = .returned (.bool (nA k)) ∧ w' = w := by
  unfold nA
  go_enter Tryd.func51, Tryd.ntmps51
  go_wp2_with (go_at_call 36; refine (between_any _ _ _ _).mono ?_; rintro e w' ⟨rfl, rfl⟩)
  all_goals go_ret
  all_goals exact ⟨ret_bool (by simp_all [BEq.beq]), rfl⟩

set_option maxHeartbeats 400000 in
theorem namesB_any (k : Int) (w : World) :
    Calls Tryd.prog 52 #[.int .i64 k] w fun e w' => e = .returned (.bool (nB k)) ∧ w' = w := by
  unfold nB
  go_enter Tryd.func52, Tryd.ntmps52
  go_wp2_with (go_at_call 36; refine (between_any _ _ _ _).mono ?_; rintro e w' ⟨rfl, rfl⟩)
  all_goals go_ret
  all_goals exact ⟨ret_bool (by simp_all [BEq.beq]), rfl⟩

set_option maxHeartbeats 400000 in
theorem namesN_any (k : Int) (w : World) :
    Calls Tryd.prog 66 #[.int .i64 k] w fun e w' => e = .returned (.bool (nN k)) ∧ w' = w := by
  unfold nN
  go_enter Tryd.func66, Tryd.ntmps66
  go_wp2_with (go_at_call 36; refine (between_any _ _ _ _).mono ?_; rintro e w' ⟨rfl, rfl⟩)
  all_goals go_ret
  all_goals exact ⟨ret_bool (by simp_all [BEq.beq]), rfl⟩

set_option maxHeartbeats 400000 in
theorem namesGoto_any (k : Int) (w : World) :
    Calls Tryd.prog 40 #[.int .i64 k] w fun e w' => e = .returned (.bool (nG k)) ∧ w' = w := by
  unfold nG
  go_enter Tryd.func40, Tryd.ntmps40
  go_wp2
  all_goals go_ret
  all_goals exact ⟨ret_bool (by simp_all [BEq.beq]), rfl⟩
end Go.Proofs.YtmapdpcfanecdaaDoor
