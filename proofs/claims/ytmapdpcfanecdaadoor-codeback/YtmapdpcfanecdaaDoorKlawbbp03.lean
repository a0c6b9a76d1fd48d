/- What the document's own answers are, as plain Lean functions on integers and lists: no program in sight. -/
namespace Go.Proofs.YtmapdpcfanecdaaDoor
set_option linter.unusedVariables false
set_option linter.unusedSimpArgs false

/-- Is a number from l to m? -/
def btw (n l m : Int) : Bool := decide (l ≤ n ∧ n ≤ m)
theorem btw_true {n l m : Int} (h1 : l ≤ n) (h2 : n ≤ m) : btw n l m = true := by simp [btw, h1, h2]
theorem btw_lo {n l m : Int} (h : ¬ l ≤ n) : btw n l m = false := by simp [btw, h]
theorem btw_hi {n l m : Int} (h : ¬ n ≤ m) : btw n l m = false := by simp [btw, h]

theorem btw_cases {k : Int} (h : btw k 1 19 = true) : k = 1 ∨ k = 2 ∨ k = 3 ∨ k = 4 ∨ k = 5 ∨ k = 6 ∨ k = 7 ∨ k = 8 ∨ k = 9 ∨ k = 10 ∨ k = 11 ∨ k = 12 ∨ k = 13 ∨ k = 14 ∨ k = 15 ∨ k = 16 ∨ k = 17 ∨ k = 18 ∨ k = 19 := by
  simp [btw] at h; omega

theorem btw19 (k : Int) : btw k 1 19 = (decide (1 ≤ k) && decide (k ≤ 19)) := by simp [btw]

def nTo (k : Int) : Bool := btw k 1 12 || decide (k = 14)
def nA (k : Int) : Bool := btw k 4 10 || decide (k = 12) || decide (k = 13) || decide (k = 15) || decide (k = 17) || decide (k = 18)
def nB (k : Int) : Bool := btw k 5 9 || decide (k = 13)
def nN (k : Int) : Bool := decide (k = 1) || decide (k = 2) || btw k 12 14
def nG (k : Int) : Bool := decide (k = 15) || decide (k = 16)

/-- An instruction. -/
structure Ins where
  k : Int
  to : Int
  a : Int
  b : Int
  n : Int
  g : Int

/-- What is told of an instruction of a program with V variables, F fields, L instructions. -/
def ckOne (V F L : Int) (i : Ins) : Int :=
  if btw i.k 1 19 = false then 6
  else if (nTo i.k && !btw i.to 0 (V - 1)) || (nA i.k && !btw i.a 0 (V - 1)) || (nB i.k && !btw i.b 0 (V - 1)) || ((decide (i.k = 12) || decide (i.k = 13)) && !btw i.n 0 (F - 1)) || (nG i.k && !btw i.g 0 L) then 5
  else if (decide (i.k = 1) && !btw i.n (-2147483648) 2147483647) || (decide (i.k = 2) && !btw i.n 0 1) || (decide (i.k = 14) && !btw i.n 0 1000000) then 3
  else if (!nTo i.k && decide (i.to ≠ 0)) || (!nA i.k && decide (i.a ≠ 0)) || (!nB i.k && decide (i.b ≠ 0)) || (!nN i.k && decide (i.n ≠ 0)) || (!nG i.k && decide (i.g ≠ 0)) then 1
  else 0

def ckAll (V F L : Int) : List Ins → Int
  | [] => 0
  | i :: r => if ckOne V F L i = 0 then ckAll V F L r else ckOne V F L i

/-- What is told of a program. -/
def ckProg (V F : Int) (c : List Ins) : Int :=
  if btw V 1 8 = false || btw F 0 3 = false then 3 else if 60 < c.length then 2 else ckAll V F c.length c

/-- The word of a kind, as bytes; empty: it is none. -/
def wordB : Int → ByteArray
  | 1 => ⟨#[110, 117, 109, 98, 101, 114]⟩
  | 2 => ⟨#[116, 114, 117, 116, 104]⟩
  | 3 => ⟨#[110, 117, 108, 108]⟩
  | 4 => ⟨#[99, 111, 112, 121]⟩
  | 5 => ⟨#[97, 100, 100]⟩
  | 6 => ⟨#[115, 117, 98]⟩
  | 7 => ⟨#[109, 117, 108]⟩
  | 8 => ⟨#[108, 101, 115, 115]⟩
  | 9 => ⟨#[115, 97, 109, 101]⟩
  | 10 => ⟨#[110, 111, 116]⟩
  | 11 => ⟨#[110, 101, 119]⟩
  | 12 => ⟨#[103, 101, 116]⟩
  | 13 => ⟨#[112, 117, 116]⟩
  | 14 => ⟨#[105, 110, 112, 117, 116]⟩
  | 15 => ⟨#[105, 102]⟩
  | 16 => ⟨#[103, 111, 116, 111]⟩
  | 17 => ⟨#[101, 120, 112, 101, 99, 116]⟩
  | 18 => ⟨#[112, 114, 105, 110, 116]⟩
  | 19 => ⟨#[101, 110, 100]⟩
  | _ => ⟨#[]⟩

theorem wordB_none {k : Int} (h : btw k 1 19 = false) : wordB k = ⟨#[]⟩ := by
  have : ¬ (1 ≤ k ∧ k ≤ 19) := by simpa [btw] using h
  unfold wordB
  split <;> first | rfl | omega

end Go.Proofs.YtmapdpcfanecdaaDoor
