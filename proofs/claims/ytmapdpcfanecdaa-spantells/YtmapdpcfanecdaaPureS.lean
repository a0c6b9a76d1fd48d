/- What the document says of spans, as plain Lean functions: no program in sight. -/
import Derived.Test.YtmapdpcfanecdaaPure
namespace Go.Proofs.Ytmapdpcfanecdaa
set_option linter.unusedVariables false
set_option linter.unusedSimpArgs false

/-- A span. -/
structure Sp where
  n : Bool
  lo : Int
  hi : Int
def Sp.dq(s t:Sp):Decidable (s=t):=decidable_of_iff (s.n=t.n/\s.lo=t.lo/\s.hi=t.hi) (by cases s;cases t;simp)

abbrev inNum (x : Int) : Prop := -2147483648 ≤ x ∧ x ≤ 2147483647

/-- What is told of a span. -/
def ckSp (s : Sp) : Int :=
  if ¬ (inNum s.lo ∧ inNum s.hi) then 3 else if s.n = true ∧ ¬ (s.lo = 0 ∧ s.hi = 0) then 1 else if s.hi < s.lo then 4 else 0

def ckSps (s t : Sp) : Int := if ckSp s = 0 then ckSp t else ckSp s

/-- It is right. -/
def Sp.Ok (s : Sp) : Prop := inNum s.lo ∧ inNum s.hi ∧ (s.n = true → s.lo = 0 ∧ s.hi = 0) ∧ s.lo ≤ s.hi

theorem ckSp_ok {s : Sp} : ckSp s = 0 ↔ s.Ok := by
  unfold ckSp Sp.Ok
  by_cases h1 : inNum s.lo ∧ inNum s.hi
  · rw [if_neg (not_not_intro h1)]
    by_cases h2 : s.n = true ∧ ¬ (s.lo = 0 ∧ s.hi = 0)
    · rw [if_pos h2]
      refine ⟨fun h => absurd h (by decide), fun h => absurd (h.2.2.1 h2.1) h2.2⟩
    · rw [if_neg h2]
      have h3 : s.n = true → s.lo = 0 ∧ s.hi = 0 := fun hn => Decidable.not_not.1 fun hc => h2 ⟨hn, hc⟩
      by_cases h4 : s.hi < s.lo
      · rw [if_pos h4]
        exact ⟨fun h => absurd h (by decide), fun h => absurd h.2.2.2 (by omega)⟩
      · rw [if_neg h4]
        exact ⟨fun _ => ⟨h1.1, h1.2, h3, by omega⟩, fun _ => rfl⟩
  · rw [if_pos h1]
    exact ⟨fun h => absurd h (by decide), fun h => absurd ⟨h.1, h.2.1⟩ h1⟩

theorem ckSps_ok {s t : Sp} : ckSps s t = 0 ↔ s.Ok ∧ t.Ok := by
  unfold ckSps
  by_cases h : ckSp s = 0
  · rw [if_pos h, ckSp_ok]
    exact ⟨fun ht => ⟨ckSp_ok.1 h, ht⟩, fun ht => ht.2⟩
  · rw [if_neg h]
    exact ⟨fun ht => absurd ht h, fun ht => absurd (ckSp_ok.2 ht.1) h⟩

def Sp.has (s : Sp) (x : Int) : Bool := !s.n && (decide (s.lo ≤ x) && decide (x ≤ s.hi))
def joinSp (s t : Sp) : Sp := if s.n then t else if t.n then s else ⟨false, min s.lo t.lo, max s.hi t.hi⟩
def wideSp (s t : Sp) : Sp := if s.n then t else if t.n then s else ⟨false, if t.lo < s.lo then -2147483648 else s.lo, if s.hi < t.hi then 2147483647 else s.hi⟩
def meetSp (s t : Sp) : Sp := if s.n || t.n || decide (min s.hi t.hi < max s.lo t.lo) then ⟨true, 0, 0⟩ else ⟨false, max s.lo t.lo, min s.hi t.hi⟩
def spIn (s t : Sp) : Bool := s.n || (t.has s.lo && t.has s.hi)

def opOf (k x y : Int) : Int := if k = 5 then x + y else if k = 6 then x - y else x * y
def min4 (a b c d : Int) : Int := min (min (min a b) c) d
def max4 (a b c d : Int) : Int := max (max (max a b) c) d
def hull (a b c d : Int) : Sp := if inNum (min4 a b c d) ∧ inNum (max4 a b c d) then ⟨false, min4 a b c d, max4 a b c d⟩ else ⟨false, -2147483648, 2147483647⟩
def doSp (k : Int) (s t : Sp) : Sp := if s.n || t.n then ⟨true, 0, 0⟩ else hull (opOf k s.lo t.lo) (opOf k s.lo t.hi) (opOf k s.hi t.lo) (opOf k s.hi t.hi)

def zeroSp : Sp := ⟨false, 0, 0⟩
end Go.Proofs.Ytmapdpcfanecdaa
