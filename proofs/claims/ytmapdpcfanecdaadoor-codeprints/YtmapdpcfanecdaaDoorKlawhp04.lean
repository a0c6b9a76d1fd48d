/- Runs as plain data: what a step makes of a run, by the document's words. No program in sight. -/
import Derived.Test.YtmapdpcfanecdaaDoorKlawhp03
namespace Go.Proofs.YtmapdpcfanecdaaDoor
set_option linter.unusedVariables false
set_option linter.unusedSimpArgs false

structure Val where
  k : Int
  n : Int

structure Thg where
  site : Int
  fs : List Val

structure St where
  at_ : Int
  vars : List Val
  things : List Thg
  taken : Int
  lines : List ByteArray
  fin : Int

/-- A value of a run that has T things. -/
def okVal (T : Nat) (v : Val) : Prop := (v.k = 0 ∧ v.n = 0) ∨ (v.k = 1 ∧ -2147483648 ≤ v.n ∧ v.n ≤ 2147483647) ∨ (v.k = 2 ∧ (v.n = 0 ∨ v.n = 1)) ∨ (v.k = 3 ∧ 0 ≤ v.n ∧ v.n < T)

/-- What counts as true. -/
def cnt (v : Val) : Bool := decide (v.k = 3) || ((decide (v.k = 1) || decide (v.k = 2)) && decide (v.n ≠ 0))

/-- Over 2 to the power of 32. -/
def wr (n : Int) : Int := (n + 2147483648) % 4294967296 - 2147483648

def truV (b : Bool) : Val := ⟨2, if b then 1 else 0⟩

def varAt (s : St) (i : Int) : Val := s.vars.getD i.toNat ⟨0, 0⟩
def putVar (s : St) (i : Int) (v : Val) : St := { s with vars := s.vars.set i.toNat v }

/-- An input, held within -N and N. -/
def clamp (n x : Int) : Int := if x > n then n else if x < -n then -n else x

def fieldAt (s : St) (t f : Int) : Val := ((s.things.getD t.toNat ⟨0, []⟩).fs).getD f.toNat ⟨0, 0⟩
def putField (s : St) (t f : Int) (v : Val) : St := { s with things := s.things.modify t.toNat fun x => { x with fs := x.fs.set f.toNat v } }

end Go.Proofs.YtmapdpcfanecdaaDoor
