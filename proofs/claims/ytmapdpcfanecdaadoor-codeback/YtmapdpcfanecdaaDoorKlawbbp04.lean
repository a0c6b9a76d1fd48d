/- Walks over the document's own answers: the small tests. -/
import Derived.Test.YtmapdpcfanecdaaDoorKlawbbp03
import Derived.Test.YtmapdpcfanecdaaDoorProg
import Derived.WalkKit
import Derived.WalkSpells
import Derived.WalkLawsBesides
import Derived.Handy
namespace Go.Proofs.YtmapdpcfanecdaaDoor
set_option linter.unusedVariables false
set_option linter.unusedSimpArgs false

structure Val where
  k : Int
  n : Int

structure Thg where
  site : Int
  fs : List Val

structure St where
  at_ : Int
  vars : List Val
  things : List Thg
  taken : Int
  lines : List ByteArray
  fin : Int

/-- A value of a run that has T things. -/
def okVal (T : Nat) (v : Val) : Prop := (v.k = 0 ∧ v.n = 0) ∨ (v.k = 1 ∧ -2147483648 ≤ v.n ∧ v.n ≤ 2147483647) ∨ (v.k = 2 ∧ (v.n = 0 ∨ v.n = 1)) ∨ (v.k = 3 ∧ 0 ≤ v.n ∧ v.n < T)

/-- What counts as true. -/
def cnt (v : Val) : Bool := decide (v.k = 3) || ((decide (v.k = 1) || decide (v.k = 2)) && decide (v.n ≠ 0))

/-- Over 2 to the power of 32. -/
def wr (n : Int) : Int := (n + 2147483648) % 4294967296 - 2147483648

def truV (b : Bool) : Val := ⟨2, if b then 1 else 0⟩

def varAt (s : St) (i : Int) : Val := s.vars.getD i.toNat ⟨0, 0⟩
def putVar (s : St) (i : Int) (v : Val) : St := { s with vars := s.vars.set i.toNat v }

/-- An input, held within -N and N. -/
def clamp (n x : Int) : Int := if x > n then n else if x < -n then -n else x

def fieldAt (s : St) (t f : Int) : Val := ((s.things.getD t.toNat ⟨0, []⟩).fs).getD f.toNat ⟨0, 0⟩
def putField (s : St) (t f : Int) (v : Val) : St := { s with things := s.things.modify t.toNat fun x => { x with fs := x.fs.set f.toNat v } }

end Go.Proofs.YtmapdpcfanecdaaDoor

namespace Go.Proofs.YtmapdpcfanecdaaDoor
set_option linter.unusedVariables false
set_option linter.unusedSimpArgs false
open Go.RowKit

theorem ret_bool {a b : Bool} (h : a = b) : Ending.returned (.bool a) = .returned (.bool b) := by rw [h]
theorem ret_int {k : IntKind} {a b : Int} (h : a = b) : Ending.returned (.int k a) = .returned (.int k b) := by rw [h]
theorem ret_str {a b : ByteArray} (h : a = b) : Ending.returned (.string a) = .returned (.string b) := by rw [h]

theorem bcell {W w1 : World} (hb : Below W.heap.size W w1) : (∀ b o, b < W.heap.size → w1.cell? ⟨b, o, none⟩ = W.cell? ⟨b, o, none⟩) ∧ (∀ b o, b < W.heap.size → w1.frozen? ⟨b, o, none⟩ = W.frozen? ⟨b, o, none⟩) :=
  ⟨fun b o h => hb.cell (p := ⟨b, o, none⟩) h, fun b o h => hb.frozen (p := ⟨b, o, none⟩) h⟩

set_option maxHeartbeats 400000 in
theorem between_any (n l m : Int) (w : World) :
    Calls Tryd.prog 36 #[.int .i64 n, .int .i64 l, .int .i64 m] w fun e w' => e = .returned (.bool (btw n l m)) ∧ w' = w := by
  by_cases h1 : l ≤ n
  · by_cases h2 : n ≤ m
    · have hb := btw_true h1 h2
      go_enter Tryd.func36, Tryd.ntmps36
      go_wp2
      go_ret
      exact ⟨ret_bool hb.symm, rfl⟩
    · have hb := btw_hi (l := l) h2
      go_enter Tryd.func36, Tryd.ntmps36
      go_wp2
      go_ret
      exact ⟨rfl, rfl⟩
  · have hb := btw_lo (m := m) h1
    go_enter Tryd.func36, Tryd.ntmps36
    go_wp2
    go_ret
    exact ⟨rfl, rfl⟩
end Go.Proofs.YtmapdpcfanecdaaDoor

namespace Go.Proofs.YtmapdpcfanecdaaDoor
set_option linter.unusedVariables false
set_option linter.unusedSimpArgs false
open Go.RowKit

set_option maxHeartbeats 400000 in
theorem namesTo_any (k : Int) (w : World) :
    Calls Tryd.prog 57 #[.int .i64 k] w fun e w' => e = .returned (.bool (nTo k)) ∧ w' = w := by
  unfold nTo
  go_enter Tryd.func57, Tryd.ntmps57
  go_wp2_with (go_at_call 36; refine (between_any _ _ _ _).mono ?_; rintro e w' ⟨rfl, rfl⟩)
  all_goals go_ret
  all_goals exact ⟨ret_bool (by simp_all [BEq.beq]), rfl⟩

set_option maxHeartbeats 400000 in
theorem namesA_any (k : Int) (w : World) :
    Calls Tryd.prog 51 #[.int .i64 k] w fun e w' => e = .returned (.bool (nA k)) ∧ w' = w := by
  unfold nA
  go_enter Tryd.func51, Tryd.ntmps51
  go_wp2_with (go_at_call 36; refine (between_any _ _ _ _).mono ?_; rintro e w' ⟨rfl, rfl⟩)
  all_goals go_ret
  all_goals exact ⟨ret_bool (by simp_all [BEq.beq]), rfl⟩

set_option maxHeartbeats 400000 in
theorem namesB_any (k : Int) (w : World) :
    Calls Tryd.prog 52 #[.int .i64 k] w fun e w' => e = .returned (.bool (nB k)) ∧ w' = w := by
  unfold nB
  go_enter Tryd.func52, Tryd.ntmps52
  go_wp2_with (go_at_call 36; refine (between_any _ _ _ _).mono ?_; rintro e w' ⟨rfl, rfl⟩)
  all_goals go_ret
  all_goals exact ⟨ret_bool (by simp_all [BEq.beq]), rfl⟩

set_option maxHeartbeats 400000 in
theorem namesN_any (k : Int) (w : World) :
    Calls Tryd.prog 66 #[.int .i64 k] w fun e w' => e = .returned (.bool (nN k)) ∧ w' = w := by
  unfold nN
  go_enter Tryd.func66, Tryd.ntmps66
  go_wp2_with (go_at_call 36; refine (between_any _ _ _ _).mono ?_; rintro e w' ⟨rfl, rfl⟩)
  all_goals go_ret
  all_goals exact ⟨ret_bool (by simp_all [BEq.beq]), rfl⟩

set_option maxHeartbeats 400000 in
theorem namesGoto_any (k : Int) (w : World) :
    Calls Tryd.prog 40 #[.int .i64 k] w fun e w' => e = .returned (.bool (nG k)) ∧ w' = w := by
  unfold nG
  go_enter Tryd.func40, Tryd.ntmps40
  go_wp2
  all_goals go_ret
  all_goals exact ⟨ret_bool (by simp_all [BEq.beq]), rfl⟩
end Go.Proofs.YtmapdpcfanecdaaDoor
