/- Walks over the document's own answers: guesses: Nothing, IsNothing, NoNumber, Single. -/
import Derived.Test.YtmapdpcfanecdabGreatKstpxp28
import Derived.Test.YtmapdpcfanecdabGreatKstpxp16
set_option linter.unusedSimpArgs false
set_option linter.unusedVariables false
namespace Go.Proofs.YtmapdpcfanecdabGreat
section
set_option maxHeartbeats 4000000
set_option maxRecDepth 100000
open Go.RowKit

/-- Which one value a guess may be alone, or -1. -/
def whichGs (g : Gs) : Int := if g.f then 3 else if g.t then 2 else if !g.sp.n then 1 else if g.n then 0 else -1
def oneGs (g : Gs) : Int := if singleGs g then whichGs g else -1

theorem alike_one (g h : Gs) : (!alikeGs g h) = (decide (oneGs g < 0) || (decide (oneGs g ≠ oneGs h) || @decide _ (@instDecidableNot _ (g.sp.dq h.sp)))) := by
 unfold alikeGs oneGs
 obtain ⟨n, sp, t, f, s⟩ := g
 obtain ⟨n', sp', t', f', s'⟩ := h
 by_cases hs : sp = sp'
 ·subst hs
  obtain ⟨sn, lo, hi⟩ := sp
  by_cases h1 : lo = hi <;> by_cases h2 : s.length = 0 <;> by_cases h3 : s'.length = 0 <;> cases n <;> cases sn <;> cases t <;> cases f <;> cases n' <;> cases t' <;> cases f' <;> simp [singleGs, whichGs, b2n, h1, h2, h3]
 ·simp [hs]

theorem nothingR_any (w : World) : Calls Tryz.prog 21 #[] w fun e w' => e = .returned (gv noneG none 0) ∧ Below w.heap.size w w' := by
 go_enter Tryz.func21, Tryz.ntmps21
 go_wp2
 refine bodyPost_ret (v := gv noneG none 0) (by simp [results, Tryz.results21, go_sem, noneG]) rfl ⟨rfl, by go_grown⟩

theorem isNothing_any (g : Gs) (ss : Option Addr) (gc : Nat) (w : World) :
  Calls Tryz.prog 28 #[gv g ss gc] w fun e w' => e = .returned (.bool (nothingGs g)) ∧ Below w.heap.size w w' := by
 have HR : Hid (nothingGs g = (g.sp.n && !(g.n || (g.t || (g.f || decide (0 < g.s.length)))))) := rfl
 generalize nothingGs g = r at HR ⊢
 obtain ⟨n, ⟨sn, lo, hi⟩, t, f, s⟩ := g
 cases n
 ·cases sn
  ·go_enter Tryz.func28, Tryz.ntmps28
   go_wp2
   go_ret
   exact ⟨ret_bool (by rw [HR.out]; simp), by go_grown⟩
  ·cases t
   ·cases f
    ·by_cases h2 : s.length = 0
     ·have h2' : ((s.length : Int) == 0) = true := by simp only [beq_iff_eq]; omega
      have h2'' : ¬ ((0 : Int) < (s.length : Int)) := by omega
      go_enter Tryz.func28, Tryz.ntmps28
      go_wp2
      go_ret
      exact ⟨ret_bool (by rw [HR.out]; simp [h2]), by go_grown⟩
     ·have h2' : ((s.length : Int) == 0) = false := by simp only [beq_eq_false_iff_ne]; omega
      have h2'' : (0 : Int) < (s.length : Int) := by omega
      go_enter Tryz.func28, Tryz.ntmps28
      go_wp2
      go_ret
      exact ⟨ret_bool (by rw [HR.out]; first | (simp; done) | (simp; omega)), by go_grown⟩
    ·go_enter Tryz.func28, Tryz.ntmps28
     go_wp2
     go_ret
     exact ⟨ret_bool (by rw [HR.out]; simp), by go_grown⟩
   ·go_enter Tryz.func28, Tryz.ntmps28
    go_wp2
    go_ret
    exact ⟨ret_bool (by rw [HR.out]; simp), by go_grown⟩
 ·go_enter Tryz.func28, Tryz.ntmps28
  go_wp2
  go_ret
  exact ⟨ret_bool (by rw [HR.out]; simp), by go_grown⟩

theorem noNumber_any (g : Gs) (ss : Option Addr) (gc : Nat) (w : World) :
  Calls Tryz.prog 62 #[gv g ss gc] w fun e w' => e = .returned (.bool (otherGs g)) ∧ Below w.heap.size w w' := by
 have HR : Hid (otherGs g = (g.n || (g.t || (g.f || decide (0 < g.s.length))))) := rfl
 generalize otherGs g = r at HR ⊢
 obtain ⟨n, ⟨sn, lo, hi⟩, t, f, s⟩ := g
 cases n
 ·cases t
  ·cases f
   ·by_cases h2 : s.length = 0
    ·have h2' : ((s.length : Int) == 0) = true := by simp only [beq_iff_eq]; omega
     have h2'' : ¬ ((0 : Int) < (s.length : Int)) := by omega
     go_enter Tryz.func62, Tryz.ntmps62
     go_wp2
     go_ret
     exact ⟨ret_bool (by rw [HR.out]; simp [h2]), by go_grown⟩
    ·have h2' : ((s.length : Int) == 0) = false := by simp only [beq_eq_false_iff_ne]; omega
     have h2'' : (0 : Int) < (s.length : Int) := by omega
     go_enter Tryz.func62, Tryz.ntmps62
     go_wp2
     go_ret
     exact ⟨ret_bool (by rw [HR.out]; first | (simp; done) | (simp; omega)), by go_grown⟩
   ·go_enter Tryz.func62, Tryz.ntmps62
    go_wp2
    go_ret
    exact ⟨ret_bool (by rw [HR.out]; simp), by go_grown⟩
  ·go_enter Tryz.func62, Tryz.ntmps62
   go_wp2
   go_ret
   exact ⟨ret_bool (by rw [HR.out]; simp), by go_grown⟩
 ·go_enter Tryz.func62, Tryz.ntmps62
  go_wp2
  go_ret
  exact ⟨ret_bool (by rw [HR.out]; simp), by go_grown⟩

theorem prf_e103b7 {p : Prop} (h : p := by
 have h1' : (lo != hi) = true := by simpa using h1
 by_cases h2 : s.length = 0
 ·have h2' : ¬ ((0 : Int) < (s.length : Int)) := by omega
  have h2n : ¬ (0 < s.length) := by omega
  clear HR
  go_enter Tryz.func61, Tryz.ntmps61
  go_wp2
  go_rounds 5
  go_ret
  exact ⟨ret_int (HT.out.symm), by go_grown⟩
 ·have h2' : (0 : Int) < (s.length : Int) := by omega
  have h2n : 0 < s.length := by omega
  clear HR
  go_enter Tryz.func61, Tryz.ntmps61
  go_wp2
  go_rounds 5
  go_ret
  exact ⟨ret_int (HT.out.symm), by go_grown⟩) : p := h
theorem single_any (g : Gs) (ss : Option Addr) (gc : Nat) (w : World) :
  Calls Tryz.prog 61 #[gv g ss gc] w fun e w' => e = .returned (.int .i64 (oneGs g)) ∧ Below w.heap.size w w' := by
 have HR : Hid (oneGs g = if (decide (b2n g.n + b2n (!g.sp.n) + b2n g.t + b2n g.f = 1) && (decide (g.sp.lo = g.sp.hi) && decide (g.s.length = 0))) = true then (if g.f then 3 else if g.t then 2 else if !g.sp.n then 1 else if g.n then 0 else -1) else -1) := rfl
 generalize oneGs g = r at HR ⊢
 obtain ⟨n, ⟨sn, lo, hi⟩, t, f, s⟩ := g
 cases n <;> cases sn <;> cases t <;> cases f
 ·by_cases h1 : lo = hi
  ·by_cases h2 : s.length = 0
   ·have HT : Hid (r = 1) := by show _ = _; rw [HR.out]; simp [h1, h2, b2n]
    have h2' : ¬ ((0 : Int) < (s.length : Int)) := by omega
    have h2n : ¬ (0 < s.length) := by omega
    subst h1
    clear HR
    go_enter Tryz.func61, Tryz.ntmps61
    go_wp2
    go_rounds 5
    go_ret
    exact ⟨ret_int (HT.out.symm), by go_grown⟩
   ·have HT : Hid (r = -1) := by show _ = _; rw [HR.out]; simp [h2]
    have h2' : (0 : Int) < (s.length : Int) := by omega
    have h2n : 0 < s.length := by omega
    subst h1
    clear HR
    go_enter Tryz.func61, Tryz.ntmps61
    go_wp2
    go_rounds 5
    go_ret
    exact ⟨ret_int (HT.out.symm), by go_grown⟩
  ·have HT : Hid (r = -1) := by show _ = _; rw [HR.out]; simp [h1]
   exact prf_e103b7
 ·have HT : Hid (r = -1) := by show _ = _; rw [HR.out]; simp [b2n]
  clear HR
  go_enter Tryz.func61, Tryz.ntmps61
  go_wp2
  go_rounds 5
  go_ret
  exact ⟨ret_int (HT.out.symm), by go_grown⟩
 ·have HT : Hid (r = -1) := by show _ = _; rw [HR.out]; simp [b2n]
  clear HR
  go_enter Tryz.func61, Tryz.ntmps61
  go_wp2
  go_rounds 5
  go_ret
  exact ⟨ret_int (HT.out.symm), by go_grown⟩
 ·have HT : Hid (r = -1) := by show _ = _; rw [HR.out]; simp [b2n]
  clear HR
  go_enter Tryz.func61, Tryz.ntmps61
  go_wp2
  go_rounds 5
  go_ret
  exact ⟨ret_int (HT.out.symm), by go_grown⟩
 ·have HT : Hid (r = -1) := by show _ = _; rw [HR.out]; simp [b2n]
  clear HR
  go_enter Tryz.func61, Tryz.ntmps61
  go_wp2
  go_rounds 5
  go_ret
  exact ⟨ret_int (HT.out.symm), by go_grown⟩
 ·by_cases h1 : lo = hi
  ·by_cases h2 : s.length = 0
   ·have HT : Hid (r = 3) := by show _ = _; rw [HR.out]; simp [h1, h2, b2n]
    have h2' : ¬ ((0 : Int) < (s.length : Int)) := by omega
    have h2n : ¬ (0 < s.length) := by omega
    subst h1
    clear HR
    go_enter Tryz.func61, Tryz.ntmps61
    go_wp2
    go_rounds 5
    go_ret
    exact ⟨ret_int (HT.out.symm), by go_grown⟩
   ·have HT : Hid (r = -1) := by show _ = _; rw [HR.out]; simp [h2]
    have h2' : (0 : Int) < (s.length : Int) := by omega
    have h2n : 0 < s.length := by omega
    subst h1
    clear HR
    go_enter Tryz.func61, Tryz.ntmps61
    go_wp2
    go_rounds 5
    go_ret
    exact ⟨ret_int (HT.out.symm), by go_grown⟩
  ·have HT : Hid (r = -1) := by show _ = _; rw [HR.out]; simp [h1]
   exact prf_e103b7
 ·by_cases h1 : lo = hi
  ·by_cases h2 : s.length = 0
   ·have HT : Hid (r = 2) := by show _ = _; rw [HR.out]; simp [h1, h2, b2n]
    have h2' : ¬ ((0 : Int) < (s.length : Int)) := by omega
    have h2n : ¬ (0 < s.length) := by omega
    subst h1
    clear HR
    go_enter Tryz.func61, Tryz.ntmps61
    go_wp2
    go_rounds 5
    go_ret
    exact ⟨ret_int (HT.out.symm), by go_grown⟩
   ·have HT : Hid (r = -1) := by show _ = _; rw [HR.out]; simp [h2]
    have h2' : (0 : Int) < (s.length : Int) := by omega
    have h2n : 0 < s.length := by omega
    subst h1
    clear HR
    go_enter Tryz.func61, Tryz.ntmps61
    go_wp2
    go_rounds 5
    go_ret
    exact ⟨ret_int (HT.out.symm), by go_grown⟩
  ·have HT : Hid (r = -1) := by show _ = _; rw [HR.out]; simp [h1]
   exact prf_e103b7
 ·have HT : Hid (r = -1) := by show _ = _; rw [HR.out]; simp [b2n]
  clear HR
  go_enter Tryz.func61, Tryz.ntmps61
  go_wp2
  go_rounds 5
  go_ret
  exact ⟨ret_int (HT.out.symm), by go_grown⟩
 ·have HT : Hid (r = -1) := by show _ = _; rw [HR.out]; simp [b2n]
  clear HR
  go_enter Tryz.func61, Tryz.ntmps61
  go_wp2
  go_rounds 5
  go_ret
  exact ⟨ret_int (HT.out.symm), by go_grown⟩
 ·have HT : Hid (r = -1) := by show _ = _; rw [HR.out]; simp [b2n]
  clear HR
  go_enter Tryz.func61, Tryz.ntmps61
  go_wp2
  go_rounds 5
  go_ret
  exact ⟨ret_int (HT.out.symm), by go_grown⟩
 ·have HT : Hid (r = -1) := by show _ = _; rw [HR.out]; simp [b2n]
  clear HR
  go_enter Tryz.func61, Tryz.ntmps61
  go_wp2
  go_rounds 5
  go_ret
  exact ⟨ret_int (HT.out.symm), by go_grown⟩
 ·have HT : Hid (r = -1) := by show _ = _; rw [HR.out]; simp [b2n]
  clear HR
  go_enter Tryz.func61, Tryz.ntmps61
  go_wp2
  go_rounds 5
  go_ret
  exact ⟨ret_int (HT.out.symm), by go_grown⟩
 ·by_cases h1 : lo = hi
  ·by_cases h2 : s.length = 0
   ·have HT : Hid (r = 0) := by show _ = _; rw [HR.out]; simp [h1, h2, b2n]
    have h2' : ¬ ((0 : Int) < (s.length : Int)) := by omega
    have h2n : ¬ (0 < s.length) := by omega
    subst h1
    clear HR
    go_enter Tryz.func61, Tryz.ntmps61
    go_wp2
    go_rounds 5
    go_ret
    exact ⟨ret_int (HT.out.symm), by go_grown⟩
   ·have HT : Hid (r = -1) := by show _ = _; rw [HR.out]; simp [h2]
    have h2' : (0 : Int) < (s.length : Int) := by omega
    have h2n : 0 < s.length := by omega
    subst h1
    clear HR
    go_enter Tryz.func61, Tryz.ntmps61
    go_wp2
    go_rounds 5
    go_ret
    exact ⟨ret_int (HT.out.symm), by go_grown⟩
  ·have HT : Hid (r = -1) := by show _ = _; rw [HR.out]; simp [h1]
   exact prf_e103b7
 ·have HT : Hid (r = -1) := by show _ = _; rw [HR.out]; simp [b2n]
  clear HR
  go_enter Tryz.func61, Tryz.ntmps61
  go_wp2
  go_rounds 5
  go_ret
  exact ⟨ret_int (HT.out.symm), by go_grown⟩
 ·have HT : Hid (r = -1) := by show _ = _; rw [HR.out]; simp [b2n]
  clear HR
  go_enter Tryz.func61, Tryz.ntmps61
  go_wp2
  go_rounds 5
  go_ret
  exact ⟨ret_int (HT.out.symm), by go_grown⟩
 ·have HT : Hid (r = -1) := by show _ = _; rw [HR.out]; simp [b2n]
  clear HR
  go_enter Tryz.func61, Tryz.ntmps61
  go_wp2
  go_rounds 5
  go_ret
  exact ⟨ret_int (HT.out.symm), by go_grown⟩
end
end Go.Proofs.YtmapdpcfanecdabGreat
