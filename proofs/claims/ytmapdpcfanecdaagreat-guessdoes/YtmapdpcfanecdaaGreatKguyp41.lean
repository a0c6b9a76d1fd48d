/- The law's own helpers on guesses: guessIs. -/
import Derived.Test.YtmapdpcfanecdaaGreatKguyp30
import Derived.Test.YtmapdpcfanecdaaGreatKguyp37
import Derived.Test.YtmapdpcfanecdaaGreatKguyp01
import Derived.Test.YtmapdpcfanecdaaGreatKguyp17
namespace Go.Proofs.YtmapdpcfanecdaaGreat
set_option linter.unusedVariables false
set_option linter.unusedSimpArgs false
open Go.RowKit

/-- Which one value a guess may be alone, or -1. -/
def whichGs (g : Gs) : Int := if g.f then 3 else if g.t then 2 else if !g.sp.n then 1 else if g.n then 0 else -1
def oneGs (g : Gs) : Int := if singleGs g then whichGs g else -1

theorem alike_one (g h : Gs) : (!alikeGs g h) = (decide (oneGs g < 0) || (decide (oneGs g ≠ oneGs h) || @decide _ (@instDecidableNot _ (g.sp.dq h.sp)))) := by
  unfold alikeGs oneGs
  obtain ⟨n, sp, t, f, s⟩ := g
  obtain ⟨n', sp', t', f', s'⟩ := h
  by_cases hs : sp = sp'
  · subst hs
    obtain ⟨sn, lo, hi⟩ := sp
    by_cases h1 : lo = hi <;> by_cases h2 : s.length = 0 <;> by_cases h3 : s'.length = 0 <;> cases n <;> cases sn <;> cases t <;> cases f <;> cases n' <;> cases t' <;> cases f' <;> simp [singleGs, whichGs, b2n, h1, h2, h3]
  · simp [hs]

set_option maxHeartbeats 1000000 in
theorem nothingR_any (w : World) : Calls Tryz.prog 60 #[] w fun e w' => e = .returned (gv noneG none 0) ∧ Below w.heap.size w w' := by
  go_enter Tryz.func60, Tryz.ntmps60
  go_wp2
  refine bodyPost_ret (v := gv noneG none 0) (by simp [results, Tryz.results60, go_sem, noneG]) rfl ⟨rfl, by go_grown⟩

set_option maxHeartbeats 2000000 in
theorem isNothing_any (g : Gs) (ss : Option Addr) (gc : Nat) (w : World) :
    Calls Tryz.prog 61 #[gv g ss gc] w fun e w' => e = .returned (.bool (nothingGs g)) ∧ Below w.heap.size w w' := by
  have HR : Hid (nothingGs g = (g.sp.n && !(g.n || (g.t || (g.f || decide (0 < g.s.length)))))) := rfl
  generalize nothingGs g = r at HR ⊢
  obtain ⟨n, ⟨sn, lo, hi⟩, t, f, s⟩ := g
  cases n
  · cases sn
    · go_enter Tryz.func61, Tryz.ntmps61
      go_wp2
      go_ret
      exact ⟨ret_bool (by rw [HR.out]; simp), by go_grown⟩
    · cases t
      · cases f
        · by_cases h2 : s.length = 0
          · have h2' : ((s.length : Int) == 0) = true := by simp only [beq_iff_eq]; omega
            have h2'' : ¬ ((0 : Int) < (s.length : Int)) := by omega
            go_enter Tryz.func61, Tryz.ntmps61
            go_wp2
            go_ret
            exact ⟨ret_bool (by rw [HR.out]; simp [h2]), by go_grown⟩
          · have h2' : ((s.length : Int) == 0) = false := by simp only [beq_eq_false_iff_ne]; omega
            have h2'' : (0 : Int) < (s.length : Int) := by omega
            go_enter Tryz.func61, Tryz.ntmps61
            go_wp2
            go_ret
            exact ⟨ret_bool (by rw [HR.out]; first | (simp; done) | (simp; omega)), by go_grown⟩
        · go_enter Tryz.func61, Tryz.ntmps61
          go_wp2
          go_ret
          exact ⟨ret_bool (by rw [HR.out]; simp), by go_grown⟩
      · go_enter Tryz.func61, Tryz.ntmps61
        go_wp2
        go_ret
        exact ⟨ret_bool (by rw [HR.out]; simp), by go_grown⟩
  · go_enter Tryz.func61, Tryz.ntmps61
    go_wp2
    go_ret
    exact ⟨ret_bool (by rw [HR.out]; simp), by go_grown⟩

set_option maxHeartbeats 2000000 in
theorem noNumber_any (g : Gs) (ss : Option Addr) (gc : Nat) (w : World) :
    Calls Tryz.prog 64 #[gv g ss gc] w fun e w' => e = .returned (.bool (otherGs g)) ∧ Below w.heap.size w w' := by
  have HR : Hid (otherGs g = (g.n || (g.t || (g.f || decide (0 < g.s.length))))) := rfl
  generalize otherGs g = r at HR ⊢
  obtain ⟨n, ⟨sn, lo, hi⟩, t, f, s⟩ := g
  cases n
  · cases t
    · cases f
      · by_cases h2 : s.length = 0
        · have h2' : ((s.length : Int) == 0) = true := by simp only [beq_iff_eq]; omega
          have h2'' : ¬ ((0 : Int) < (s.length : Int)) := by omega
          go_enter Tryz.func64, Tryz.ntmps64
          go_wp2
          go_ret
          exact ⟨ret_bool (by rw [HR.out]; simp [h2]), by go_grown⟩
        · have h2' : ((s.length : Int) == 0) = false := by simp only [beq_eq_false_iff_ne]; omega
          have h2'' : (0 : Int) < (s.length : Int) := by omega
          go_enter Tryz.func64, Tryz.ntmps64
          go_wp2
          go_ret
          exact ⟨ret_bool (by rw [HR.out]; first | (simp; done) | (simp; omega)), by go_grown⟩
      · go_enter Tryz.func64, Tryz.ntmps64
        go_wp2
        go_ret
        exact ⟨ret_bool (by rw [HR.out]; simp), by go_grown⟩
    · go_enter Tryz.func64, Tryz.ntmps64
      go_wp2
      go_ret
      exact ⟨ret_bool (by rw [HR.out]; simp), by go_grown⟩
  · go_enter Tryz.func64, Tryz.ntmps64
    go_wp2
    go_ret
    exact ⟨ret_bool (by rw [HR.out]; simp), by go_grown⟩

set_option maxHeartbeats 4000000 in
set_option maxRecDepth 10000 in
theorem single_any (g : Gs) (ss : Option Addr) (gc : Nat) (w : World) :
    Calls Tryz.prog 63 #[gv g ss gc] w fun e w' => e = .returned (.int .i64 (oneGs g)) ∧ Below w.heap.size w w' := by
  have HR : Hid (oneGs g = if (decide (b2n g.n + b2n (!g.sp.n) + b2n g.t + b2n g.f = 1) && (decide (g.sp.lo = g.sp.hi) && decide (g.s.length = 0))) = true then (if g.f then 3 else if g.t then 2 else if !g.sp.n then 1 else if g.n then 0 else -1) else -1) := rfl
  generalize oneGs g = r at HR ⊢
  obtain ⟨n, ⟨sn, lo, hi⟩, t, f, s⟩ := g
  cases n <;> cases sn <;> cases t <;> cases f
  · by_cases h1 : lo = hi
    · by_cases h2 : s.length = 0
      · have HT : Hid (r = 1) := by show _ = _; rw [HR.out]; simp [h1, h2, b2n]
        have h2' : ¬ ((0 : Int) < (s.length : Int)) := by omega
        have h2n : ¬ (0 < s.length) := by omega
        subst h1
        clear HR
        go_enter Tryz.func63, Tryz.ntmps63
        go_wp2
        go_rounds 5
        go_ret
        exact ⟨ret_int (HT.out.symm), by go_grown⟩
      · have HT : Hid (r = -1) := by show _ = _; rw [HR.out]; simp [h2]
        have h2' : (0 : Int) < (s.length : Int) := by omega
        have h2n : 0 < s.length := by omega
        subst h1
        clear HR
        go_enter Tryz.func63, Tryz.ntmps63
        go_wp2
        go_rounds 5
        go_ret
        exact ⟨ret_int (HT.out.symm), by go_grown⟩
    · have HT : Hid (r = -1) := by show _ = _; rw [HR.out]; simp [h1]
      have h1' : (lo != hi) = true := by simpa using h1
      by_cases h2 : s.length = 0
      · have h2' : ¬ ((0 : Int) < (s.length : Int)) := by omega
        have h2n : ¬ (0 < s.length) := by omega
        clear HR
        go_enter Tryz.func63, Tryz.ntmps63
        go_wp2
        go_rounds 5
        go_ret
        exact ⟨ret_int (HT.out.symm), by go_grown⟩
      · have h2' : (0 : Int) < (s.length : Int) := by omega
        have h2n : 0 < s.length := by omega
        clear HR
        go_enter Tryz.func63, Tryz.ntmps63
        go_wp2
        go_rounds 5
        go_ret
        exact ⟨ret_int (HT.out.symm), by go_grown⟩
  · have HT : Hid (r = -1) := by show _ = _; rw [HR.out]; simp [b2n]
    clear HR
    go_enter Tryz.func63, Tryz.ntmps63
    go_wp2
    go_rounds 5
    go_ret
    exact ⟨ret_int (HT.out.symm), by go_grown⟩
  · have HT : Hid (r = -1) := by show _ = _; rw [HR.out]; simp [b2n]
    clear HR
    go_enter Tryz.func63, Tryz.ntmps63
    go_wp2
    go_rounds 5
    go_ret
    exact ⟨ret_int (HT.out.symm), by go_grown⟩
  · have HT : Hid (r = -1) := by show _ = _; rw [HR.out]; simp [b2n]
    clear HR
    go_enter Tryz.func63, Tryz.ntmps63
    go_wp2
    go_rounds 5
    go_ret
    exact ⟨ret_int (HT.out.symm), by go_grown⟩
  · have HT : Hid (r = -1) := by show _ = _; rw [HR.out]; simp [b2n]
    clear HR
    go_enter Tryz.func63, Tryz.ntmps63
    go_wp2
    go_rounds 5
    go_ret
    exact ⟨ret_int (HT.out.symm), by go_grown⟩
  · by_cases h1 : lo = hi
    · by_cases h2 : s.length = 0
      · have HT : Hid (r = 3) := by show _ = _; rw [HR.out]; simp [h1, h2, b2n]
        have h2' : ¬ ((0 : Int) < (s.length : Int)) := by omega
        have h2n : ¬ (0 < s.length) := by omega
        subst h1
        clear HR
        go_enter Tryz.func63, Tryz.ntmps63
        go_wp2
        go_rounds 5
        go_ret
        exact ⟨ret_int (HT.out.symm), by go_grown⟩
      · have HT : Hid (r = -1) := by show _ = _; rw [HR.out]; simp [h2]
        have h2' : (0 : Int) < (s.length : Int) := by omega
        have h2n : 0 < s.length := by omega
        subst h1
        clear HR
        go_enter Tryz.func63, Tryz.ntmps63
        go_wp2
        go_rounds 5
        go_ret
        exact ⟨ret_int (HT.out.symm), by go_grown⟩
    · have HT : Hid (r = -1) := by show _ = _; rw [HR.out]; simp [h1]
      have h1' : (lo != hi) = true := by simpa using h1
      by_cases h2 : s.length = 0
      · have h2' : ¬ ((0 : Int) < (s.length : Int)) := by omega
        have h2n : ¬ (0 < s.length) := by omega
        clear HR
        go_enter Tryz.func63, Tryz.ntmps63
        go_wp2
        go_rounds 5
        go_ret
        exact ⟨ret_int (HT.out.symm), by go_grown⟩
      · have h2' : (0 : Int) < (s.length : Int) := by omega
        have h2n : 0 < s.length := by omega
        clear HR
        go_enter Tryz.func63, Tryz.ntmps63
        go_wp2
        go_rounds 5
        go_ret
        exact ⟨ret_int (HT.out.symm), by go_grown⟩
  · by_cases h1 : lo = hi
    · by_cases h2 : s.length = 0
      · have HT : Hid (r = 2) := by show _ = _; rw [HR.out]; simp [h1, h2, b2n]
        have h2' : ¬ ((0 : Int) < (s.length : Int)) := by omega
        have h2n : ¬ (0 < s.length) := by omega
        subst h1
        clear HR
        go_enter Tryz.func63, Tryz.ntmps63
        go_wp2
        go_rounds 5
        go_ret
        exact ⟨ret_int (HT.out.symm), by go_grown⟩
      · have HT : Hid (r = -1) := by show _ = _; rw [HR.out]; simp [h2]
        have h2' : (0 : Int) < (s.length : Int) := by omega
        have h2n : 0 < s.length := by omega
        subst h1
        clear HR
        go_enter Tryz.func63, Tryz.ntmps63
        go_wp2
        go_rounds 5
        go_ret
        exact ⟨ret_int (HT.out.symm), by go_grown⟩
    · have HT : Hid (r = -1) := by show _ = _; rw [HR.out]; simp [h1]
      have h1' : (lo != hi) = true := by simpa using h1
      by_cases h2 : s.length = 0
      · have h2' : ¬ ((0 : Int) < (s.length : Int)) := by omega
        have h2n : ¬ (0 < s.length) := by omega
        clear HR
        go_enter Tryz.func63, Tryz.ntmps63
        go_wp2
        go_rounds 5
        go_ret
        exact ⟨ret_int (HT.out.symm), by go_grown⟩
      · have h2' : (0 : Int) < (s.length : Int) := by omega
        have h2n : 0 < s.length := by omega
        clear HR
        go_enter Tryz.func63, Tryz.ntmps63
        go_wp2
        go_rounds 5
        go_ret
        exact ⟨ret_int (HT.out.symm), by go_grown⟩
  · have HT : Hid (r = -1) := by show _ = _; rw [HR.out]; simp [b2n]
    clear HR
    go_enter Tryz.func63, Tryz.ntmps63
    go_wp2
    go_rounds 5
    go_ret
    exact ⟨ret_int (HT.out.symm), by go_grown⟩
  · have HT : Hid (r = -1) := by show _ = _; rw [HR.out]; simp [b2n]
    clear HR
    go_enter Tryz.func63, Tryz.ntmps63
    go_wp2
    go_rounds 5
    go_ret
    exact ⟨ret_int (HT.out.symm), by go_grown⟩
  · have HT : Hid (r = -1) := by show _ = _; rw [HR.out]; simp [b2n]
    clear HR
    go_enter Tryz.func63, Tryz.ntmps63
    go_wp2
    go_rounds 5
    go_ret
    exact ⟨ret_int (HT.out.symm), by go_grown⟩
  · have HT : Hid (r = -1) := by show _ = _; rw [HR.out]; simp [b2n]
    clear HR
    go_enter Tryz.func63, Tryz.ntmps63
    go_wp2
    go_rounds 5
    go_ret
    exact ⟨ret_int (HT.out.symm), by go_grown⟩
  · have HT : Hid (r = -1) := by show _ = _; rw [HR.out]; simp [b2n]
    clear HR
    go_enter Tryz.func63, Tryz.ntmps63
    go_wp2
    go_rounds 5
    go_ret
    exact ⟨ret_int (HT.out.symm), by go_grown⟩
  · by_cases h1 : lo = hi
    · by_cases h2 : s.length = 0
      · have HT : Hid (r = 0) := by show _ = _; rw [HR.out]; simp [h1, h2, b2n]
        have h2' : ¬ ((0 : Int) < (s.length : Int)) := by omega
        have h2n : ¬ (0 < s.length) := by omega
        subst h1
        clear HR
        go_enter Tryz.func63, Tryz.ntmps63
        go_wp2
        go_rounds 5
        go_ret
        exact ⟨ret_int (HT.out.symm), by go_grown⟩
      · have HT : Hid (r = -1) := by show _ = _; rw [HR.out]; simp [h2]
        have h2' : (0 : Int) < (s.length : Int) := by omega
        have h2n : 0 < s.length := by omega
        subst h1
        clear HR
        go_enter Tryz.func63, Tryz.ntmps63
        go_wp2
        go_rounds 5
        go_ret
        exact ⟨ret_int (HT.out.symm), by go_grown⟩
    · have HT : Hid (r = -1) := by show _ = _; rw [HR.out]; simp [h1]
      have h1' : (lo != hi) = true := by simpa using h1
      by_cases h2 : s.length = 0
      · have h2' : ¬ ((0 : Int) < (s.length : Int)) := by omega
        have h2n : ¬ (0 < s.length) := by omega
        clear HR
        go_enter Tryz.func63, Tryz.ntmps63
        go_wp2
        go_rounds 5
        go_ret
        exact ⟨ret_int (HT.out.symm), by go_grown⟩
      · have h2' : (0 : Int) < (s.length : Int) := by omega
        have h2n : 0 < s.length := by omega
        clear HR
        go_enter Tryz.func63, Tryz.ntmps63
        go_wp2
        go_rounds 5
        go_ret
        exact ⟨ret_int (HT.out.symm), by go_grown⟩
  · have HT : Hid (r = -1) := by show _ = _; rw [HR.out]; simp [b2n]
    clear HR
    go_enter Tryz.func63, Tryz.ntmps63
    go_wp2
    go_rounds 5
    go_ret
    exact ⟨ret_int (HT.out.symm), by go_grown⟩
  · have HT : Hid (r = -1) := by show _ = _; rw [HR.out]; simp [b2n]
    clear HR
    go_enter Tryz.func63, Tryz.ntmps63
    go_wp2
    go_rounds 5
    go_ret
    exact ⟨ret_int (HT.out.symm), by go_grown⟩
  · have HT : Hid (r = -1) := by show _ = _; rw [HR.out]; simp [b2n]
    clear HR
    go_enter Tryz.func63, Tryz.ntmps63
    go_wp2
    go_rounds 5
    go_ret
    exact ⟨ret_int (HT.out.symm), by go_grown⟩
end Go.Proofs.YtmapdpcfanecdaaGreat

namespace Go.Proofs.YtmapdpcfanecdaaGreat
set_option linter.unusedVariables false
set_option linter.unusedSimpArgs false
open Go.RowKit

def smallC : List Ins := [⟨1, 0, 0, 0, 5, 0⟩, ⟨18, 0, 0, 0, 0, 0⟩]

/-- The small text. -/
def text0 : ByteArray := ⟨#[118, 97, 114, 115, 32, 49, 32, 102, 105, 101, 108, 100, 115, 32, 48, 10, 110, 117, 109, 98, 101, 114, 32, 48, 32, 53, 10, 112, 114, 105, 110, 116, 32, 48, 10]⟩

set_option maxHeartbeats 1000000 in
set_option maxRecDepth 20000 in
theorem small_any (w : World) :
    Calls Tryz.prog 52 #[] w fun e w' => ∃ b, e = .returned (.agg #[.int .i64 1, .int .i64 0, .slice (some ⟨b, 0, none⟩) 2 2]) ∧ CodeAt w' (some ⟨b, 0, none⟩) smallC ∧ Below w.heap.size w w' := by
  go_enter Tryz.func52, Tryz.ntmps52
  go_wp2
  refine bodyPost_ret (v := .agg #[.int .i64 1, .int .i64 0, .slice (some ⟨w.heap.size + 1, 0, none⟩) 2 2]) (by simp [results, Tryz.results52, go_sem]) rfl ⟨w.heap.size + 1, rfl, .inr ⟨_, _, rfl, by simp, ?_⟩, by go_grown⟩
  intro k hk
  match k, hk with
  | 0, _ => refine ⟨?_, ?_, ?_, ?_, ?_, ?_⟩ <;> simp [go_sem, smallC]
  | 1, _ => refine ⟨?_, ?_, ?_, ?_, ?_, ?_⟩ <;> simp [go_sem, smallC]
  | k + 2, h => simp [smallC] at h; omega
end Go.Proofs.YtmapdpcfanecdaaGreat

namespace Go.Proofs.YtmapdpcfanecdaaGreat
set_option linter.unusedVariables false
set_option linter.unusedSimpArgs false
open Go.RowKit

set_option maxHeartbeats 2000000 in
set_option maxRecDepth 10000 in
theorem guessIs_ok (g : Gs) (ss : Option Addr) (gc : Nat) (st : Option Addr) (hc : Nat) (w : World) (hs : IntsAt w ss g.s) (ht : IntsAt w st g.s) (hgl : g.s.length ≤ maxLen) :
    Calls Tryz.prog 19 #[gv g ss gc, .int .i64 0, .int .i64 0, gv g st hc] w fun r w' => r = .returned (.bool true) ∧ Below w.heap.size w w' := by
  obtain ⟨G0, H0, B0⟩ := two_at w g ss gc g st hc
  have HS := hideH (sameGuess_any g ss gc st hc _ (hs.below B0 (Nat.le_refl _)) (ht.below B0 (Nat.le_refl _)) hgl)
  clear hs ht hgl G0 H0
  go_enter Tryz.func19, Tryz.ntmps19
  go_wp2_with (go_at_call 53; fail)
  refine HS.out.mono ?_
  rintro e w1 ⟨rfl, hb1⟩
  go_wp2
  go_ret
  exact ⟨rfl, B0.trans (hb1.mono B0.size)⟩

set_option maxHeartbeats 2000000 in
set_option maxRecDepth 10000 in
theorem guessIs_err (c : Int) (h : Gs) (st : Option Addr) (hc : Nat) (w : World) (hne : (c != 0) = true) :
    Calls Tryz.prog 19 #[gv zeroG none 0, .int .i64 c, .int .i64 c, gv h st hc] w fun r w' => r = .returned (.bool true) ∧ Below w.heap.size w w' := by
  obtain ⟨G0, H0, B0⟩ := two_at w zeroG none 0 h st hc
  have HS := hideH (fun w => sameGuess_any zeroG none 0 none 0 w (.inl rfl) (.inl rfl) (by unfold maxLen zeroG; simp))
  simp only [zeroG] at HS
  go_enter Tryz.func19, Tryz.ntmps19
  simp only [zeroG]
  go_wp2_with (go_at_call 53; fail)
  refine (HS.out _).mono ?_
  rintro e w1 ⟨rfl, hb1⟩
  go_wp2
  go_ret
  exact ⟨rfl, Below.trans (by go_grown) (hb1.mono (by simp; omega))⟩

end Go.Proofs.YtmapdpcfanecdaaGreat
