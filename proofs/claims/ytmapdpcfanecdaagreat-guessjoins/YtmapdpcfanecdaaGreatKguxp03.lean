/- What the document says of guesses, as plain Lean functions: no program in sight. -/
import Derived.Test.YtmapdpcfanecdaaGreatKguxp02
namespace Go.Proofs.YtmapdpcfanecdaaGreat
set_option linter.unusedVariables false
set_option linter.unusedSimpArgs false

def wrS (n : Int) : Int := (n + 2147483648) % 4294967296 - 2147483648
theorem wrS_num (n : Int) : inNum (wrS n) := by unfold inNum wrS; omega
theorem wrS_id {n : Int} (h : inNum n) : wrS n = n := by unfold inNum at h; unfold wrS; omega

/-- A product lies between what comes of one's ends. -/
theorem mul_between {a b lo hi : Int} (h1 : lo ≤ a) (h2 : a ≤ hi) : min (lo * b) (hi * b) ≤ a * b ∧ a * b ≤ max (lo * b) (hi * b) := by
  rcases Int.le_total 0 b with hb | hb
  · have e1 := Int.mul_le_mul_of_nonneg_right h1 hb
    have e2 := Int.mul_le_mul_of_nonneg_right h2 hb
    omega
  · have e1 := Int.mul_le_mul_of_nonpos_right h1 hb
    have e2 := Int.mul_le_mul_of_nonpos_right h2 hb
    omega

theorem op_between {k a b lo hi lo' hi' : Int} (hk : k = 5 ∨ k = 6 ∨ k = 7) (h1 : lo ≤ a) (h2 : a ≤ hi) (h3 : lo' ≤ b) (h4 : b ≤ hi') :
    min4 (opOf k lo lo') (opOf k lo hi') (opOf k hi lo') (opOf k hi hi') ≤ opOf k a b ∧ opOf k a b ≤ max4 (opOf k lo lo') (opOf k lo hi') (opOf k hi lo') (opOf k hi hi') := by
  rcases hk with rfl | rfl | rfl
  · simp only [opOf, min4, max4]
    simp only [if_true]
    omega
  · simp only [opOf, min4, max4]
    simp only [show ¬ ((6 : Int) = 5) by decide, if_false, if_true]
    omega
  · simp only [opOf, min4, max4]
    simp only [show ¬ ((7 : Int) = 5) by decide, show ¬ ((7 : Int) = 6) by decide, if_false]
    have e1 := mul_between (b := b) h1 h2
    have e2 := mul_between (b := lo) h3 h4
    have e3 := mul_between (b := hi) h3 h4
    rw [Int.mul_comm b lo, Int.mul_comm lo' lo, Int.mul_comm hi' lo] at e2
    rw [Int.mul_comm b hi, Int.mul_comm lo' hi, Int.mul_comm hi' hi] at e3
    omega

theorem do_ok {k : Int} {s t : Sp} (hs : s.Ok) (ht : t.Ok) : (doSp k s t).Ok := by
  unfold doSp
  split
  · exact ⟨by decide, by decide, fun _ => ⟨rfl, rfl⟩, Int.le_refl _⟩
  · unfold hull
    split
    · rename_i h
      refine ⟨h.1, h.2, fun hn => (by cases hn), ?_⟩
      unfold min4 max4
      simp only
      omega
    · exact ⟨by decide, by decide, fun hn => (by cases hn), by decide⟩

theorem do_has {k a b : Int} {s t : Sp} (hk : k = 5 ∨ k = 6 ∨ k = 7) (hs : s.n = false) (ht : t.n = false) (ha : s.lo ≤ a ∧ a ≤ s.hi) (hb : t.lo ≤ b ∧ b ≤ t.hi) : (doSp k s t).has (wrS (opOf k a b)) = true := by
  have hop := op_between hk ha.1 ha.2 hb.1 hb.2
  unfold doSp
  rw [hs, ht, if_neg (by simp)]
  unfold hull
  split
  · rename_i h
    have hn : inNum (opOf k a b) := ⟨Int.le_trans h.1.1 hop.1, Int.le_trans hop.2 h.2.2⟩
    rw [wrS_id hn]
    simp only [Sp.has, Bool.not_false, Bool.true_and, Bool.and_eq_true, decide_eq_true_eq]
    exact hop
  · have := wrS_num (opOf k a b)
    simp only [Sp.has, Bool.not_false, Bool.true_and, Bool.and_eq_true, decide_eq_true_eq]
    exact this

theorem join_ok {s t : Sp} (hs : s.Ok) (ht : t.Ok) : (joinSp s t).Ok := by
  unfold joinSp
  split
  · exact ht
  · split
    · exact hs
    · obtain ⟨a, b, _, d⟩ := hs
      obtain ⟨a', b', _, d'⟩ := ht
      unfold inNum at a b a' b'
      refine ⟨?_, ?_, fun hn => (by cases hn), ?_⟩ <;> (try unfold inNum) <;> simp only <;> omega

theorem join_has {a : Int} {s t : Sp} (hs : s.n = false) (ht : t.n = false) (ha : (s.lo ≤ a ∧ a ≤ s.hi) ∨ (t.lo ≤ a ∧ a ≤ t.hi)) : (joinSp s t).has a = true := by
  unfold joinSp
  rw [hs, ht]
  simp only [Bool.false_eq_true, if_false, Sp.has, Bool.not_false, Bool.true_and, Bool.and_eq_true, decide_eq_true_eq]
  omega

theorem wide_ok {s t : Sp} (hs : s.Ok) (ht : t.Ok) : (wideSp s t).Ok := by
  unfold wideSp
  split
  · exact ht
  · split
    · exact hs
    · obtain ⟨a, b, _, d⟩ := hs
      obtain ⟨a', b', _, d'⟩ := ht
      unfold inNum at a b a' b'
      refine ⟨?_, ?_, fun hn => (by cases hn), ?_⟩ <;> (try unfold inNum) <;> simp only <;> (repeat' split) <;> omega

/-- How often it may still be widened. -/
def pot (s : Sp) : Int := if s.n then 2 else (if s.lo = -2147483648 then 0 else 1) + (if s.hi = 2147483647 then 0 else 1)
theorem pot_le (s : Sp) : pot s ≤ 2 ∧ 0 ≤ pot s := by unfold pot; (repeat' split) <;> omega

theorem wide_pot {s t : Sp} (hn : s.n = false) (hs : s.Ok) (hne : wideSp s t ≠ s) : pot (wideSp s t) + 1 ≤ pot s := by
  obtain ⟨n, lo, hi⟩ := s
  obtain ⟨n', lo', hi'⟩ := t
  simp only at hn
  subst hn
  obtain ⟨a, b, _, d⟩ := hs
  simp only [inNum] at a b
  cases n' with
  | true => exact absurd rfl hne
  | false =>
    have e0 : wideSp ⟨false, lo, hi⟩ ⟨false, lo', hi'⟩ = ⟨false, if lo' < lo then -2147483648 else lo, if hi < hi' then 2147483647 else hi⟩ := rfl
    rw [e0] at hne ⊢
    unfold pot
    simp only [Bool.false_eq_true, if_false]
    by_cases h1 : lo' < lo
    · by_cases h2 : hi < hi'
      · simp only [if_pos h1, if_pos h2] at hne ⊢
        have : ¬ (lo = -2147483648 ∧ hi = 2147483647) := fun h => hne (by rw [h.1, h.2])
        simp only [eq_self, if_true]
        (repeat' split) <;> omega
      · simp only [if_pos h1, if_neg h2] at hne ⊢
        have : ¬ lo = -2147483648 := fun h => hne (by rw [h])
        simp only [eq_self, if_true]
        (repeat' split) <;> omega
    · by_cases h2 : hi < hi'
      · simp only [if_neg h1, if_pos h2] at hne ⊢
        have : ¬ hi = 2147483647 := fun h => hne (by rw [h])
        simp only [eq_self, if_true]
        (repeat' split) <;> omega
      · simp only [if_neg h1, if_neg h2] at hne
        exact absurd rfl hne

/-- What is widened has all that it had. -/
theorem wide_meet {s t : Sp} (hs : s.Ok) (ht : t.Ok) : meetSp s (wideSp s t) = s := by
  obtain ⟨n, lo, hi⟩ := s
  obtain ⟨n', lo', hi'⟩ := t
  obtain ⟨a, b, hz, d⟩ := hs
  simp only [inNum] at a b d hz
  cases n with
  | true =>
    obtain ⟨h1, h2⟩ := hz rfl
    subst h1 h2
    rfl
  | false =>
    cases n' with
    | true =>
      have e0 : wideSp ⟨false, lo, hi⟩ ⟨true, lo', hi'⟩ = ⟨false, lo, hi⟩ := rfl
      rw [e0]
      unfold meetSp
      rw [if_neg (by simp only [Bool.false_or, decide_eq_true_eq]; omega)]
      simp only [Sp.mk.injEq, true_and]
      omega
    | false =>
      have e0 : wideSp ⟨false, lo, hi⟩ ⟨false, lo', hi'⟩ = ⟨false, if lo' < lo then -2147483648 else lo, if hi < hi' then 2147483647 else hi⟩ := rfl
      rw [e0]
      unfold meetSp
      have e1 : max lo (if lo' < lo then -2147483648 else lo) = lo := by split <;> omega
      have e2 : min hi (if hi < hi' then 2147483647 else hi) = hi := by split <;> omega
      simp only [e1, e2]
      rw [if_neg (by simp only [Bool.false_or, decide_eq_true_eq]; omega)]
end Go.Proofs.YtmapdpcfanecdaaGreat

namespace Go.Proofs.YtmapdpcfanecdaaGreat
set_option linter.unusedVariables false
set_option linter.unusedSimpArgs false

/-- A guess. -/
structure Gs where
  n : Bool
  sp : Sp
  t : Bool
  f : Bool
  s : List Int

/-- Is a thing made there? -/
def isSite (c : List Ins) (x : Int) : Bool := decide (0 ≤ x) && (decide (x < c.length) && decide ((c.getD x.toNat ⟨0, 0, 0, 0, 0, 0⟩).k = 11))

def rising : List Int → Bool
  | [] => true
  | [_] => true
  | a :: b :: r => decide (a < b) && rising (b :: r)

/-- What is told of a guess, in a program that is right. -/
def ckGs (c : List Ins) (g : Gs) : Int := if ckSp g.sp ≠ 0 then ckSp g.sp else if g.s.all (isSite c) = false then 5 else if rising g.s = false then 4 else 0

/-- What is told of guesses, one after the other. -/
def ckGss (c : List Ins) : List Gs → Int
  | [] => 0
  | g :: r => if ckGs c g = 0 then ckGss c r else ckGs c g

/-- .. and of the program first. -/
def ckAllG (V F : Int) (c : List Ins) (l : List Gs) : Int := if ckProg V F c = 0 then ckGss c l else ckProg V F c

/-- The sites that one of both has. -/
def siteSet (a b : List Int) : List Int := ((List.range 60).map fun n : Nat => (n : Int)).filter fun x => a.contains x || b.contains x

def joinGs (wide : Bool) (g h : Gs) : Gs := ⟨g.n || h.n, if wide then wideSp g.sp h.sp else joinSp g.sp h.sp, g.t || h.t, g.f || h.f, siteSet g.s h.s⟩
def inGs (g h : Gs) : Bool := !(g.n && !h.n) && (!(g.t && !h.t) && (!(g.f && !h.f) && (spIn g.sp h.sp && g.s.all fun x => h.s.contains x)))
def heldGs (g : Gs) (k n site : Int) : Bool := if k = 0 then g.n else if k = 1 then g.sp.has n else if k = 2 then (g.t && decide (n = 1)) || (g.f && decide (n = 0)) else g.s.contains site
def yesGs (g : Gs) : Bool := (!g.sp.n && !decide (g.sp.lo = 0 ∧ g.sp.hi = 0)) || (g.t || decide (0 < g.s.length))
def noGs (g : Gs) : Bool := g.sp.has 0 || (g.n || g.f)
def otherGs (g : Gs) : Bool := g.n || (g.t || (g.f || decide (0 < g.s.length)))
def nothingGs (g : Gs) : Bool := g.sp.n && !otherGs g
def noneG : Gs := ⟨false, ⟨true, 0, 0⟩, false, false, []⟩
def zeroG : Gs := ⟨false, ⟨false, 0, 0⟩, false, false, []⟩
def b2n (b : Bool) : Nat := if b then 1 else 0
def singleGs (g : Gs) : Bool := decide (b2n g.n + b2n (!g.sp.n) + b2n g.t + b2n g.f = 1) && (decide (g.sp.lo = g.sp.hi) && decide (g.s.length = 0))
def alikeGs (g h : Gs) : Bool := singleGs g && (singleGs h && (g.n == h.n && (@decide _ (g.sp.dq h.sp) && (g.t == h.t && g.f == h.f))))

/-- What comes of two guesses, and whether it may be wrong. -/
def doGs (k : Int) (g h : Gs) : Gs × Bool :=
  if k = 4 then (g, false)
  else if k = 10 then (⟨false, ⟨true, 0, 0⟩, noGs g, yesGs g, []⟩, false)
  else if nothingGs g || nothingGs h then (noneG, false)
  else if k = 9 then (⟨false, ⟨true, 0, 0⟩, (g.n && h.n) || (!(meetSp g.sp h.sp).n || ((g.t && h.t) || ((g.f && h.f) || g.s.any fun x => h.s.contains x))), !alikeGs g h, []⟩, false)
  else if k = 8 then (⟨false, ⟨true, 0, 0⟩, !(g.sp.n || h.sp.n) && decide (g.sp.lo < h.sp.hi), !(g.sp.n || h.sp.n) && decide (h.sp.lo ≤ g.sp.hi), []⟩, otherGs g || otherGs h)
  else (⟨false, doSp k g.sp h.sp, false, false, []⟩, otherGs g || otherGs h)
end Go.Proofs.YtmapdpcfanecdaaGreat
