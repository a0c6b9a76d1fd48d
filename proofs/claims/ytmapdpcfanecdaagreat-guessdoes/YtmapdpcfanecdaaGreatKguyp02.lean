/- What the document says of guesses, as plain Lean functions: no program in sight. -/
import Derived.Test.YtmapdpcfanecdaaGreatKguyp01
import Derived.Lib.SmallJoins
import Derived.Deep.Slices
import Derived.ProofKit
namespace Go.Proofs.YtmapdpcfanecdaaGreat
set_option linter.unusedVariables false
set_option linter.unusedSimpArgs false
open Go.RowKit Go.ChangeShapes Go.WideShapes Go.Joins Go.Deep

theorem list_six {α : Type} (l : List α) (h : l.length = 6) : ∃ a b c d e f, l = [a, b, c, d, e, f] := by
  match l, h with
  | [a, b, c, d, e, f], _ => exact ⟨a, b, c, d, e, f, rfl⟩
theorem cells_instr : Tryz.prog.cellsOf 113 = 6 := by kernel_rfl
theorem cells_int : Tryz.prog.cellsOf 3 = 1 := by kernel_rfl
theorem cells_program : Tryz.prog.cellsOf 24 = 3 := by kernel_rfl

section
variable {H : Type} {enc : TypeId × Value → H} {w : World} {base : Nat} {spare : Nat → Bool} {held : Bool}

set_option maxRecDepth 100000 in
theorem read_ins {fuel : Nat} {cs : List Value} {x : DataW H × List MemPlace} (h : DataW.trod enc Tryz.prog w base spare held fuel 113 cs = some x) :
    ∃ i : Ins, cs = [.int .i64 i.k, .int .i64 i.to, .int .i64 i.a, .int .i64 i.b, .int .i64 i.n, .int .i64 i.g] ∧ True := by
  obtain ⟨xs, n, _, _, hl, hx, hf⟩ := DataW.trod_struct Tryz.underlying113 h
  rw [cells_instr] at hl
  obtain ⟨c0, c1, c2, c3, c4, c5, rfl⟩ := list_six cs hl
  obtain ⟨y0, y1, y2, y3, y4, y5, rfl⟩ := list_six xs hx
  have g0 := hf 0 _ rfl
  have g1 := hf 1 _ rfl
  have g2 := hf 2 _ rfl
  have g3 := hf 3 _ rfl
  have g4 := hf 4 _ rfl
  have g5 := hf 5 _ rfl
  simp [cells_int] at g0 g1 g2 g3 g4 g5
  obtain ⟨a0, e0, _, w0⟩ := DataW.trod_int Tryz.underlying3 g0
  obtain ⟨a1, e1, _, w1⟩ := DataW.trod_int Tryz.underlying3 g1
  obtain ⟨a2, e2, _, w2⟩ := DataW.trod_int Tryz.underlying3 g2
  obtain ⟨a3, e3, _, w3⟩ := DataW.trod_int Tryz.underlying3 g3
  obtain ⟨a4, e4, _, w4⟩ := DataW.trod_int Tryz.underlying3 g4
  obtain ⟨a5, e5, _, w5⟩ := DataW.trod_int Tryz.underlying3 g5
  simp at e0 e1 e2 e3 e4 e5
  subst e0 e1 e2 e3 e4 e5
  exact ⟨⟨a0, a1, a2, a3, a4, a5⟩, rfl, trivial⟩

set_option maxRecDepth 100000 in
/-- A slice of instructions. -/
theorem read_code {fuel : Nat} {v : Value} {x : DataW H × List MemPlace} (h : DataW.trod enc Tryz.prog w base spare held fuel 22 [v] = some x) :
    ∃ (s : Option Addr) (cap : Nat) (c : List Ins), v = .slice s c.length cap ∧ c.length ≤ cap ∧ cap ≤ maxLen ∧ CodeAt w s c ∧ True := by
  rcases open_slice Tryz.underlying22 h with ⟨hv, _⟩ | ⟨a, len, cap, m, n, D, Pl, hv, hb, hl, hm, hmm, hx, hi⟩
  · simp at hv
    subst hv
    exact ⟨none, 0, [], rfl, Nat.le_refl _, by unfold maxLen; omega, .inl rfl, trivial⟩
  · simp at hv
    subst hv
    have hlm : len ≤ m := by rw [hmm]; split <;> omega
    have each : ∀ i, i < len → ∃ q : Ins, (∀ j, j < 6 → w.cell? (a.add (i * 6 + j)) = [Value.int .i64 q.k, .int .i64 q.to, .int .i64 q.a, .int .i64 q.b, .int .i64 q.n, .int .i64 q.g][j]?) ∧ True := by
      intro i hil
      obtain ⟨cs', h1, h2⟩ := hi i (by omega)
      rw [cells_instr] at h1
      obtain ⟨_, _, hcell⟩ := World.cells?_some h1
      obtain ⟨q, rfl, hq⟩ := read_ins h2
      refine ⟨q, fun j hj => ?_, hq⟩
      rw [← Deep.add_add]
      exact hcell j hj
    have inh : Nonempty Ins := ⟨⟨0, 0, 0, 0, 0, 0⟩⟩
    have hch : ∃ f : Nat → Ins, ∀ i, i < len → (∀ j, j < 6 → w.cell? (a.add (i * 6 + j)) = [Value.int .i64 (f i).k, .int .i64 (f i).to, .int .i64 (f i).a, .int .i64 (f i).b, .int .i64 (f i).n, .int .i64 (f i).g][j]?) ∧ True := by
      refine ⟨fun i => if hi : i < len then Classical.choose (each i hi) else Classical.choice inh, fun i hi => ?_⟩
      simp only [dif_pos hi]
      exact Classical.choose_spec (each i hi)
    obtain ⟨f, hf⟩ := hch
    refine ⟨some a, cap, (List.range len).map f, by simp, by simpa using hl, hm, ?_, ?_⟩
    · by_cases h0 : len = 0
      · left; subst h0; rfl
      · right
        have ha := (hf 0 (by omega)).1 0 (by omega)
        simp [Addr.add] at ha
        obtain ⟨b, off, sp⟩ := a
        have hsp : sp = none := by
          cases sp with
          | none => rfl
          | some z => simp [World.cell?] at ha; split at ha <;> simp_all
        subst hsp
        refine ⟨b, off, rfl, World.block_lt_of_cell? w _ ha, fun k hk => ?_⟩
        have hkl : k < len := by simpa using hk
        have := (hf k hkl).1
        have e : ((List.range len).map f)[k] = f k := by simp
        rw [e]
        have pl : ∀ n, (⟨b, off, none⟩ : Addr).add n = ⟨b, off + n, none⟩ := fun n => by unfold Addr.add; split <;> simp_all
        refine ⟨?_, ?_, ?_, ?_, ?_, ?_⟩
        · simpa [pl] using this 0 (by omega)
        · simpa [pl, Nat.add_assoc] using this 1 (by omega)
        · simpa [pl, Nat.add_assoc] using this 2 (by omega)
        · simpa [pl, Nat.add_assoc] using this 3 (by omega)
        · simpa [pl, Nat.add_assoc] using this 4 (by omega)
        · simpa [pl, Nat.add_assoc] using this 5 (by omega)
    · trivial

set_option maxRecDepth 100000 in
/-- A program that is handed in. -/
theorem open_program {r : Reach} {b0 : Nat} {v : Value} {d : DataW H} {p : List MemPlace} (hv : Value.okWide Tryz.prog w r b0 24 v) (h : DataW.Trod enc Tryz.prog w base spare held 24 v d p) :
    ∃ (V F : Int) (s : Option Addr) (cap : Nat) (c : List Ins), v = .agg #[.int .i64 V, .int .i64 F, .slice s c.length cap]  ∧ c.length ≤ cap ∧ cap ≤ maxLen ∧ CodeAt w s c ∧ True := by
  obtain ⟨c0, c1, c2, y0, y1, y2, n, rfl, _, _, h0, h1, h2⟩ := open_agg3 Tryz.underlying24 (by kernel_rfl) cells_program hv h
  obtain ⟨V, e0, _, w0⟩ := DataW.trod_int Tryz.underlying3 h0
  obtain ⟨F, e1, _, w1⟩ := DataW.trod_int Tryz.underlying3 h1
  simp at e0 e1
  subst e0 e1
  obtain ⟨s, cap, c, rfl, hl, hm, hc, hf⟩ := read_code h2
  exact ⟨V, F, s, cap, c, rfl, hl, hm, hc, hf⟩
end
end Go.Proofs.YtmapdpcfanecdaaGreat

namespace Go.Proofs.YtmapdpcfanecdaaGreat
set_option linter.unusedVariables false
set_option linter.unusedSimpArgs false

/-- A span. -/
structure Sp where
  n : Bool
  lo : Int
  hi : Int
def Sp.dq(s t:Sp):Decidable (s=t):=decidable_of_iff (s.n=t.n/\s.lo=t.lo/\s.hi=t.hi) (by cases s;cases t;simp)

abbrev inNum (x : Int) : Prop := -2147483648 ≤ x ∧ x ≤ 2147483647

/-- What is told of a span. -/
def ckSp (s : Sp) : Int :=
  if ¬ (inNum s.lo ∧ inNum s.hi) then 3 else if s.n = true ∧ ¬ (s.lo = 0 ∧ s.hi = 0) then 1 else if s.hi < s.lo then 4 else 0

def ckSps (s t : Sp) : Int := if ckSp s = 0 then ckSp t else ckSp s

/-- It is right. -/
def Sp.Ok (s : Sp) : Prop := inNum s.lo ∧ inNum s.hi ∧ (s.n = true → s.lo = 0 ∧ s.hi = 0) ∧ s.lo ≤ s.hi

theorem ckSp_ok {s : Sp} : ckSp s = 0 ↔ s.Ok := by
  unfold ckSp Sp.Ok
  by_cases h1 : inNum s.lo ∧ inNum s.hi
  · rw [if_neg (not_not_intro h1)]
    by_cases h2 : s.n = true ∧ ¬ (s.lo = 0 ∧ s.hi = 0)
    · rw [if_pos h2]
      refine ⟨fun h => absurd h (by decide), fun h => absurd (h.2.2.1 h2.1) h2.2⟩
    · rw [if_neg h2]
      have h3 : s.n = true → s.lo = 0 ∧ s.hi = 0 := fun hn => Decidable.not_not.1 fun hc => h2 ⟨hn, hc⟩
      by_cases h4 : s.hi < s.lo
      · rw [if_pos h4]
        exact ⟨fun h => absurd h (by decide), fun h => absurd h.2.2.2 (by omega)⟩
      · rw [if_neg h4]
        exact ⟨fun _ => ⟨h1.1, h1.2, h3, by omega⟩, fun _ => rfl⟩
  · rw [if_pos h1]
    exact ⟨fun h => absurd h (by decide), fun h => absurd ⟨h.1, h.2.1⟩ h1⟩

theorem ckSps_ok {s t : Sp} : ckSps s t = 0 ↔ s.Ok ∧ t.Ok := by
  unfold ckSps
  by_cases h : ckSp s = 0
  · rw [if_pos h, ckSp_ok]
    exact ⟨fun ht => ⟨ckSp_ok.1 h, ht⟩, fun ht => ht.2⟩
  · rw [if_neg h]
    exact ⟨fun ht => absurd ht h, fun ht => absurd (ckSp_ok.2 ht.1) h⟩

def Sp.has (s : Sp) (x : Int) : Bool := !s.n && (decide (s.lo ≤ x) && decide (x ≤ s.hi))
def joinSp (s t : Sp) : Sp := if s.n then t else if t.n then s else ⟨false, min s.lo t.lo, max s.hi t.hi⟩
def wideSp (s t : Sp) : Sp := if s.n then t else if t.n then s else ⟨false, if t.lo < s.lo then -2147483648 else s.lo, if s.hi < t.hi then 2147483647 else s.hi⟩
def meetSp (s t : Sp) : Sp := if s.n || t.n || decide (min s.hi t.hi < max s.lo t.lo) then ⟨true, 0, 0⟩ else ⟨false, max s.lo t.lo, min s.hi t.hi⟩
def spIn (s t : Sp) : Bool := s.n || (t.has s.lo && t.has s.hi)

def opOf (k x y : Int) : Int := if k = 5 then x + y else if k = 6 then x - y else x * y
def min4 (a b c d : Int) : Int := min (min (min a b) c) d
def max4 (a b c d : Int) : Int := max (max (max a b) c) d
def hull (a b c d : Int) : Sp := if inNum (min4 a b c d) ∧ inNum (max4 a b c d) then ⟨false, min4 a b c d, max4 a b c d⟩ else ⟨false, -2147483648, 2147483647⟩
def doSp (k : Int) (s t : Sp) : Sp := if s.n || t.n then ⟨true, 0, 0⟩ else hull (opOf k s.lo t.lo) (opOf k s.lo t.hi) (opOf k s.hi t.lo) (opOf k s.hi t.hi)

def zeroSp : Sp := ⟨false, 0, 0⟩
end Go.Proofs.YtmapdpcfanecdaaGreat

namespace Go.Proofs.YtmapdpcfanecdaaGreat
set_option linter.unusedVariables false
set_option linter.unusedSimpArgs false

def wrS (n : Int) : Int := (n + 2147483648) % 4294967296 - 2147483648
theorem wrS_num (n : Int) : inNum (wrS n) := by unfold inNum wrS; omega
theorem wrS_id {n : Int} (h : inNum n) : wrS n = n := by unfold inNum at h; unfold wrS; omega

/-- A product lies between what comes of one's ends. -/
theorem mul_between {a b lo hi : Int} (h1 : lo ≤ a) (h2 : a ≤ hi) : min (lo * b) (hi * b) ≤ a * b ∧ a * b ≤ max (lo * b) (hi * b) := by
  rcases Int.le_total 0 b with hb | hb
  · have e1 := Int.mul_le_mul_of_nonneg_right h1 hb
    have e2 := Int.mul_le_mul_of_nonneg_right h2 hb
    omega
  · have e1 := Int.mul_le_mul_of_nonpos_right h1 hb
    have e2 := Int.mul_le_mul_of_nonpos_right h2 hb
    omega

theorem op_between {k a b lo hi lo' hi' : Int} (hk : k = 5 ∨ k = 6 ∨ k = 7) (h1 : lo ≤ a) (h2 : a ≤ hi) (h3 : lo' ≤ b) (h4 : b ≤ hi') :
    min4 (opOf k lo lo') (opOf k lo hi') (opOf k hi lo') (opOf k hi hi') ≤ opOf k a b ∧ opOf k a b ≤ max4 (opOf k lo lo') (opOf k lo hi') (opOf k hi lo') (opOf k hi hi') := by
  rcases hk with rfl | rfl | rfl
  · simp only [opOf, min4, max4]
    simp only [if_true]
    omega
  · simp only [opOf, min4, max4]
    simp only [show ¬ ((6 : Int) = 5) by decide, if_false, if_true]
    omega
  · simp only [opOf, min4, max4]
    simp only [show ¬ ((7 : Int) = 5) by decide, show ¬ ((7 : Int) = 6) by decide, if_false]
    have e1 := mul_between (b := b) h1 h2
    have e2 := mul_between (b := lo) h3 h4
    have e3 := mul_between (b := hi) h3 h4
    rw [Int.mul_comm b lo, Int.mul_comm lo' lo, Int.mul_comm hi' lo] at e2
    rw [Int.mul_comm b hi, Int.mul_comm lo' hi, Int.mul_comm hi' hi] at e3
    omega

theorem do_ok {k : Int} {s t : Sp} (hs : s.Ok) (ht : t.Ok) : (doSp k s t).Ok := by
  unfold doSp
  split
  · exact ⟨by decide, by decide, fun _ => ⟨rfl, rfl⟩, Int.le_refl _⟩
  · unfold hull
    split
    · rename_i h
      refine ⟨h.1, h.2, fun hn => (by cases hn), ?_⟩
      unfold min4 max4
      simp only
      omega
    · exact ⟨by decide, by decide, fun hn => (by cases hn), by decide⟩

theorem do_has {k a b : Int} {s t : Sp} (hk : k = 5 ∨ k = 6 ∨ k = 7) (hs : s.n = false) (ht : t.n = false) (ha : s.lo ≤ a ∧ a ≤ s.hi) (hb : t.lo ≤ b ∧ b ≤ t.hi) : (doSp k s t).has (wrS (opOf k a b)) = true := by
  have hop := op_between hk ha.1 ha.2 hb.1 hb.2
  unfold doSp
  rw [hs, ht, if_neg (by simp)]
  unfold hull
  split
  · rename_i h
    have hn : inNum (opOf k a b) := ⟨Int.le_trans h.1.1 hop.1, Int.le_trans hop.2 h.2.2⟩
    rw [wrS_id hn]
    simp only [Sp.has, Bool.not_false, Bool.true_and, Bool.and_eq_true, decide_eq_true_eq]
    exact hop
  · have := wrS_num (opOf k a b)
    simp only [Sp.has, Bool.not_false, Bool.true_and, Bool.and_eq_true, decide_eq_true_eq]
    exact this

theorem join_ok {s t : Sp} (hs : s.Ok) (ht : t.Ok) : (joinSp s t).Ok := by
  unfold joinSp
  split
  · exact ht
  · split
    · exact hs
    · obtain ⟨a, b, _, d⟩ := hs
      obtain ⟨a', b', _, d'⟩ := ht
      unfold inNum at a b a' b'
      refine ⟨?_, ?_, fun hn => (by cases hn), ?_⟩ <;> (try unfold inNum) <;> simp only <;> omega

theorem join_has {a : Int} {s t : Sp} (hs : s.n = false) (ht : t.n = false) (ha : (s.lo ≤ a ∧ a ≤ s.hi) ∨ (t.lo ≤ a ∧ a ≤ t.hi)) : (joinSp s t).has a = true := by
  unfold joinSp
  rw [hs, ht]
  simp only [Bool.false_eq_true, if_false, Sp.has, Bool.not_false, Bool.true_and, Bool.and_eq_true, decide_eq_true_eq]
  omega

theorem wide_ok {s t : Sp} (hs : s.Ok) (ht : t.Ok) : (wideSp s t).Ok := by
  unfold wideSp
  split
  · exact ht
  · split
    · exact hs
    · obtain ⟨a, b, _, d⟩ := hs
      obtain ⟨a', b', _, d'⟩ := ht
      unfold inNum at a b a' b'
      refine ⟨?_, ?_, fun hn => (by cases hn), ?_⟩ <;> (try unfold inNum) <;> simp only <;> (repeat' split) <;> omega

/-- How often it may still be widened. -/
def pot (s : Sp) : Int := if s.n then 2 else (if s.lo = -2147483648 then 0 else 1) + (if s.hi = 2147483647 then 0 else 1)
theorem pot_le (s : Sp) : pot s ≤ 2 ∧ 0 ≤ pot s := by unfold pot; (repeat' split) <;> omega

theorem wide_pot {s t : Sp} (hn : s.n = false) (hs : s.Ok) (hne : wideSp s t ≠ s) : pot (wideSp s t) + 1 ≤ pot s := by
  obtain ⟨n, lo, hi⟩ := s
  obtain ⟨n', lo', hi'⟩ := t
  simp only at hn
  subst hn
  obtain ⟨a, b, _, d⟩ := hs
  simp only [inNum] at a b
  cases n' with
  | true => exact absurd rfl hne
  | false =>
    have e0 : wideSp ⟨false, lo, hi⟩ ⟨false, lo', hi'⟩ = ⟨false, if lo' < lo then -2147483648 else lo, if hi < hi' then 2147483647 else hi⟩ := rfl
    rw [e0] at hne ⊢
    unfold pot
    simp only [Bool.false_eq_true, if_false]
    by_cases h1 : lo' < lo
    · by_cases h2 : hi < hi'
      · simp only [if_pos h1, if_pos h2] at hne ⊢
        have : ¬ (lo = -2147483648 ∧ hi = 2147483647) := fun h => hne (by rw [h.1, h.2])
        simp only [eq_self, if_true]
        (repeat' split) <;> omega
      · simp only [if_pos h1, if_neg h2] at hne ⊢
        have : ¬ lo = -2147483648 := fun h => hne (by rw [h])
        simp only [eq_self, if_true]
        (repeat' split) <;> omega
    · by_cases h2 : hi < hi'
      · simp only [if_neg h1, if_pos h2] at hne ⊢
        have : ¬ hi = 2147483647 := fun h => hne (by rw [h])
        simp only [eq_self, if_true]
        (repeat' split) <;> omega
      · simp only [if_neg h1, if_neg h2] at hne
        exact absurd rfl hne

/-- What is widened has all that it had. -/
theorem wide_meet {s t : Sp} (hs : s.Ok) (ht : t.Ok) : meetSp s (wideSp s t) = s := by
  obtain ⟨n, lo, hi⟩ := s
  obtain ⟨n', lo', hi'⟩ := t
  obtain ⟨a, b, hz, d⟩ := hs
  simp only [inNum] at a b d hz
  cases n with
  | true =>
    obtain ⟨h1, h2⟩ := hz rfl
    subst h1 h2
    rfl
  | false =>
    cases n' with
    | true =>
      have e0 : wideSp ⟨false, lo, hi⟩ ⟨true, lo', hi'⟩ = ⟨false, lo, hi⟩ := rfl
      rw [e0]
      unfold meetSp
      rw [if_neg (by simp only [Bool.false_or, decide_eq_true_eq]; omega)]
      simp only [Sp.mk.injEq, true_and]
      omega
    | false =>
      have e0 : wideSp ⟨false, lo, hi⟩ ⟨false, lo', hi'⟩ = ⟨false, if lo' < lo then -2147483648 else lo, if hi < hi' then 2147483647 else hi⟩ := rfl
      rw [e0]
      unfold meetSp
      have e1 : max lo (if lo' < lo then -2147483648 else lo) = lo := by split <;> omega
      have e2 : min hi (if hi < hi' then 2147483647 else hi) = hi := by split <;> omega
      simp only [e1, e2]
      rw [if_neg (by simp only [Bool.false_or, decide_eq_true_eq]; omega)]
end Go.Proofs.YtmapdpcfanecdaaGreat

namespace Go.Proofs.YtmapdpcfanecdaaGreat
set_option linter.unusedVariables false
set_option linter.unusedSimpArgs false

/-- A guess. -/
structure Gs where
  n : Bool
  sp : Sp
  t : Bool
  f : Bool
  s : List Int

/-- Is a thing made there? -/
def isSite (c : List Ins) (x : Int) : Bool := decide (0 ≤ x) && (decide (x < c.length) && decide ((c.getD x.toNat ⟨0, 0, 0, 0, 0, 0⟩).k = 11))

def rising : List Int → Bool
  | [] => true
  | [_] => true
  | a :: b :: r => decide (a < b) && rising (b :: r)

/-- What is told of a guess, in a program that is right. -/
def ckGs (c : List Ins) (g : Gs) : Int := if ckSp g.sp ≠ 0 then ckSp g.sp else if g.s.all (isSite c) = false then 5 else if rising g.s = false then 4 else 0

/-- What is told of guesses, one after the other. -/
def ckGss (c : List Ins) : List Gs → Int
  | [] => 0
  | g :: r => if ckGs c g = 0 then ckGss c r else ckGs c g

/-- .. and of the program first. -/
def ckAllG (V F : Int) (c : List Ins) (l : List Gs) : Int := if ckProg V F c = 0 then ckGss c l else ckProg V F c

/-- The sites that one of both has. -/
def siteSet (a b : List Int) : List Int := ((List.range 60).map fun n : Nat => (n : Int)).filter fun x => a.contains x || b.contains x

def joinGs (wide : Bool) (g h : Gs) : Gs := ⟨g.n || h.n, if wide then wideSp g.sp h.sp else joinSp g.sp h.sp, g.t || h.t, g.f || h.f, siteSet g.s h.s⟩
def inGs (g h : Gs) : Bool := !(g.n && !h.n) && (!(g.t && !h.t) && (!(g.f && !h.f) && (spIn g.sp h.sp && g.s.all fun x => h.s.contains x)))
def heldGs (g : Gs) (k n site : Int) : Bool := if k = 0 then g.n else if k = 1 then g.sp.has n else if k = 2 then (g.t && decide (n = 1)) || (g.f && decide (n = 0)) else g.s.contains site
def yesGs (g : Gs) : Bool := (!g.sp.n && !decide (g.sp.lo = 0 ∧ g.sp.hi = 0)) || (g.t || decide (0 < g.s.length))
def noGs (g : Gs) : Bool := g.sp.has 0 || (g.n || g.f)
def otherGs (g : Gs) : Bool := g.n || (g.t || (g.f || decide (0 < g.s.length)))
def nothingGs (g : Gs) : Bool := g.sp.n && !otherGs g
def noneG : Gs := ⟨false, ⟨true, 0, 0⟩, false, false, []⟩
def zeroG : Gs := ⟨false, ⟨false, 0, 0⟩, false, false, []⟩
def b2n (b : Bool) : Nat := if b then 1 else 0
def singleGs (g : Gs) : Bool := decide (b2n g.n + b2n (!g.sp.n) + b2n g.t + b2n g.f = 1) && (decide (g.sp.lo = g.sp.hi) && decide (g.s.length = 0))
def alikeGs (g h : Gs) : Bool := singleGs g && (singleGs h && (g.n == h.n && (@decide _ (g.sp.dq h.sp) && (g.t == h.t && g.f == h.f))))

/-- What comes of two guesses, and whether it may be wrong. -/
def doGs (k : Int) (g h : Gs) : Gs × Bool :=
  if k = 4 then (g, false)
  else if k = 10 then (⟨false, ⟨true, 0, 0⟩, noGs g, yesGs g, []⟩, false)
  else if nothingGs g || nothingGs h then (noneG, false)
  else if k = 9 then (⟨false, ⟨true, 0, 0⟩, (g.n && h.n) || (!(meetSp g.sp h.sp).n || ((g.t && h.t) || ((g.f && h.f) || g.s.any fun x => h.s.contains x))), !alikeGs g h, []⟩, false)
  else if k = 8 then (⟨false, ⟨true, 0, 0⟩, !(g.sp.n || h.sp.n) && decide (g.sp.lo < h.sp.hi), !(g.sp.n || h.sp.n) && decide (h.sp.lo ≤ g.sp.hi), []⟩, otherGs g || otherGs h)
  else (⟨false, doSp k g.sp h.sp, false, false, []⟩, otherGs g || otherGs h)
end Go.Proofs.YtmapdpcfanecdaaGreat
