/- Walks over the document's own answers: the digits of a number. -/
import Derived.Test.YtmapdpcfanecdaaDoorProg
import Derived.WalkKit
import Derived.WalkSpells
import Derived.WalkLawsBesides
import Derived.Handy
import Derived.Lib.ItoaNum
import Derived.Lib.ItoaLen
namespace Go.Proofs.YtmapdpcfanecdaaDoor
set_option linter.unusedVariables false
set_option linter.unusedSimpArgs false

/-- Is a number from l to m? -/
def btw (n l m : Int) : Bool := decide (l ≤ n ∧ n ≤ m)
theorem btw_true {n l m : Int} (h1 : l ≤ n) (h2 : n ≤ m) : btw n l m = true := by simp [btw, h1, h2]
theorem btw_lo {n l m : Int} (h : ¬ l ≤ n) : btw n l m = false := by simp [btw, h]
theorem btw_hi {n l m : Int} (h : ¬ n ≤ m) : btw n l m = false := by simp [btw, h]

theorem btw_cases {k : Int} (h : btw k 1 19 = true) : k = 1 ∨ k = 2 ∨ k = 3 ∨ k = 4 ∨ k = 5 ∨ k = 6 ∨ k = 7 ∨ k = 8 ∨ k = 9 ∨ k = 10 ∨ k = 11 ∨ k = 12 ∨ k = 13 ∨ k = 14 ∨ k = 15 ∨ k = 16 ∨ k = 17 ∨ k = 18 ∨ k = 19 := by
  simp [btw] at h; omega

theorem btw19 (k : Int) : btw k 1 19 = (decide (1 ≤ k) && decide (k ≤ 19)) := by simp [btw]

def nTo (k : Int) : Bool := btw k 1 12 || decide (k = 14)
def nA (k : Int) : Bool := btw k 4 10 || decide (k = 12) || decide (k = 13) || decide (k = 15) || decide (k = 17) || decide (k = 18)
def nB (k : Int) : Bool := btw k 5 9 || decide (k = 13)
def nN (k : Int) : Bool := decide (k = 1) || decide (k = 2) || btw k 12 14
def nG (k : Int) : Bool := decide (k = 15) || decide (k = 16)

/-- An instruction. -/
structure Ins where
  k : Int
  to : Int
  a : Int
  b : Int
  n : Int
  g : Int

/-- What is told of an instruction of a program with V variables, F fields, L instructions. -/
def ckOne (V F L : Int) (i : Ins) : Int :=
  if btw i.k 1 19 = false then 6
  else if (nTo i.k && !btw i.to 0 (V - 1)) || (nA i.k && !btw i.a 0 (V - 1)) || (nB i.k && !btw i.b 0 (V - 1)) || ((decide (i.k = 12) || decide (i.k = 13)) && !btw i.n 0 (F - 1)) || (nG i.k && !btw i.g 0 L) then 5
  else if (decide (i.k = 1) && !btw i.n (-2147483648) 2147483647) || (decide (i.k = 2) && !btw i.n 0 1) || (decide (i.k = 14) && !btw i.n 0 1000000) then 3
  else if (!nTo i.k && decide (i.to ≠ 0)) || (!nA i.k && decide (i.a ≠ 0)) || (!nB i.k && decide (i.b ≠ 0)) || (!nN i.k && decide (i.n ≠ 0)) || (!nG i.k && decide (i.g ≠ 0)) then 1
  else 0

def ckAll (V F L : Int) : List Ins → Int
  | [] => 0
  | i :: r => if ckOne V F L i = 0 then ckAll V F L r else ckOne V F L i

/-- What is told of a program. -/
def ckProg (V F : Int) (c : List Ins) : Int :=
  if btw V 1 8 = false || btw F 0 3 = false then 3 else if 60 < c.length then 2 else ckAll V F c.length c

/-- The word of a kind, as bytes; empty: it is none. -/
def wordB : Int → ByteArray
  | 1 => ⟨#[110, 117, 109, 98, 101, 114]⟩
  | 2 => ⟨#[116, 114, 117, 116, 104]⟩
  | 3 => ⟨#[110, 117, 108, 108]⟩
  | 4 => ⟨#[99, 111, 112, 121]⟩
  | 5 => ⟨#[97, 100, 100]⟩
  | 6 => ⟨#[115, 117, 98]⟩
  | 7 => ⟨#[109, 117, 108]⟩
  | 8 => ⟨#[108, 101, 115, 115]⟩
  | 9 => ⟨#[115, 97, 109, 101]⟩
  | 10 => ⟨#[110, 111, 116]⟩
  | 11 => ⟨#[110, 101, 119]⟩
  | 12 => ⟨#[103, 101, 116]⟩
  | 13 => ⟨#[112, 117, 116]⟩
  | 14 => ⟨#[105, 110, 112, 117, 116]⟩
  | 15 => ⟨#[105, 102]⟩
  | 16 => ⟨#[103, 111, 116, 111]⟩
  | 17 => ⟨#[101, 120, 112, 101, 99, 116]⟩
  | 18 => ⟨#[112, 114, 105, 110, 116]⟩
  | 19 => ⟨#[101, 110, 100]⟩
  | _ => ⟨#[]⟩

theorem wordB_none {k : Int} (h : btw k 1 19 = false) : wordB k = ⟨#[]⟩ := by
  have : ¬ (1 ≤ k ∧ k ≤ 19) := by simpa [btw] using h
  unfold wordB
  split <;> first | rfl | omega

end Go.Proofs.YtmapdpcfanecdaaDoor

namespace Go.Proofs.YtmapdpcfanecdaaDoor
set_option linter.unusedVariables false
set_option linter.unusedSimpArgs false

structure Val where
  k : Int
  n : Int

structure Thg where
  site : Int
  fs : List Val

structure St where
  at_ : Int
  vars : List Val
  things : List Thg
  taken : Int
  lines : List ByteArray
  fin : Int

/-- A value of a run that has T things. -/
def okVal (T : Nat) (v : Val) : Prop := (v.k = 0 ∧ v.n = 0) ∨ (v.k = 1 ∧ -2147483648 ≤ v.n ∧ v.n ≤ 2147483647) ∨ (v.k = 2 ∧ (v.n = 0 ∨ v.n = 1)) ∨ (v.k = 3 ∧ 0 ≤ v.n ∧ v.n < T)

/-- What counts as true. -/
def cnt (v : Val) : Bool := decide (v.k = 3) || ((decide (v.k = 1) || decide (v.k = 2)) && decide (v.n ≠ 0))

/-- Over 2 to the power of 32. -/
def wr (n : Int) : Int := (n + 2147483648) % 4294967296 - 2147483648

def truV (b : Bool) : Val := ⟨2, if b then 1 else 0⟩

def varAt (s : St) (i : Int) : Val := s.vars.getD i.toNat ⟨0, 0⟩
def putVar (s : St) (i : Int) (v : Val) : St := { s with vars := s.vars.set i.toNat v }

/-- An input, held within -N and N. -/
def clamp (n x : Int) : Int := if x > n then n else if x < -n then -n else x

def fieldAt (s : St) (t f : Int) : Val := ((s.things.getD t.toNat ⟨0, []⟩).fs).getD f.toNat ⟨0, 0⟩
def putField (s : St) (t f : Int) (v : Val) : St := { s with things := s.things.modify t.toNat fun x => { x with fs := x.fs.set f.toNat v } }

end Go.Proofs.YtmapdpcfanecdaaDoor

namespace Go.Proofs.YtmapdpcfanecdaaDoor
set_option linter.unusedVariables false
set_option linter.unusedSimpArgs false
open Go.RowKit

theorem ret_bool {a b : Bool} (h : a = b) : Ending.returned (.bool a) = .returned (.bool b) := by rw [h]
theorem ret_int {k : IntKind} {a b : Int} (h : a = b) : Ending.returned (.int k a) = .returned (.int k b) := by rw [h]
theorem ret_str {a b : ByteArray} (h : a = b) : Ending.returned (.string a) = .returned (.string b) := by rw [h]

theorem bcell {W w1 : World} (hb : Below W.heap.size W w1) : (∀ b o, b < W.heap.size → w1.cell? ⟨b, o, none⟩ = W.cell? ⟨b, o, none⟩) ∧ (∀ b o, b < W.heap.size → w1.frozen? ⟨b, o, none⟩ = W.frozen? ⟨b, o, none⟩) :=
  ⟨fun b o h => hb.cell (p := ⟨b, o, none⟩) h, fun b o h => hb.frozen (p := ⟨b, o, none⟩) h⟩

set_option maxHeartbeats 400000 in
theorem between_any (n l m : Int) (w : World) :
    Calls Tryd.prog 36 #[.int .i64 n, .int .i64 l, .int .i64 m] w fun e w' => e = .returned (.bool (btw n l m)) ∧ w' = w := by
  by_cases h1 : l ≤ n
  · by_cases h2 : n ≤ m
    · have hb := btw_true h1 h2
      go_enter Tryd.func36, Tryd.ntmps36
      go_wp2
      go_ret
      exact ⟨ret_bool hb.symm, rfl⟩
    · have hb := btw_hi (l := l) h2
      go_enter Tryd.func36, Tryd.ntmps36
      go_wp2
      go_ret
      exact ⟨rfl, rfl⟩
  · have hb := btw_lo (m := m) h1
    go_enter Tryd.func36, Tryd.ntmps36
    go_wp2
    go_ret
    exact ⟨rfl, rfl⟩
end Go.Proofs.YtmapdpcfanecdaaDoor

namespace Go.Proofs.YtmapdpcfanecdaaDoor
set_option linter.unusedVariables false
set_option linter.unusedSimpArgs false
open Go.RowKit

set_option maxHeartbeats 400000 in
theorem namesTo_any (k : Int) (w : World) :
    Calls Tryd.prog 57 #[.int .i64 k] w fun e w' => e = .returned (.bool (nTo k)) ∧ w' = w := by
  unfold nTo
  go_enter Tryd.func57, Tryd.ntmps57
  go_wp2_with (go_at_call 36; refine (between_any _ _ _ _).mono ?_; rintro e w' ⟨rfl, rfl⟩)
  all_goals go_ret
  all_goals exact ⟨ret_bool (by simp_all [BEq.beq]), rfl⟩

set_option maxHeartbeats 400000 in
theorem namesA_any (k : Int) (w : World) :
    Calls Tryd.prog 51 #[.int .i64 k] w fun e w' => e = .returned (.bool (nA k)) ∧ w' = w := by
  unfold nA
  go_enter Tryd.func51, Tryd.ntmps51
  go_wp2_with (go_at_call 36; refine (between_any _ _ _ _).mono ?_; rintro e w' ⟨rfl, rfl⟩)
  all_goals go_ret
  all_goals exact ⟨ret_bool (by simp_all [BEq.beq]), rfl⟩

set_option maxHeartbeats 400000 in
theorem namesB_any (k : Int) (w : World) :
    Calls Tryd.prog 52 #[.int .i64 k] w fun e w' => e = .returned (.bool (nB k)) ∧ w' = w := by
  unfold nB
  go_enter Tryd.func52, Tryd.ntmps52
  go_wp2_with (go_at_call 36; refine (between_any _ _ _ _).mono ?_; rintro e w' ⟨rfl, rfl⟩)
  all_goals go_ret
  all_goals exact ⟨ret_bool (by simp_all [BEq.beq]), rfl⟩

set_option maxHeartbeats 400000 in
theorem namesN_any (k : Int) (w : World) :
    Calls Tryd.prog 66 #[.int .i64 k] w fun e w' => e = .returned (.bool (nN k)) ∧ w' = w := by
  unfold nN
  go_enter Tryd.func66, Tryd.ntmps66
  go_wp2_with (go_at_call 36; refine (between_any _ _ _ _).mono ?_; rintro e w' ⟨rfl, rfl⟩)
  all_goals go_ret
  all_goals exact ⟨ret_bool (by simp_all [BEq.beq]), rfl⟩

set_option maxHeartbeats 400000 in
theorem namesGoto_any (k : Int) (w : World) :
    Calls Tryd.prog 40 #[.int .i64 k] w fun e w' => e = .returned (.bool (nG k)) ∧ w' = w := by
  unfold nG
  go_enter Tryd.func40, Tryd.ntmps40
  go_wp2
  all_goals go_ret
  all_goals exact ⟨ret_bool (by simp_all [BEq.beq]), rfl⟩
end Go.Proofs.YtmapdpcfanecdaaDoor

namespace Go.Proofs.YtmapdpcfanecdaaDoor
set_option linter.unusedVariables false
set_option linter.unusedSimpArgs false
open Go.RowKit

/-- An instruction lies in six cells. -/
def InsAt (w : World) (b o : Nat) (i : Ins) : Prop :=
  w.cell? ⟨b, o, none⟩ = some (.int .i64 i.k) ∧ w.cell? ⟨b, o + 1, none⟩ = some (.int .i64 i.to) ∧ w.cell? ⟨b, o + 2, none⟩ = some (.int .i64 i.a) ∧
  w.cell? ⟨b, o + 3, none⟩ = some (.int .i64 i.b) ∧ w.cell? ⟨b, o + 4, none⟩ = some (.int .i64 i.n) ∧ w.cell? ⟨b, o + 5, none⟩ = some (.int .i64 i.g)

/-- A list of instructions lies behind a slice's address. -/
def CodeAt (w : World) (s : Option Addr) (c : List Ins) : Prop :=
  c = [] ∨ ∃ b off, s = some ⟨b, off, none⟩ ∧ b < w.heap.size ∧ ∀ k (h : k < c.length), InsAt w b (off + k * 6) c[k]

theorem InsAt.below {B : Nat} {w w' : World} {b o : Nat} {i : Ins} (h : InsAt w b o i) (hb : Below B w w') (hB : b < B) : InsAt w' b o i := by
  obtain ⟨h0, h1, h2, h3, h4, h5⟩ := h
  refine ⟨?_, ?_, ?_, ?_, ?_, ?_⟩ <;> rw [hb.cell (by simpa using hB)] <;> assumption

theorem CodeAt.below {B : Nat} {w w' : World} {s : Option Addr} {c : List Ins} (h : CodeAt w s c) (hb : Below B w w') (hB : w.heap.size ≤ B) : CodeAt w' s c := by
  rcases h with h | ⟨b, off, hs, hlt, hi⟩
  · exact .inl h
  · exact .inr ⟨b, off, hs, Nat.lt_of_lt_of_le hlt hb.size, fun k h => (hi k h).below hb (by omega)⟩

/-- A list of integers lies behind a slice's address. -/
def IntsAt (w : World) (s : Option Addr) (l : List Int) : Prop :=
  l = [] ∨ ∃ b off, s = some ⟨b, off, none⟩ ∧ b < w.heap.size ∧ ∀ k (h : k < l.length), w.cell? ⟨b, off + k, none⟩ = some (.int .i64 l[k])

/-- A list of values lies behind a slice's address. -/
def ValsAt (w : World) (s : Option Addr) (l : List Val) : Prop :=
  l = [] ∨ ∃ b off, s = some ⟨b, off, none⟩ ∧ b < w.heap.size ∧ ∀ k (h : k < l.length), w.cell? ⟨b, off + k * 2, none⟩ = some (.int .i64 l[k].k) ∧ w.cell? ⟨b, off + k * 2 + 1, none⟩ = some (.int .i64 l[k].n)

theorem IntsAt.below {B : Nat} {w w' : World} {s : Option Addr} {l : List Int} (h : IntsAt w s l) (hb : Below B w w') (hB : w.heap.size ≤ B) : IntsAt w' s l := by
  rcases h with h | ⟨b, off, hs, hlt, hi⟩
  · exact .inl h
  · exact .inr ⟨b, off, hs, Nat.lt_of_lt_of_le hlt hb.size, fun k h => by rw [hb.cell (by simp; omega)]; exact hi k h⟩

theorem ValsAt.below {B : Nat} {w w' : World} {s : Option Addr} {l : List Val} (h : ValsAt w s l) (hb : Below B w w') (hB : w.heap.size ≤ B) : ValsAt w' s l := by
  rcases h with h | ⟨b, off, hs, hlt, hi⟩
  · exact .inl h
  · exact .inr ⟨b, off, hs, Nat.lt_of_lt_of_le hlt hb.size, fun k h => by rw [hb.cell (by simp; omega), hb.cell (by simp; omega)]; exact hi k h⟩

end Go.Proofs.YtmapdpcfanecdaaDoor

namespace Go.Proofs.YtmapdpcfanecdaaDoor
set_option linter.unusedVariables false
set_option linter.unusedSimpArgs false
open Go.RowKit

set_option maxHeartbeats 1000000 in
theorem word_any (k : Int) (w : World) :
    Calls Tryd.prog 65 #[.int .i64 k] w fun e w' => e = .returned (.string (wordB k)) ∧ Below w.heap.size w w' := by
  by_cases h : btw k 1 19 = true
  · rcases btw_cases h with rfl | rfl | rfl | rfl | rfl | rfl | rfl | rfl | rfl | rfl | rfl | rfl | rfl | rfl | rfl | rfl | rfl | rfl | rfl
    all_goals
      go_enter Tryd.func65, Tryd.ntmps65
      go_wp2_with (go_at_call 36; refine (between_any _ _ _ _).mono ?_; rintro e w' ⟨rfl, rfl⟩)
      go_ret
      exact ⟨rfl, by go_grown⟩
  · have h : btw k 1 19 = false := by simpa using h
    have hw := wordB_none h
    go_enter Tryd.func65, Tryd.ntmps65
    go_wp2_with (go_at_call 36; refine (between_any _ _ _ _).mono ?_; rintro e w' ⟨rfl, rfl⟩)
    go_ret
    exact ⟨ret_str hw.symm, by go_grown⟩
end Go.Proofs.YtmapdpcfanecdaaDoor

namespace Go.Proofs.YtmapdpcfanecdaaDoor
set_option linter.unusedVariables false
set_option linter.unusedSimpArgs false
open Go.RowKit

/-- The digits of a number that is not below 0. -/
def dz (z : Int) : ByteArray := ⟨(Lib.decDigits z.toNat).toArray⟩
theorem dz_size (z : Int) (h0 : 0 ≤ z) (h1 : z ≤ 9223372036854775807) : (dz z).size ≤ 20 := by
  have : (dz z).size = (Lib.decDigits z.toNat).length := rfl
  rw [this, Lib.decDigits_length]
  exact Lib.nDigits_le20 _ (by omega)
theorem dz_more (z : Int) (h : 10 ≤ z) : dz (z / 10) ++ dz (z % 10) = dz z := by
  have e1 : (z / 10).toNat = z.toNat / 10 := by omega
  have e2 : (z % 10).toNat = z.toNat % 10 := by omega
  have hd : Lib.decDigits z.toNat = Lib.decDigits (z.toNat / 10) ++ Lib.decDigits (z.toNat % 10) := by
    rw [Lib.decDigits_one (i := z.toNat % 10) (by omega)]
    conv => lhs; rw [Lib.decDigits, dif_neg (by omega)]
  unfold dz
  rw [hd, e1, e2]
  apply ByteArray.ext
  simp

set_option maxHeartbeats 1000000 in
set_option maxRecDepth 10000 in
theorem digits_one (n : Nat) (w : World) (h : n < 10) :
    Calls Tryd.prog 38 #[.int .i64 n] w fun e w' => e = .returned (.string (dz n)) ∧ Below w.heap.size w w' := by
  have : n = 0 ∨ n = 1 ∨ n = 2 ∨ n = 3 ∨ n = 4 ∨ n = 5 ∨ n = 6 ∨ n = 7 ∨ n = 8 ∨ n = 9 := by omega
  have hd : dz n = ⟨#[UInt8.ofNat (48 + n)]⟩ := by unfold dz; rw [show (n : Int).toNat = n by omega, Lib.decDigits_one h]
  rw [hd]
  have hcv := fun (c : Int) (wx : World) (hc : wx.cell? ⟨w.heap.size, 0, none⟩ = some (.int .u8 c)) => run_convert_bytes_arg (P := Tryd.prog) (w := wx) 63 5 Tryd.underlying63 Tryd.underlying5 w.heap.size 0 1 1 [c] rfl
  rcases this with rfl | rfl | rfl | rfl | rfl | rfl | rfl | rfl | rfl | rfl
  all_goals
    go_enter Tryd.func38, Tryd.ntmps38
    go_wp2
    go_ret
    exact ⟨ret_str rfl, by go_grown⟩

set_option maxHeartbeats 1000000 in
set_option maxRecDepth 10000 in
theorem digits_more (z : Int) (w : World) (h : 10 ≤ z) (h63 : z ≤ 9223372036854775807)
    (ih : ∀ (k : Int) (w : World), 0 ≤ k → k < z → Calls Tryd.prog 38 #[.int .i64 k] w fun e w' => e = .returned (.string (dz k)) ∧ Below w.heap.size w w') :
    Calls Tryd.prog 38 #[.int .i64 z] w fun e w' => e = .returned (.string (dz z)) ∧ Below w.heap.size w w' := by
  have hd : Hid (dz (z / 10) ++ dz (z % 10) = dz z) := dz_more z h
  have l1 := dz_size (z / 10) (by omega) (by omega)
  have l2 := dz_size (z % 10) (by omega) (by omega)
  have s1 : ¬ 9223372036854775807 < (dz (z / 10)).size + (dz (z % 10)).size := by omega
  go_enter Tryd.func38, Tryd.ntmps38
  go_wp2_with (go_at_call 38; refine (ih _ _ ?h1 ?h2).mono ?_; (case h1 => omega); (case h2 => omega); rintro e w1 ⟨rfl, hb1⟩; have HB : Below w.heap.size w w1 := (by first | exact hb1 | exact HB.trans (hb1.mono HB.size)))
  go_ret
  exact ⟨ret_str hd.out, HB⟩

theorem digits_pos (z : Int) (w : World) (h0 : 0 ≤ z) (h63 : z ≤ 9223372036854775807) :
    Calls Tryd.prog 38 #[.int .i64 z] w fun e w' => e = .returned (.string (dz z)) ∧ Below w.heap.size w w' := by
  obtain ⟨n, rfl⟩ := Int.eq_ofNat_of_zero_le h0
  induction n using Nat.strongRecOn generalizing w with
  | ind n ih =>
    by_cases h : n < 10
    · exact digits_one n w h
    · refine digits_more n w (by omega) h63 fun k wk hk hlt => ?_
      obtain ⟨j, rfl⟩ := Int.eq_ofNat_of_zero_le hk
      exact ih j (by omega) wk (by omega) (by omega)

theorem itoa_neg_one (z : Int) (h0 : z < 0) : (⟨#[45]⟩ : ByteArray) ++ dz (-z) = ⟨(Lib.itoa z).toArray⟩ := by
  unfold dz Lib.itoa
  rw [if_pos h0, show (-z).toNat = z.natAbs by omega]
  apply ByteArray.ext
  simp

set_option maxHeartbeats 1000000 in
set_option maxRecDepth 10000 in
theorem digits_neg (z : Int) (w : World) (h0 : z < 0) (h10 : -10 < z) :
    Calls Tryd.prog 38 #[.int .i64 z] w fun e w' => e = .returned (.string ⟨(Lib.itoa z).toArray⟩) ∧ Below w.heap.size w w' := by
  have hd : Hid ((⟨#[45]⟩ : ByteArray) ++ dz (-z) = ⟨(Lib.itoa z).toArray⟩) := itoa_neg_one z h0
  have l1 := dz_size (-z) (by omega) (by omega)
  have s0 : (⟨#[45]⟩ : ByteArray).size = 1 := rfl
  have s1 : ¬ 9223372036854775807 < (⟨#[45]⟩ : ByteArray).size + (dz (-z)).size := by omega
  go_enter Tryd.func38, Tryd.ntmps38
  go_wp2_with (go_at_call 38; refine (digits_pos _ _ ?h1 ?h2).mono ?_; (case h1 => omega); (case h2 => omega); rintro e w1 ⟨rfl, hb1⟩; have HB : Below w.heap.size w w1 := (by first | exact hb1 | exact HB.trans (hb1.mono HB.size)))
  go_ret
  exact ⟨ret_str hd.out, HB⟩

set_option maxHeartbeats 1000000 in
set_option maxRecDepth 10000 in
theorem digits_low (z : Int) (w : World) (h0 : z ≤ -10) (h63 : -9223372036854775808 ≤ z) :
    Calls Tryd.prog 38 #[.int .i64 z] w fun e w' => e = .returned (.string ⟨(Lib.itoa z).toArray⟩) ∧ Below w.heap.size w w' := by
  have e1 : wrap64 (-z.tdiv 10) = -z / 10 := by
    have : -z.tdiv 10 = -z / 10 := by rw [← Int.neg_tdiv, Int.tdiv_eq_ediv_of_nonneg (by omega)]
    rw [this]; unfold wrap64; omega
  have e2 : wrap64 (-z.tmod 10) = -z % 10 := by
    have : -z.tmod 10 = -z % 10 := by rw [← Int.neg_tmod, Int.tmod_eq_emod_of_nonneg (by omega)]
    rw [this]; unfold wrap64; omega
  have hd : Hid ((⟨#[45]⟩ : ByteArray) ++ dz (-z / 10) ++ dz (-z % 10) = ⟨(Lib.itoa z).toArray⟩) := by
    show _ = _
    rw [ByteArray.append_assoc, dz_more (-z) (by omega)]
    exact itoa_neg_one z (by omega)
  have l1 := dz_size (-z / 10) (by omega) (by omega)
  have l2 := dz_size (-z % 10) (by omega) (by omega)
  have s1 : ¬ 9223372036854775807 < 1 + (dz (-z / 10)).size := by omega
  have s2 : ¬ 9223372036854775807 < 1 + (dz (-z / 10)).size + (dz (-z % 10)).size := by omega
  go_enter Tryd.func38, Tryd.ntmps38
  go_wp2_with (go_at_call 38; refine (digits_pos _ _ ?h1 ?h2).mono ?_; (case h1 => omega); (case h2 => omega); rintro e w1 ⟨rfl, hb1⟩; have HB : Below w.heap.size w w1 := (by first | exact hb1 | exact HB.trans (hb1.mono HB.size)))
  go_ret
  exact ⟨ret_str hd.out, HB⟩

/-- The digits of a number, whatever it is. -/
theorem digits_any (z : Int) (w : World) (h0 : -9223372036854775808 ≤ z) (h1 : z ≤ 9223372036854775807) :
    Calls Tryd.prog 38 #[.int .i64 z] w fun e w' => e = .returned (.string ⟨(Lib.itoa z).toArray⟩) ∧ Below w.heap.size w w' := by
  by_cases hz : 0 ≤ z
  · have : (⟨(Lib.itoa z).toArray⟩ : ByteArray) = dz z := by unfold Lib.itoa dz; rw [if_neg (by omega)]
    rw [this]
    exact digits_pos z w hz h1
  · by_cases hl : -10 < z
    · exact digits_neg z w (by omega) hl
    · exact digits_low z w (by omega) h0
end Go.Proofs.YtmapdpcfanecdaaDoor
