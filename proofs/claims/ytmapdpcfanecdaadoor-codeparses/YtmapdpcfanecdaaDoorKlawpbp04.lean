/- The line of an instruction, as bytes. -/
import Derived.Test.YtmapdpcfanecdaaDoorKlawpbp03
import Derived.Lib.ItoaNum
import Derived.Lib.ItoaLen
import Derived.Lib.QuietBelow
import Derived.BigQuiet
namespace Go.Proofs.YtmapdpcfanecdaaDoor
set_option linter.unusedVariables false
set_option linter.unusedSimpArgs false
open Go.RowKit

/-- An instruction lies in six cells. -/
def InsAt (w : World) (b o : Nat) (i : Ins) : Prop :=
  w.cell? ⟨b, o, none⟩ = some (.int .i64 i.k) ∧ w.cell? ⟨b, o + 1, none⟩ = some (.int .i64 i.to) ∧ w.cell? ⟨b, o + 2, none⟩ = some (.int .i64 i.a) ∧
  w.cell? ⟨b, o + 3, none⟩ = some (.int .i64 i.b) ∧ w.cell? ⟨b, o + 4, none⟩ = some (.int .i64 i.n) ∧ w.cell? ⟨b, o + 5, none⟩ = some (.int .i64 i.g)

/-- A list of instructions lies behind a slice's address. -/
def CodeAt (w : World) (s : Option Addr) (c : List Ins) : Prop :=
  c = [] ∨ ∃ b off, s = some ⟨b, off, none⟩ ∧ b < w.heap.size ∧ ∀ k (h : k < c.length), InsAt w b (off + k * 6) c[k]

theorem InsAt.below {B : Nat} {w w' : World} {b o : Nat} {i : Ins} (h : InsAt w b o i) (hb : Below B w w') (hB : b < B) : InsAt w' b o i := by
  obtain ⟨h0, h1, h2, h3, h4, h5⟩ := h
  refine ⟨?_, ?_, ?_, ?_, ?_, ?_⟩ <;> rw [hb.cell (by simpa using hB)] <;> assumption

theorem CodeAt.below {B : Nat} {w w' : World} {s : Option Addr} {c : List Ins} (h : CodeAt w s c) (hb : Below B w w') (hB : w.heap.size ≤ B) : CodeAt w' s c := by
  rcases h with h | ⟨b, off, hs, hlt, hi⟩
  · exact .inl h
  · exact .inr ⟨b, off, hs, Nat.lt_of_lt_of_le hlt hb.size, fun k h => (hi k h).below hb (by omega)⟩

/-- A list of integers lies behind a slice's address. -/
def IntsAt (w : World) (s : Option Addr) (l : List Int) : Prop :=
  l = [] ∨ ∃ b off, s = some ⟨b, off, none⟩ ∧ b < w.heap.size ∧ ∀ k (h : k < l.length), w.cell? ⟨b, off + k, none⟩ = some (.int .i64 l[k])

/-- A list of values lies behind a slice's address. -/
def ValsAt (w : World) (s : Option Addr) (l : List Val) : Prop :=
  l = [] ∨ ∃ b off, s = some ⟨b, off, none⟩ ∧ b < w.heap.size ∧ ∀ k (h : k < l.length), w.cell? ⟨b, off + k * 2, none⟩ = some (.int .i64 l[k].k) ∧ w.cell? ⟨b, off + k * 2 + 1, none⟩ = some (.int .i64 l[k].n)

theorem IntsAt.below {B : Nat} {w w' : World} {s : Option Addr} {l : List Int} (h : IntsAt w s l) (hb : Below B w w') (hB : w.heap.size ≤ B) : IntsAt w' s l := by
  rcases h with h | ⟨b, off, hs, hlt, hi⟩
  · exact .inl h
  · exact .inr ⟨b, off, hs, Nat.lt_of_lt_of_le hlt hb.size, fun k h => by rw [hb.cell (by simp; omega)]; exact hi k h⟩

theorem ValsAt.below {B : Nat} {w w' : World} {s : Option Addr} {l : List Val} (h : ValsAt w s l) (hb : Below B w w') (hB : w.heap.size ≤ B) : ValsAt w' s l := by
  rcases h with h | ⟨b, off, hs, hlt, hi⟩
  · exact .inl h
  · exact .inr ⟨b, off, hs, Nat.lt_of_lt_of_le hlt hb.size, fun k h => by rw [hb.cell (by simp; omega), hb.cell (by simp; omega)]; exact hi k h⟩

end Go.Proofs.YtmapdpcfanecdaaDoor

namespace Go.Proofs.YtmapdpcfanecdaaDoor
set_option linter.unusedVariables false
set_option linter.unusedSimpArgs false
open Go.RowKit

set_option maxHeartbeats 1000000 in
theorem word_any (k : Int) (w : World) :
    Calls Tryd.prog 65 #[.int .i64 k] w fun e w' => e = .returned (.string (wordB k)) ∧ Below w.heap.size w w' := by
  by_cases h : btw k 1 19 = true
  · rcases btw_cases h with rfl | rfl | rfl | rfl | rfl | rfl | rfl | rfl | rfl | rfl | rfl | rfl | rfl | rfl | rfl | rfl | rfl | rfl | rfl
    all_goals
      go_enter Tryd.func65, Tryd.ntmps65
      go_wp2_with (go_at_call 36; refine (between_any _ _ _ _).mono ?_; rintro e w' ⟨rfl, rfl⟩)
      go_ret
      exact ⟨rfl, by go_grown⟩
  · have h : btw k 1 19 = false := by simpa using h
    have hw := wordB_none h
    go_enter Tryd.func65, Tryd.ntmps65
    go_wp2_with (go_at_call 36; refine (between_any _ _ _ _).mono ?_; rintro e w' ⟨rfl, rfl⟩)
    go_ret
    exact ⟨ret_str hw.symm, by go_grown⟩
end Go.Proofs.YtmapdpcfanecdaaDoor

namespace Go.Proofs.YtmapdpcfanecdaaDoor
set_option linter.unusedVariables false
set_option linter.unusedSimpArgs false
open Go.RowKit

/-- The digits of a number that is not below 0. -/
def dz (z : Int) : ByteArray := ⟨(Lib.decDigits z.toNat).toArray⟩
theorem dz_size (z : Int) (h0 : 0 ≤ z) (h1 : z ≤ 9223372036854775807) : (dz z).size ≤ 20 := by
  have : (dz z).size = (Lib.decDigits z.toNat).length := rfl
  rw [this, Lib.decDigits_length]
  exact Lib.nDigits_le20 _ (by omega)
theorem dz_more (z : Int) (h : 10 ≤ z) : dz (z / 10) ++ dz (z % 10) = dz z := by
  have e1 : (z / 10).toNat = z.toNat / 10 := by omega
  have e2 : (z % 10).toNat = z.toNat % 10 := by omega
  have hd : Lib.decDigits z.toNat = Lib.decDigits (z.toNat / 10) ++ Lib.decDigits (z.toNat % 10) := by
    rw [Lib.decDigits_one (i := z.toNat % 10) (by omega)]
    conv => lhs; rw [Lib.decDigits, dif_neg (by omega)]
  unfold dz
  rw [hd, e1, e2]
  apply ByteArray.ext
  simp

set_option maxHeartbeats 1000000 in
set_option maxRecDepth 10000 in
theorem digits_one (n : Nat) (w : World) (h : n < 10) :
    Calls Tryd.prog 38 #[.int .i64 n] w fun e w' => e = .returned (.string (dz n)) ∧ Below w.heap.size w w' := by
  have : n = 0 ∨ n = 1 ∨ n = 2 ∨ n = 3 ∨ n = 4 ∨ n = 5 ∨ n = 6 ∨ n = 7 ∨ n = 8 ∨ n = 9 := by omega
  have hd : dz n = ⟨#[UInt8.ofNat (48 + n)]⟩ := by unfold dz; rw [show (n : Int).toNat = n by omega, Lib.decDigits_one h]
  rw [hd]
  have hcv := fun (c : Int) (wx : World) (hc : wx.cell? ⟨w.heap.size, 0, none⟩ = some (.int .u8 c)) => run_convert_bytes_arg (P := Tryd.prog) (w := wx) 63 5 Tryd.underlying63 Tryd.underlying5 w.heap.size 0 1 1 [c] rfl
  rcases this with rfl | rfl | rfl | rfl | rfl | rfl | rfl | rfl | rfl | rfl
  all_goals
    go_enter Tryd.func38, Tryd.ntmps38
    go_wp2
    go_ret
    exact ⟨ret_str rfl, by go_grown⟩

set_option maxHeartbeats 1000000 in
set_option maxRecDepth 10000 in
theorem digits_more (z : Int) (w : World) (h : 10 ≤ z) (h63 : z ≤ 9223372036854775807)
    (ih : ∀ (k : Int) (w : World), 0 ≤ k → k < z → Calls Tryd.prog 38 #[.int .i64 k] w fun e w' => e = .returned (.string (dz k)) ∧ Below w.heap.size w w') :
    Calls Tryd.prog 38 #[.int .i64 z] w fun e w' => e = .returned (.string (dz z)) ∧ Below w.heap.size w w' := by
  have hd : Hid (dz (z / 10) ++ dz (z % 10) = dz z) := dz_more z h
  have l1 := dz_size (z / 10) (by omega) (by omega)
  have l2 := dz_size (z % 10) (by omega) (by omega)
  have s1 : ¬ 9223372036854775807 < (dz (z / 10)).size + (dz (z % 10)).size := by omega
  go_enter Tryd.func38, Tryd.ntmps38
  go_wp2_with (go_at_call 38; refine (ih _ _ ?h1 ?h2).mono ?_; (case h1 => omega); (case h2 => omega); rintro e w1 ⟨rfl, hb1⟩; have HB : Below w.heap.size w w1 := (by first | exact hb1 | exact HB.trans (hb1.mono HB.size)))
  go_ret
  exact ⟨ret_str hd.out, HB⟩

theorem digits_pos (z : Int) (w : World) (h0 : 0 ≤ z) (h63 : z ≤ 9223372036854775807) :
    Calls Tryd.prog 38 #[.int .i64 z] w fun e w' => e = .returned (.string (dz z)) ∧ Below w.heap.size w w' := by
  obtain ⟨n, rfl⟩ := Int.eq_ofNat_of_zero_le h0
  induction n using Nat.strongRecOn generalizing w with
  | ind n ih =>
    by_cases h : n < 10
    · exact digits_one n w h
    · refine digits_more n w (by omega) h63 fun k wk hk hlt => ?_
      obtain ⟨j, rfl⟩ := Int.eq_ofNat_of_zero_le hk
      exact ih j (by omega) wk (by omega) (by omega)

theorem itoa_neg_one (z : Int) (h0 : z < 0) : (⟨#[45]⟩ : ByteArray) ++ dz (-z) = ⟨(Lib.itoa z).toArray⟩ := by
  unfold dz Lib.itoa
  rw [if_pos h0, show (-z).toNat = z.natAbs by omega]
  apply ByteArray.ext
  simp

set_option maxHeartbeats 1000000 in
set_option maxRecDepth 10000 in
theorem digits_neg (z : Int) (w : World) (h0 : z < 0) (h10 : -10 < z) :
    Calls Tryd.prog 38 #[.int .i64 z] w fun e w' => e = .returned (.string ⟨(Lib.itoa z).toArray⟩) ∧ Below w.heap.size w w' := by
  have hd : Hid ((⟨#[45]⟩ : ByteArray) ++ dz (-z) = ⟨(Lib.itoa z).toArray⟩) := itoa_neg_one z h0
  have l1 := dz_size (-z) (by omega) (by omega)
  have s0 : (⟨#[45]⟩ : ByteArray).size = 1 := rfl
  have s1 : ¬ 9223372036854775807 < (⟨#[45]⟩ : ByteArray).size + (dz (-z)).size := by omega
  go_enter Tryd.func38, Tryd.ntmps38
  go_wp2_with (go_at_call 38; refine (digits_pos _ _ ?h1 ?h2).mono ?_; (case h1 => omega); (case h2 => omega); rintro e w1 ⟨rfl, hb1⟩; have HB : Below w.heap.size w w1 := (by first | exact hb1 | exact HB.trans (hb1.mono HB.size)))
  go_ret
  exact ⟨ret_str hd.out, HB⟩

set_option maxHeartbeats 1000000 in
set_option maxRecDepth 10000 in
theorem digits_low (z : Int) (w : World) (h0 : z ≤ -10) (h63 : -9223372036854775808 ≤ z) :
    Calls Tryd.prog 38 #[.int .i64 z] w fun e w' => e = .returned (.string ⟨(Lib.itoa z).toArray⟩) ∧ Below w.heap.size w w' := by
  have e1 : wrap64 (-z.tdiv 10) = -z / 10 := by
    have : -z.tdiv 10 = -z / 10 := by rw [← Int.neg_tdiv, Int.tdiv_eq_ediv_of_nonneg (by omega)]
    rw [this]; unfold wrap64; omega
  have e2 : wrap64 (-z.tmod 10) = -z % 10 := by
    have : -z.tmod 10 = -z % 10 := by rw [← Int.neg_tmod, Int.tmod_eq_emod_of_nonneg (by omega)]
    rw [this]; unfold wrap64; omega
  have hd : Hid ((⟨#[45]⟩ : ByteArray) ++ dz (-z / 10) ++ dz (-z % 10) = ⟨(Lib.itoa z).toArray⟩) := by
    show _ = _
    rw [ByteArray.append_assoc, dz_more (-z) (by omega)]
    exact itoa_neg_one z (by omega)
  have l1 := dz_size (-z / 10) (by omega) (by omega)
  have l2 := dz_size (-z % 10) (by omega) (by omega)
  have s1 : ¬ 9223372036854775807 < 1 + (dz (-z / 10)).size := by omega
  have s2 : ¬ 9223372036854775807 < 1 + (dz (-z / 10)).size + (dz (-z % 10)).size := by omega
  go_enter Tryd.func38, Tryd.ntmps38
  go_wp2_with (go_at_call 38; refine (digits_pos _ _ ?h1 ?h2).mono ?_; (case h1 => omega); (case h2 => omega); rintro e w1 ⟨rfl, hb1⟩; have HB : Below w.heap.size w w1 := (by first | exact hb1 | exact HB.trans (hb1.mono HB.size)))
  go_ret
  exact ⟨ret_str hd.out, HB⟩

/-- The digits of a number, whatever it is. -/
theorem digits_any (z : Int) (w : World) (h0 : -9223372036854775808 ≤ z) (h1 : z ≤ 9223372036854775807) :
    Calls Tryd.prog 38 #[.int .i64 z] w fun e w' => e = .returned (.string ⟨(Lib.itoa z).toArray⟩) ∧ Below w.heap.size w w' := by
  by_cases hz : 0 ≤ z
  · have : (⟨(Lib.itoa z).toArray⟩ : ByteArray) = dz z := by unfold Lib.itoa dz; rw [if_neg (by omega)]
    rw [this]
    exact digits_pos z w hz h1
  · by_cases hl : -10 < z
    · exact digits_neg z w (by omega) hl
    · exact digits_low z w (by omega) h0
end Go.Proofs.YtmapdpcfanecdaaDoor

namespace Go.Proofs.YtmapdpcfanecdaaDoor
set_option linter.unusedVariables false
set_option linter.unusedSimpArgs false
open Go.RowKit

/-- A number of 64 bits. -/
def fits (n : Int) : Prop := -9223372036854775808 ≤ n ∧ n ≤ 9223372036854775807
def itoaB (n : Int) : ByteArray := ⟨(Lib.itoa n).toArray⟩
theorem itoaB_size (n : Int) (h : fits n) : (itoaB n).size ≤ 21 := Lib.itoa_length_le n h.1 h.2

/-- What an instruction's line tells behind its word. -/
def argsOf (i : Ins) : List Int :=
  match i.k with
  | 1 => [i.to, i.n]
  | 2 => [i.to, i.n]
  | 3 => [i.to]
  | 4 => [i.to, i.a]
  | 5 => [i.to, i.a, i.b]
  | 6 => [i.to, i.a, i.b]
  | 7 => [i.to, i.a, i.b]
  | 8 => [i.to, i.a, i.b]
  | 9 => [i.to, i.a, i.b]
  | 10 => [i.to, i.a]
  | 11 => [i.to]
  | 12 => [i.to, i.a, i.n]
  | 13 => [i.a, i.n, i.b]
  | 14 => [i.to, i.n]
  | 15 => [i.a, i.g]
  | 16 => [i.g]
  | 17 => [i.a]
  | 18 => [i.a]
  | _ => []

/-- The line of an instruction. -/
def lineB (i : Ins) : ByteArray := (argsOf i).foldl (fun s x => s ++ (⟨#[32]⟩ ++ itoaB x)) (wordB i.k)

theorem digitsB_any (z : Int) (w : World) (h : fits z) :
    Calls Tryd.prog 38 #[.int .i64 z] w fun e w' => e = .returned (.string (itoaB z)) ∧ Below w.heap.size w w' := digits_any z w h.1 h.2
end Go.Proofs.YtmapdpcfanecdaaDoor
