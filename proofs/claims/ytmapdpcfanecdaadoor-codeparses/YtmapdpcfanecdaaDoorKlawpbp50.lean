/- A number's word, digit for digit: plain Lean functions. -/
import Derived.Test.YtmapdpcfanecdaaDoorKlawpbp47
import Derived.Test.YtmapdpcfanecdaaDoorKlawpbp20
import Derived.Test.YtmapdpcfanecdaaDoorKlawpbp19
import Derived.Test.YtmapdpcfanecdaaDoorKlawpbp31
import Derived.Test.YtmapdpcfanecdaaDoorKlawpbp35
namespace Go.Proofs.YtmapdpcfanecdaaDoor
set_option linter.unusedVariables false
set_option linter.unusedSimpArgs false
open Go.RowKit

theorem size_lenU (s : ByteArray) : s.data.toList.length = s.size := by show s.data.toList.length = s.data.size; exact Array.length_toList
theorem ext_list (s : ByteArray) (m k : Nat) (h1 : m ≤ k) : (s.extract m k).data.toList = (s.data.toList.drop m).take (k - m) := by
  rw [Lib.extract_data]
theorem get_list {s : ByteArray} {k : Nat} (h : k < s.size) : s.data.toList[k]? = some s[k] := by
  rw [Array.getElem?_toList]
  exact Array.getElem?_eq_getElem h
theorem drop_hit {s : List UInt8} {c : UInt8} {m k : Nat} (h1 : m ≤ k) (hk : s[k]? = some c) (hf : c ∉ (s.drop m).take (k - m)) : cutAll c (s.drop m) = (s.drop m).take (k - m) :: cutAll c (s.drop (k + 1)) := by
  obtain ⟨hlt, hk2⟩ := List.getElem?_eq_some_iff.1 hk
  have e : s.drop m = (s.drop m).take (k - m) ++ c :: s.drop (k + 1) := by
    have h2 := (List.take_append_drop (k - m) (s.drop m)).symm
    rw [List.drop_drop, show m + (k - m) = k by omega, List.drop_eq_getElem_cons hlt, hk2] at h2
    exact h2
  have h3 := cutAll_app c (s.drop (k + 1)) _ hf
  rw [← e] at h3
  exact h3
theorem take_more {s : List UInt8} {c x : UInt8} {m k : Nat} (h1 : m ≤ k) (hk : s[k]? = some x) (hx : x ≠ c) (hf : c ∉ (s.drop m).take (k - m)) : c ∉ (s.drop m).take (k + 1 - m) := by
  rw [show k + 1 - m = (k - m) + 1 by omega, List.take_add_one, List.getElem?_drop, show m + (k - m) = k by omega, hk]
  intro hm
  rcases List.mem_append.1 hm with hm | hm
  · exact hf hm
  · simp at hm
    exact hx hm.symm

set_option maxHeartbeats 2000000 in
set_option maxRecDepth 20000 in
theorem cutR_any (s : ByteArray) (c : UInt8) (w : World) (hs : s.size ≤ 4000) :
    Calls Tryd.prog 44 #[.string s, .int .u8 c.toNat] w fun e w' => ∃ (v : Value) (xs : List ByteArray), e = .returned v ∧ (xs.map fun b : ByteArray => b.data.toList) = cutAll c s.data.toList ∧ xs.length ≤ 4001 ∧ w'.ownsRow w.heap.size 9 1 v xs.length (xs.map .string) ∧ Below w.heap.size w w' := by
  obtain ⟨ti, hi, hz0, hz1, hz2⟩ := info_parts info_str
  go_enter Tryd.func44, Tryd.ntmps44
  go_wp2
  go_loopw [5, 6, 7] (fun o f i wr => ∃ (k m : Nat) (D : List ByteArray), k ≤ s.size ∧ m ≤ k ∧ D.length ≤ k ∧ i = .int .i64 k ∧ f = .int .i64 m ∧ wr.ownsRow w.heap.size 9 1 o D.length (D.map .string) ∧ Hid (cutAll c s.data.toList = (D.map fun b : ByteArray => b.data.toList) ++ cutAll c (s.data.toList.drop m)) ∧ Hid (c ∉ (s.data.toList.drop m).take (k - m)) ∧ Below w.heap.size w wr) (fun _ _ i _ => s.size - (intOf i).toNat)
  case atStart => exact ⟨0, 0, [], Nat.zero_le _, Nat.le_refl _, Nat.le_refl _, rfl, rfl, ⟨rfl, .inl ⟨rfl, rfl⟩⟩, rfl, (by show c ∉ _; simp), Below.refl _ _⟩
  case round =>
    obtain ⟨k, m, D, hk, hm, hD, rfl, rfl, hown, HC, HF, hbr⟩ := hrel
    have s1 := hbr.size
    by_cases hlt : k < s.size
    · have n0 : (0 : Int) ≤ (k : Int) := by omega
      have n1 : (k : Int) < (s.size : Int) := by omega
      have n2 : (0 : Int) ≤ (m : Int) := by omega
      have n3 : (m : Int) ≤ (k : Int) := by omega
      have n4 : (k : Int) ≤ (s.size : Int) := by omega
      have hg := get_list hlt
      generalize hx : s[k] = x at *
      by_cases he : x = c
      · subst he
        have H1 : Hid (cutAll x s.data.toList = ((D ++ [s.extract m k]).map fun b : ByteArray => b.data.toList) ++ cutAll x (s.data.toList.drop (k + 1))) := by
          show _ = _
          rw [HC.out, drop_hit hm hg HF.out, List.map_append, List.append_assoc, ← ext_list s m k hm]
          rfl
        have H2 : Hid (x ∉ (s.data.toList.drop (k + 1)).take (k + 1 - (k + 1))) := by show x ∉ _; simp
        clear HC HF hg
        have hln : (D ++ [s.extract m k]).length = D.length + 1 := by simp
        go_wp2_with (at_builtin; refine wpList_append_own _ rfl _ _ 44 rfl w.heap.size 9 ti (.string ⟨#[]⟩) 1 16 Tryd.underlying44 hi hz0 hz1 hz2 rfl (by decide) _ _ _ rfl (hown.alloc _) ⟨wr.heap.size, 0, none⟩ 1 1 [.string (s.extract m k)] rfl rfl (cell_one_new _ _ _) (fun x hx => by simp at hx; subst hx; rfl) (by unfold maxLen; omega) (by omega) (by simp; omega) ?_; intro v' w3 hown' hgrow3 hnil3)
        go_roundw
        case rel => exact ⟨k + 1, k + 1, D ++ [s.extract m k], by omega, Nat.le_refl _, by omega, by go_num, by go_num, by rw [hln, List.map_append]; exact hown', H1, H2, (hbr.alloc s1 _).grown hgrow3 (by simp; omega) (fun j hj => ownsRow_low hown hj)⟩
        case measure => simp [intOf]; omega
      · have e1 : ((x.toNat : Int) == (c.toNat : Int)) = false := by
          rw [beq_eq_false_iff_ne]
          intro e
          exact he (UInt8.toNat_inj.1 (by omega))
        have H2 : Hid (c ∉ (s.data.toList.drop m).take (k + 1 - m)) := take_more hm hg he HF.out
        clear HF hg
        go_wp2
        go_roundw
        case rel => exact ⟨k + 1, m, D, by omega, by omega, by omega, by go_num, rfl, hown, HC, H2, hbr⟩
        case measure => simp [intOf]; omega
    · have hk' : k = s.size := by omega
      subst hk'
      have n2 : (0 : Int) ≤ (m : Int) := by omega
      have n3 : (m : Int) ≤ (s.size : Int) := by omega
      have H1 : Hid (((D ++ [s.extract m s.size]).map fun b : ByteArray => b.data.toList) = cutAll c s.data.toList) := by
        show _ = _
        have hF := HF.out
        rw [List.take_of_length_le (by rw [List.length_drop, size_lenU]; exact Nat.le_refl _)] at hF
        rw [HC.out, cutAll_one c _ hF, List.map_append]
        congr 1
        rw [List.map_cons, List.map_nil, ext_list s m s.size hm, List.take_of_length_le (by rw [List.length_drop, size_lenU]; exact Nat.le_refl _)]
      clear HC HF
      have hln : (D ++ [s.extract m s.size]).length = D.length + 1 := by simp
      go_wp2_with (at_builtin; refine wpList_append_own _ rfl _ _ 44 rfl w.heap.size 9 ti (.string ⟨#[]⟩) 1 16 Tryd.underlying44 hi hz0 hz1 hz2 rfl (by decide) _ _ _ rfl (hown.alloc _) ⟨wr.heap.size, 0, none⟩ 1 1 [.string (s.extract m s.size)] rfl rfl (cell_one_new _ _ _) (fun x hx => by simp at hx; subst hx; rfl) (by unfold maxLen; omega) (by omega) (by simp; omega) ?_; intro v' w3 hown' hgrow3 hnil3)
      go_ret
      refine ⟨_, D ++ [s.extract m s.size], rfl, H1.out, by omega, ?_, (hbr.alloc s1 _).grown hgrow3 (by simp; omega) (fun j hj => ownsRow_low hown hj)⟩
      rw [hln, List.map_append]
      exact hown'
end Go.Proofs.YtmapdpcfanecdaaDoor

namespace Go.Proofs.YtmapdpcfanecdaaDoor
set_option linter.unusedVariables false
set_option linter.unusedSimpArgs false

theorem itoa_form (v : Int) : (v < 0 ∧ Lib.itoa v = 45 :: Lib.decDigits v.natAbs) ∨ (0 ≤ v ∧ Lib.itoa v = Lib.decDigits v.toNat) := by
  unfold Lib.itoa
  by_cases h : v < 0
  · exact .inl ⟨h, if_pos h⟩
  · exact .inr ⟨by omega, if_neg h⟩
/-- A number's word is all digits behind its sign. -/
theorem num_digits {l dl : List UInt8} {neg : Bool} {v : Int} (hl : l = if neg = true then 45 :: dl else dl) (hn : neg = false → dl.head? ≠ some 45) (h : numOf l = some v) : ∀ b ∈ dl, 48 ≤ b.toNat ∧ b.toNat ≤ 57 := by
  have hi := numOf_itoa h
  rcases itoa_form v with ⟨_, h2⟩ | ⟨_, h2⟩
  · rw [h2] at hi
    cases neg with
    | true =>
      simp only [if_true] at hl
      rw [hl] at hi
      obtain ⟨-, rfl⟩ := List.cons.inj hi
      exact decDigits_digit _
    | false =>
      simp only [Bool.false_eq_true, if_false] at hl
      rw [hl] at hi
      exact absurd (by rw [← hi]; rfl) (hn rfl)
  · rw [h2] at hi
    have hd := decDigits_digit v.toNat
    rw [hi] at hd
    cases neg with
    | true =>
      simp only [if_true] at hl
      rw [hl] at hd
      exact absurd (hd 45 (by simp)) (by decide)
    | false =>
      simp only [Bool.false_eq_true, if_false] at hl
      rw [hl] at hd
      exact hd
theorem num_bad {l dl : List UInt8} {neg : Bool} {k : Nat} {b : UInt8} (hl : l = if neg = true then 45 :: dl else dl) (hn : neg = false → dl.head? ≠ some 45) (hk : dl[k]? = some b) (hb : ¬ (48 ≤ b.toNat ∧ b.toNat ≤ 57)) : numOf l = none := by
  cases h : numOf l with
  | none => rfl
  | some v => exact absurd (num_digits hl hn h b (List.mem_of_getElem? hk)) hb
theorem num_empty {l : List UInt8} {neg : Bool} (hl : l = if neg = true then [45] else []) : numOf l = none := by
  cases neg <;> (simp at hl; subst hl; decide)
theorem digit_of {b : UInt8} {d : Nat} (h : Lib.digitVal b = some d) : 48 ≤ b.toNat ∧ b.toNat ≤ 57 := by
  unfold Lib.digitVal at h
  split at h
  · assumption
  · cases h
theorem dec_step {dl : List UInt8} {k n : Nat} {b : UInt8} (h : Lib.decFrom 0 (dl.take k) = some n) (hk : dl[k]? = some b) (hb : 48 ≤ b.toNat ∧ b.toNat ≤ 57) : Lib.decFrom 0 (dl.take (k + 1)) = some (n * 10 + (b.toNat - 48)) := by
  rw [List.take_add_one, hk, decFrom_app, h]
  simp only [Option.toList, Option.bind, Lib.decFrom, Lib.digitVal, if_pos hb]
/-- The number that a word's digits spell. -/
theorem num_char {l dl : List UInt8} {neg : Bool} {n : Nat} (hl : l = if neg = true then 45 :: dl else dl) (hne : dl ≠ []) (hlen : l.length ≤ 11) (hd : Lib.decFrom 0 dl = some n) : numOf l = if Lib.itoa (if neg = true then -(n : Int) else n) = l then some (if neg = true then -(n : Int) else n) else none := by
  have hat : Lib.atoi l = some (if neg = true then -(n : Int) else n) := by
    cases dl with
    | nil => exact absurd rfl hne
    | cons b r =>
      cases neg with
      | true =>
        simp only [if_true] at hl ⊢
        rw [hl]
        show (Lib.decNat (b :: r)).map (fun m : Nat => -(m : Int)) = _
        rw [Lib.decNat, if_neg (by simp), hd]
        rfl
      | false =>
        simp only [Bool.false_eq_true, if_false] at hl ⊢
        have hb : 48 ≤ b.toNat ∧ b.toNat ≤ 57 := by
          simp only [Lib.decFrom] at hd
          split at hd
          · rename_i d hdv
            exact digit_of hdv
          · cases hd
        have e1 : (b == 45) = false := by rw [beq_eq_false_iff_ne]; intro e; rw [e] at hb; revert hb; decide
        have e2 : (b == 43) = false := by rw [beq_eq_false_iff_ne]; intro e; rw [e] at hb; revert hb; decide
        rw [hl]
        simp only [Lib.atoi, e1, e2, Bool.false_eq_true, if_false, Lib.decNat, List.isEmpty_cons, hd, Option.map]
  unfold numOf
  rw [if_pos hlen, hat]
theorem num_long {l : List UInt8} (h : ¬ l.length ≤ 11) : numOf l = none := by unfold numOf; rw [if_neg h]
end Go.Proofs.YtmapdpcfanecdaaDoor
