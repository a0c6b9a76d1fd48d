/- Walks over the document's parser: Undigit. -/
import Derived.Test.YtmapdpcfanecdaaDoorKlawpbp50
import Derived.Test.YtmapdpcfanecdaaDoorKlawpbp04
import Derived.Deep.DeepCutAuto
namespace Go.Proofs.YtmapdpcfanecdaaDoor
set_option linter.unusedVariables false
set_option linter.unusedSimpArgs false
open Go.RowKit

theorem hideU {p : Prop} (h : p) : Hid p := h

/-- What Undigit answers of a number's word. -/
def NumAns (o : Option Int) (e : Ending) : Prop := ∃ v, e = .returned (.tuple #[.int .i64 v, .bool o.isSome]) ∧ ∀ n, o = some n → v = n

set_option maxHeartbeats 2000000 in
set_option maxRecDepth 20000 in
theorem undigit_ans (s : ByteArray) (w : World) (hs : s.size ≤ 4000) :
    Calls Tryd.prog 45 #[.string s] w fun e w' => NumAns (numOf s.data.toList) e ∧ Below w.heap.size w w' := by
  have hD : ∃ (neg : Bool) (d : ByteArray), Hid (s.data.toList = if neg = true then 45 :: d.data.toList else d.data.toList) ∧ Hid (neg = false → d.data.toList.head? ≠ some 45) ∧ Hid (neg = true → 0 < s.size ∧ (∀ h : 0 < s.size, s[0] = 45) ∧ d = s.extract 1 s.size) ∧ Hid (neg = false → d = s ∧ ∀ h : 0 < s.size, s[0] ≠ 45) := by
    by_cases h0 : 0 < s.size
    · have hg := get_list h0
      have hc : s.data.toList = s[0] :: s.data.toList.drop 1 := by
        have hl : 0 < s.data.toList.length := by rw [size_lenU]; exact h0
        have h2 := List.drop_eq_getElem_cons hl
        rw [List.drop_zero] at h2
        rw [List.getElem?_eq_getElem hl] at hg
        rw [h2, Option.some.inj hg]
        rfl
      by_cases h45 : s[0] = 45
      · refine ⟨true, s.extract 1 s.size, ?_, hideU (fun h => by cases h), hideU (fun _ => ⟨h0, fun _ => h45, rfl⟩), hideU (fun h => by cases h)⟩
        show _ = _
        rw [if_pos rfl, ext_list s 1 s.size (by omega), List.take_of_length_le (by rw [List.length_drop, size_lenU]; exact Nat.le_refl _), ← h45]
        exact hc
      · refine ⟨false, s, rfl, hideU (fun _ => ?_), hideU (fun h => by cases h), hideU (fun _ => ⟨rfl, fun _ => h45⟩)⟩
        rw [hc]
        simpa using h45
    · refine ⟨false, s, rfl, hideU (fun _ => ?_), hideU (fun h => by cases h), hideU (fun _ => ⟨rfl, fun h => absurd h h0⟩)⟩
      have : s.data.toList = [] := List.eq_nil_of_length_eq_zero (by rw [size_lenU]; omega)
      rw [this]
      simp
  obtain ⟨neg, d, HL, HN, HT, HF⟩ := hD
  have hdl : Hid (s.size = if neg = true then d.size + 1 else d.size) := by
    have := congrArg List.length HL.out
    rw [size_lenU] at this
    show _ = _
    rw [this]
    cases neg <;> simp [size_lenU]
  generalize hans : numOf s.data.toList = ans
  have HA := hideU hans
  clear hans
  go_enter Tryd.func45, Tryd.ntmps45
  go_upto_region 2 with fail
  go_cut [15] (fun t wy => t = .bool neg ∧ wy = w)
  case first =>
    cases neg with
    | true =>
      obtain ⟨h0, h1, h2⟩ := HT.out rfl
      have n0 : (0 : Int) < (s.size : Int) := by omega
      have h3 := h1 h0
      go_wp2_with fail
      go_meet
      exact ⟨rfl, rfl⟩
    | false =>
      obtain ⟨h2, h1⟩ := HF.out rfl
      by_cases h0 : 0 < s.size
      · have n0 : (0 : Int) < (s.size : Int) := by omega
        have h3 := h1 h0
        have e1 : ((s[0].toNat : Int) == 45) = false := by
          rw [beq_eq_false_iff_ne]
          intro e
          refine h3 (UInt8.toNat_inj.1 ?_)
          have : (45 : UInt8).toNat = 45 := rfl
          omega
        go_wp2_with fail
        go_meet
        exact ⟨rfl, rfl⟩
      · have n0 : ¬ (0 : Int) < (s.size : Int) := by omega
        go_wp2_with fail
        go_meet
        exact ⟨rfl, rfl⟩
  obtain ⟨rfl, hwc⟩ := hcut
  have hwd := hwc.symm
  subst hwd
  clear hwc
  go_upto_if 15 with fail
  go_cut [4] (fun t wy => t = .string d ∧ wy = w)
  case first =>
    cases neg with
    | true =>
      obtain ⟨h0, h1, h2⟩ := HT.out rfl
      have n0 : (1 : Int) ≤ (s.size : Int) := by omega
      go_wp2_with fail
      go_meet
      exact ⟨by rw [h2], rfl⟩
    | false =>
      obtain ⟨h2, h1⟩ := HF.out rfl
      go_wp2_with fail
      go_meet
      exact ⟨by rw [h2], rfl⟩
  obtain ⟨rfl, hwc⟩ := hcut
  have hwd := hwc.symm
  subst hwd
  clear hwc
  clear HT HF
  by_cases hd0 : d.size = 0
  · have he : d = ⟨#[]⟩ := by
      apply ByteArray.ext
      apply Array.toList_inj.1
      exact List.eq_nil_of_length_eq_zero (by rw [size_lenU]; exact hd0)
    subst he
    obtain rfl : none = ans := (num_empty HL.out).symm.trans HA.out
    go_wp2
    go_ret2
    exact ⟨⟨0, rfl, fun n h => (by cases h)⟩, Below.refl _ _⟩
  · have hemp : (d.toList == []) = false := by
      rw [beq_eq_false_iff_ne, ByteArray.toList_eq]
      intro e
      have := congrArg List.length e
      rw [size_lenU] at this
      exact hd0 (by simpa using this)
    have hemp2 : d.toList.isEmpty = false := by
      rw [ByteArray.toList_eq, List.isEmpty_eq_false_iff]
      intro e
      have := congrArg List.length e
      rw [size_lenU] at this
      exact hd0 (by simpa using this)
    by_cases hlen : s.size ≤ 11
    · have n0 : ¬ (11 : Int) < (s.size : Int) := by omega
      have hd11 : d.size ≤ 11 := by
        have := hdl.out
        cases neg <;> simp at this <;> omega
      go_wp2
      go_loop [5, 6] (fun n i => ∃ (k m : Nat), k ≤ d.size ∧ i = .int .i64 k ∧ n = .int .i64 m ∧ m < 10 ^ k ∧ Hid (Lib.decFrom 0 (d.data.toList.take k) = some m)) (fun _ i => d.size - (intOf i).toNat)
      case atStart => exact ⟨0, 0, Nat.zero_le _, rfl, rfl, by simp, rfl⟩
      case round =>
        obtain ⟨k, m, hk, rfl, rfl, hm, HDm⟩ := hrel
        by_cases hlt : k < d.size
        · have hg := get_list hlt
          have m0 : (0 : Int) ≤ (k : Int) := by omega
          have m1 : (k : Int) < (d.size : Int) := by omega
          have hp : 10 ^ k ≤ 10 ^ 10 := Nat.pow_le_pow_right (by decide) (by omega)
          have hp2 : (10 : Nat) ^ (k + 1) = 10 ^ k * 10 := Nat.pow_succ 10 k
          have hpe : (10 : Nat) ^ 10 = 10000000000 := by decide
          generalize hx : d[k] = x at *
          by_cases c1 : x.toNat < 48
          · have e1 : (x.toNat : Int) < 48 := by omega
            obtain rfl : none = ans := (num_bad HL.out HN.out hg (by omega)).symm.trans HA.out
            clear HDm hg
            go_wp2
            go_ret2
            exact ⟨⟨0, rfl, fun n h => (by cases h)⟩, Below.refl _ _⟩
          · have e1 : ¬ (x.toNat : Int) < 48 := by omega
            by_cases c2 : 57 < x.toNat
            · have e2 : (57 : Int) < (x.toNat : Int) := by omega
              obtain rfl : none = ans := (num_bad HL.out HN.out hg (by omega)).symm.trans HA.out
              clear HDm hg
              go_wp2
              go_ret2
              exact ⟨⟨0, rfl, fun n h => (by cases h)⟩, Below.refl _ _⟩
            · have e2 : ¬ (57 : Int) < (x.toNat : Int) := by omega
              have HD2 : Hid (Lib.decFrom 0 (d.data.toList.take (k + 1)) = some (m * 10 + (x.toNat - 48))) := dec_step HDm.out hg (by omega)
              clear HDm hg
              go_wp2
              go_round
              case rel => exact ⟨k + 1, m * 10 + (x.toNat - 48), by omega, by go_num, by go_num, by omega, HD2⟩
              case measure => simp [intOf]; omega
        · have hk' : k = d.size := by omega
          subst hk'
          have hp : 10 ^ d.size ≤ 10 ^ 11 := Nat.pow_le_pow_right (by decide) hd11
          have hpe : (10 : Nat) ^ 11 = 100000000000 := by decide
          have hdec := HDm.out
          rw [List.take_of_length_le (by rw [size_lenU]; exact Nat.le_refl _)] at hdec
          have hch := num_char HL.out (fun e => hd0 (by have := congrArg List.length e; rw [size_lenU] at this; simpa using this)) (by rw [size_lenU]; exact hlen) hdec
          rw [HA.out] at hch
          have HC := hideU hch
          clear hch hdec HDm
          have hv : ∃ v : Int, Hid (v = if neg = true then -(m : Int) else m) := ⟨_, rfl⟩
          obtain ⟨v, HV⟩ := hv
          have hfit : fits v := by
            have := HV.out
            unfold fits
            cases neg <;> simp at this <;> omega
          rw [← HV.out] at HC
          go_upto_if 53 with fail
          go_cut [5] (fun t wy => t = .int .i64 v ∧ wy = w)
          case first =>
            cases neg with
            | true =>
              have n1 : (d.size : Int) < (s.size : Int) := by have := hdl.out; simp at this; omega
              go_wp2_with fail
              go_meet
              exact ⟨by rw [HV.out]; simp, rfl⟩
            | false =>
              have n1 : ¬ (d.size : Int) < (s.size : Int) := by have := hdl.out; simp at this; omega
              go_wp2_with fail
              go_meet
              exact ⟨by rw [HV.out]; simp, rfl⟩
          obtain ⟨rfl, hwc⟩ := hcut
          have hwd := hwc.symm
          subst hwd
          clear hwc
          go_wp2_with (go_at_call 38; fail)
          refine (digitsB_any v _ hfit).mono ?_
          rintro e w1 ⟨rfl, hb1⟩
          by_cases hi : Lib.itoa v = s.data.toList
          · have hi' : itoaB v = s := by
              apply ByteArray.ext
              apply Array.toList_inj.1
              rw [← hi]; simp [itoaB]
            obtain rfl : ans = some v := HC.out.trans (if_pos hi)
            go_wp2
            go_ret2
            exact ⟨⟨v, rfl, fun n h => (by cases h; rfl)⟩, hb1⟩
          · have hne : ((itoaB v).toList == s.toList) = false := by
              rw [beq_eq_false_iff_ne, ByteArray.toList_eq, ByteArray.toList_eq]
              intro e
              apply hi
              rw [← e]; simp [itoaB]
            obtain rfl : ans = none := HC.out.trans (if_neg hi)
            go_wp2
            go_ret2
            exact ⟨⟨v, rfl, fun n h => (by cases h)⟩, hb1⟩
    · have n0 : (11 : Int) < (s.size : Int) := by omega
      obtain rfl : none = ans := (num_long (by rw [size_lenU]; exact hlen)).symm.trans HA.out
      go_wp2
      go_ret2
      exact ⟨⟨0, rfl, fun n h => (by cases h)⟩, Below.refl _ _⟩
theorem undigit_any (s : ByteArray) (w : World) (hs : s.size ≤ 4000) :
    Calls Tryd.prog 45 #[.string s] w fun e w' => ∃ v, e = .returned (.tuple #[.int .i64 v, .bool (numOf s.data.toList).isSome]) ∧ (∀ n, numOf s.data.toList = some n → v = n) ∧ Below w.heap.size w w' := by
  refine (undigit_ans s w hs).mono ?_
  rintro e w' ⟨⟨v, h1, h2⟩, hb⟩
  exact ⟨v, h1, h2, hb⟩
end Go.Proofs.YtmapdpcfanecdaaDoor
