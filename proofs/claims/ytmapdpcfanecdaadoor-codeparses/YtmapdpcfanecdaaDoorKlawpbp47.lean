/- A text's lines, one after the other: plain Lean functions. -/
import Derived.Test.YtmapdpcfanecdaaDoorKlawpbp35
namespace Go.Proofs.YtmapdpcfanecdaaDoor
set_option linter.unusedVariables false
set_option linter.unusedSimpArgs false

theorem cutAll_len (c : UInt8) : ∀ l, (cutAll c l).length ≤ l.length + 1
  | [] => by simp [cutAll]
  | b :: l => by
    have ih := cutAll_len c l
    obtain ⟨x, r, h⟩ := cutAll_form c l
    unfold cutAll
    rw [h] at ih ⊢
    simp only [List.length_cons] at ih ⊢
    split <;> simp only [List.length_cons] <;> omega
theorem glue_two (c : UInt8) (x y : List UInt8) (r : List (List UInt8)) : glue c (x :: y :: r) = x ++ c :: glue c (y :: r) := by simp [glue]
theorem glue_mem (c : UInt8) : ∀ (ls : List (List UInt8)) (x : List UInt8), x ∈ ls → x.length ≤ (glue c ls).length
  | [], x, h => by cases h
  | [y], x, h => by simp at h; subst h; simp [glue]
  | y :: z :: r, x, h => by
    rw [glue_two]
    rcases List.mem_cons.1 h with rfl | h
    · simp
    · have := glue_mem c (z :: r) x h
      simp
      omega
theorem glue_drop (c : UInt8) : ∀ (ls : List (List UInt8)) (k : Nat), (glue c (ls.drop k)).length ≤ (glue c ls).length
  | ls, 0 => by simp
  | [], k + 1 => by simp
  | [y], k + 1 => by simp [glue]
  | y :: z :: r, k + 1 => by
    have := glue_drop c (z :: r) k
    rw [List.drop_succ_cons, glue_two]
    simp at this ⊢
    omega
/-- What of a text lies behind its k-th line's beginning; and that line. -/
def txB (ls : List (List UInt8)) (k : Nat) : ByteArray := ⟨(glue 10 (ls.drop k)).toArray⟩
def lnB (ls : List (List UInt8)) (k : Nat) : ByteArray := ⟨(ls.getD k []).toArray⟩
theorem txB_list (ls : List (List UInt8)) (k : Nat) : (txB ls k).data.toList = glue 10 (ls.drop k) := by simp [txB]
theorem lnB_list (ls : List (List UInt8)) (k : Nat) : (lnB ls k).data.toList = ls.getD k [] := by simp [lnB]
theorem getD_get {ls : List (List UInt8)} {k : Nat} (h : k < ls.length) : ls.getD k [] = ls[k] := by simp [List.getD, List.getElem?_eq_getElem h]
theorem tx_cut {ls : List (List UInt8)} {k : Nat} (h : k + 1 < ls.length) (hf : ∀ x ∈ ls, (10 : UInt8) ∉ x) : Lib.cut (txB ls k).data.toList [10] = ((lnB ls k).data.toList, (txB ls (k + 1)).data.toList, true) := by
  rw [txB_list, txB_list, lnB_list, getD_get (by omega : k < ls.length), List.drop_eq_getElem_cons (by omega : k < ls.length), List.drop_eq_getElem_cons h, glue_two]
  exact cut_hit 10 _ _ (hf _ (List.getElem_mem _))
theorem tx_last {ls : List (List UInt8)} {k : Nat} (h : k + 1 = ls.length) (hf : ∀ x ∈ ls, (10 : UInt8) ∉ x) : Lib.cut (txB ls k).data.toList [10] = ((lnB ls k).data.toList, (⟨#[]⟩ : ByteArray).data.toList, false) := by
  rw [txB_list, lnB_list, getD_get (by omega : k < ls.length), List.drop_eq_getElem_cons (by omega : k < ls.length), List.drop_eq_nil_of_le (by omega)]
  simp only [glue, List.flatMap_nil, List.append_nil]
  exact cut_miss 10 _ (hf _ (List.getElem_mem _))
theorem tx_ne {ls : List (List UInt8)} {k : Nat} (h : k + 1 < ls.length) : txB ls k ≠ ⟨#[]⟩ := by
  intro e
  have h2 : (txB ls k).data.toList = [] := by rw [e]
  rw [txB_list, List.drop_eq_getElem_cons (by omega : k < ls.length), List.drop_eq_getElem_cons h, glue_two] at h2
  simp at h2
theorem tx_end {ls : List (List UInt8)} {k : Nat} (h : k + 1 = ls.length) : (txB ls k).data.toList = ls.getD k [] := by
  rw [txB_list, getD_get (by omega : k < ls.length), List.drop_eq_getElem_cons (by omega : k < ls.length), List.drop_eq_nil_of_le (by omega)]
  simp [glue]
theorem code_ok : ∀ {ls : List (List UInt8)} {m : Nat} {c : List Ins}, codeOf m ls = .ok c → ls.length = c.length + 1 ∧ ls.getD c.length [] = [] ∧ ∀ k (h : k < c.length), insOf (ls.getD k []) = some c[k]
  | [], _, _, h => by cases h
  | [x], m, c, h => by
    unfold codeOf at h
    split at h
    · rename_i e
      cases h
      exact ⟨rfl, by rw [e]; rfl, fun k h => by cases h⟩
    · cases h
  | x :: y :: r, m, c, h => by
    unfold codeOf at h
    split at h
    · cases h
    · rename_i i hi
      split at h
      · cases h
      · rename_i c' hc
        cases h
        obtain ⟨h1, h2, h3⟩ := code_ok hc
        refine ⟨by simp only [List.length_cons] at h1 ⊢; omega, ?_, ?_⟩
        · simpa using h2
        · intro k hk
          cases k with
          | zero => simpa using hi
          | succ k => simpa using h3 k (by simpa using hk)
theorem code_err : ∀ {ls : List (List UInt8)} {m e : Nat}, ls ≠ [] → codeOf m ls = .error e → ∃ n, e = m + n ∧ n < ls.length ∧ (∀ k, k < n → ∃ i, insOf (ls.getD k []) = some i) ∧ ((n + 1 = ls.length ∧ ls.getD n [] ≠ []) ∨ (n + 1 < ls.length ∧ insOf (ls.getD n []) = none))
  | [], _, _, hn, _ => absurd rfl hn
  | [x], m, e, _, h => by
    unfold codeOf at h
    split at h
    · cases h
    · rename_i hx
      cases h
      exact ⟨0, rfl, by simp, fun k hk => by omega, .inl ⟨rfl, by simpa using hx⟩⟩
  | x :: y :: r, m, e, _, h => by
    unfold codeOf at h
    split at h
    · rename_i hi
      cases h
      exact ⟨0, rfl, by simp, fun k hk => by omega, .inr ⟨by simp, by simpa using hi⟩⟩
    · rename_i i hi
      split at h
      · rename_i e' hc
        cases h
        obtain ⟨n, h1, h2, h3, h4⟩ := code_err (by simp) hc
        refine ⟨n + 1, by omega, by simp only [List.length_cons] at h2 ⊢; omega, ?_, ?_⟩
        · intro k hk
          cases k with
          | zero => exact ⟨i, by simpa using hi⟩
          | succ k => simpa using h3 k (by omega)
        · rcases h4 with ⟨h5, h6⟩ | ⟨h5, h6⟩
          · exact .inl ⟨by simp only [List.length_cons] at h5 ⊢; omega, by simpa using h6⟩
          · exact .inr ⟨by simp only [List.length_cons] at h5 ⊢; omega, by simpa using h6⟩
      · cases h
end Go.Proofs.YtmapdpcfanecdaaDoor
