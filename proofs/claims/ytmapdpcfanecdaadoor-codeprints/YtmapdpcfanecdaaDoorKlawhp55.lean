/- For every program that the law CodePrints is handed, it returns true and leaves the program as it was: Check, Print and Heads answer just what the document's own words ask. No condition but the row's own: the listed package-level variables hold what the program's text lays. -/
import Derived.Test.YtmapdpcfanecdaaDoorKlawhp44
import Derived.Test.YtmapdpcfanecdaaDoorKlawhp47
import Derived.Test.YtmapdpcfanecdaaDoorKlawhp52
import Derived.Test.YtmapdpcfanecdaaDoorKlawhp54
namespace Go.Proofs.YtmapdpcfanecdaaDoor
set_option linter.unusedVariables false
set_option linter.unusedSimpArgs false
open Go.RowKit

theorem small_fits : ∀ i ∈ smallC, i.Fits := by
  intro i hi
  simp only [smallC, List.mem_cons, List.not_mem_nil, or_false] at hi
  rcases hi with rfl | rfl <;> constructor <;> (unfold fits; decide)

theorem codeBegun_any (w : World) (ht : Tab w) (hm : Cap w) : Calls Tryd.prog 13 #[] w fun e w' => e = .returned (.bool true) ∧ Below w.heap.size w w' := by
  refine codeBegun_of w ?_ ?_ ?_
  · intro w' hb s cap hc
    have h := print_any 1 0 s cap smallC w' small_fits (ht.below hb) hc
    rw [small_text, small_right] at h
    exact h
  · intro w' hb
    refine (parse_small w' (ht.below hb) (hm.below hb)).mono ?_
    rintro e w'' ⟨v, rfl, hown, hbb⟩
    obtain ⟨s, cap, rfl, hc⟩ := codeAt_own hown
    exact ⟨s, cap, rfl, hc, hbb⟩
  · intro w' s cap hc
    have h := codeCheck_any 1 0 s cap smallC w' hc
    rw [small_right] at h
    exact h

/-- What a right program has. -/
theorem ckProg_right {V F : Int} {c : List Ins} (h : ckProg V F c = 0) : c.length ≤ 60 ∧ ∀ i ∈ c, btw i.k 1 19 = true := by
  refine ⟨ckProg_len h, ?_⟩
  have one : ∀ (L : Int) (l : List Ins), ckAll V F L l = 0 → ∀ i ∈ l, btw i.k 1 19 = true := by
    intro L l
    induction l with
    | nil => intro _ i hi; simp at hi
    | cons x r ih =>
      intro h i hi
      unfold ckAll at h
      split at h
      · rename_i hx
        rcases List.mem_cons.1 hi with rfl | hi
        · cases hk : btw i.k 1 19 with
          | true => rfl
          | false =>
            unfold ckOne at hx
            rw [if_pos hk] at hx
            exact absurd hx (by decide)
        · exact ih h i hi
      · rename_i hx
        exact absurd h hx
  unfold ckProg at h
  split at h
  · exact absurd h (by decide)
  · split at h
    · exact absurd h (by decide)
    · exact one _ _ h

theorem walk : codePrints.Walk := by
  intro V F s cap c W hcap hmax fV fF hcode hfit ht hm
  refine codePrints_of V F s c.length cap (ckProg V F c) (textAll V F c) (headsAll V F c) W ?_ ?_ ?_ ?_ ?_ ?_ ?_ ?_ ?_
  · unfold headsAll
    split
    · refine Nat.le_trans ?_ (Nat.le_trans hcap hmax)
      unfold headsTo
      rw [List.length_map]
      exact Nat.le_trans (List.length_filter_le _ _) (by simp)
    · exact Nat.zero_le _
  · exact fun w' hb => codeBegun_any w' (ht.below hb) (hm.below hb)
  · exact fun w' hb => print_any V F s cap c w' hfit (ht.below hb) (hcode.below hb (Nat.le_refl _))
  · exact fun w' hb => heads_any V F s cap c w' hcap (hcode.below hb (Nat.le_refl _))
  · exact fun w' hb => checkProgram_any V F s cap c w' (hcode.below hb (Nat.le_refl _))
  · exact fun w' hb => codeCheck_any V F s cap c w' (hcode.below hb (Nat.le_refl _))
  · intro h0 w' hb
    have h := printOf_any V F s cap c w' fV fF (ckProg_right h0).1 hfit (ckProg_right h0).2 (hcode.below hb (Nat.le_refl _))
    unfold textAll
    rw [if_pos h0]
    exact h
  · intro h0 w' hb
    have h := headsOf_any V F s cap c w' (ckProg_right h0).1 (hcode.below hb (Nat.le_refl _))
    unfold headsAll
    rw [if_pos h0]
    exact h
  · intro h0
    unfold textAll headsAll
    rw [if_neg h0, if_neg h0]
    exact ⟨rfl, rfl⟩

theorem codePrints_holds : Rows.CodePrintsCardSaid := codePrints.card_of walk
end Go.Proofs.YtmapdpcfanecdaaDoor
