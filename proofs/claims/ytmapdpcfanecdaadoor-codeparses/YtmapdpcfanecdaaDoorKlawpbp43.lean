/- For every program that the law CodePrints is handed, it returns true and leaves the program as it was: Check, Print and Heads answer just what the document's own words ask. No condition but the row's own: the listed package-level variables hold what the program's text lays. -/
import Derived.Test.YtmapdpcfanecdaaDoorKlawpbp42
import Derived.Deep.RegionHeld3
import Derived.Test.YtmapdpcfanecdaaDoorKlawpbp37
import Derived.Test.YtmapdpcfanecdaaDoorKlawpbp39
namespace Go.Proofs.YtmapdpcfanecdaaDoor
set_option linter.unusedVariables false
set_option linter.unusedSimpArgs false
open Go.RowKit

set_option maxHeartbeats 1000000 in
set_option maxRecDepth 20000 in
theorem codeBegun_of (w : World)
    (hPr : ∀ w', Below w.heap.size w w' → ∀ s cap, CodeAt w' s smallC → Calls Tryd.prog 8 #[.agg #[.int .i64 1, .int .i64 0, .slice s 2 cap]] w' fun e w'' => e = .returned (.tuple #[.string text0, .int .i64 0]) ∧ Below w'.heap.size w' w'')
    (hPa : ∀ w', Below w.heap.size w w' → Calls Tryd.prog 16 #[.string text0] w' fun e w'' => ∃ s cap, e = .returned (.tuple #[.agg #[.int .i64 1, .int .i64 0, .slice s 2 cap], .int .i64 0, .int .i64 0]) ∧ CodeAt w'' s smallC ∧ Below w'.heap.size w' w'')
    (hCk : ∀ w' s cap, CodeAt w' s smallC → Calls Tryd.prog 14 #[.agg #[.int .i64 1, .int .i64 0, .slice s 2 cap]] w' fun e w'' => e = .returned (.int .i64 0) ∧ Below w'.heap.size w' w'') :
    Calls Tryd.prog 13 #[] w fun e w' => e = .returned (.bool true) ∧ Below w.heap.size w w' := by
  unfold text0 at hPr hPa
  go_enter Tryd.func13, Tryd.ntmps13
  go_wp2_with (go_at_call 41; fail)
  refine (small_any w).mono ?_
  rintro e w1 ⟨b1, rfl, hc1, hb1⟩
  go_wp2_with (go_at_call 8; fail)
  refine (hPr w1 hb1 _ _ hc1).mono ?_
  rintro e w2 ⟨rfl, hb2⟩
  have H2 : Below w.heap.size w w2 := hb1.trans (hb2.mono hb1.size)
  go_wp2_with (go_at_call 16; fail)
  refine (hPa w2 H2).mono ?_
  rintro e w3 ⟨s3, cap3, rfl, hc3, hb3⟩
  have H3 : Below w.heap.size w w3 := H2.trans (hb3.mono H2.size)
  clear hc1 hb1 hb2 hb3 hPr hPa
  have h0 : Below w3.heap.size w3 (w3.alloc (.cells #[.int .i64 1, .int .i64 0, .slice s3 2 cap3] 24)) := by go_grown
  have K : ∀ wx, Below (w3.heap.size + 1) (w3.alloc (.cells #[.int .i64 1, .int .i64 0, .slice s3 2 cap3] 24)) wx → wx.cell? ⟨w3.heap.size, 0, none⟩ = some (.int .i64 1) ∧ wx.cell? ⟨w3.heap.size, 1, none⟩ = some (.int .i64 0) ∧ wx.cell? ⟨w3.heap.size, 2, none⟩ = some (.slice s3 2 cap3) := by
    intro wx hb
    rw [hb.cell (by simp), hb.cell (by simp), hb.cell (by simp)]
    simp [go_sem]
  go_wp2
  go_region_held3 (fun w' => w'.cell? ⟨w3.heap.size, 0, none⟩ = some (.int .i64 1) ∧ w'.cell? ⟨w3.heap.size, 1, none⟩ = some (.int .i64 0) ∧ w'.cell? ⟨w3.heap.size, 2, none⟩ = some (.slice s3 2 cap3))
    (first | exact K _ (Below.refl _ _).drew | exact K _ HB4 | exact K _ HB3 | exact K _ HB2 | exact K _ HB1)
    (first
      | (go_at_call 18; refine (sameProgram_any 1 0 _ _ _ _ smallC _ (by decide) ?c1 ?c2).mono ?_; (case c1 => exact hc3.below (h0.trans (HB3.mono (by omega))) (Nat.le_refl _)); (case c2 => exact hc5); rintro e u4 ⟨rfl, hu4⟩; have HB4 : Below (w3.heap.size + 1) (w3.alloc (.cells #[.int .i64 1, .int .i64 0, .slice s3 2 cap3] 24)) u4 := HB3.trans (hu4.mono (by have := HB3.size; simp at this; omega)))
      | (go_at_call 41; refine (small_any _).mono ?_; rintro e u3 ⟨b5, rfl, hc5, hu3⟩; have HB3 : Below (w3.heap.size + 1) (w3.alloc (.cells #[.int .i64 1, .int .i64 0, .slice s3 2 cap3] 24)) u3 := HB2.trans (hu3.mono (by have := HB2.size; simp at this; omega)))
      | (go_at_call 14; refine (hCk _ _ _ ?ck).mono ?_; (case ck => exact hc4); rintro e u2 ⟨rfl, hu2⟩; have HB2 : Below (w3.heap.size + 1) (w3.alloc (.cells #[.int .i64 1, .int .i64 0, .slice s3 2 cap3] 24)) u2 := HB1.trans (hu2.mono (by have := HB1.size; simp at this; omega)))
      | (go_at_call 41; refine (small_any _).mono ?_; rintro e u1 ⟨b4, rfl, hc4, hu1⟩; have HB1 : Below (w3.heap.size + 1) (w3.alloc (.cells #[.int .i64 1, .int .i64 0, .slice s3 2 cap3] 24)) u1 := (Below.refl _ _).drew.trans (hu1.mono (by simp))))
  go_wp2
  go_ret
  exact ⟨rfl, H3.trans ((h0.mono H3.size).trans (HB4.mono (by have := H3.size; omega)))⟩
end Go.Proofs.YtmapdpcfanecdaaDoor

namespace Go.Proofs.YtmapdpcfanecdaaDoor
set_option linter.unusedVariables false
set_option linter.unusedSimpArgs false
open Go.RowKit

theorem small_fits : ∀ i ∈ smallC, i.Fits := by
  intro i hi
  simp only [smallC, List.mem_cons, List.not_mem_nil, or_false] at hi
  rcases hi with rfl | rfl <;> constructor <;> (unfold fits; decide)

theorem codeBegun_any (w : World) (ht : Tab w) (hm : Cap w) : Calls Tryd.prog 13 #[] w fun e w' => e = .returned (.bool true) ∧ Below w.heap.size w w' := by
  refine codeBegun_of w ?_ ?_ ?_
  · intro w' hb s cap hc
    have h := print_any 1 0 s cap smallC w' small_fits (ht.below hb) hc
    rw [small_text, small_right] at h
    exact h
  · intro w' hb
    refine (parse_small w' (ht.below hb) (hm.below hb)).mono ?_
    rintro e w'' ⟨v, rfl, hown, hbb⟩
    obtain ⟨s, cap, rfl, hc⟩ := codeAt_own hown
    exact ⟨s, cap, rfl, hc, hbb⟩
  · intro w' s cap hc
    have h := codeCheck_any 1 0 s cap smallC w' hc
    rw [small_right] at h
    exact h

/-- What a right program has. -/
theorem ckProg_right {V F : Int} {c : List Ins} (h : ckProg V F c = 0) : c.length ≤ 60 ∧ ∀ i ∈ c, btw i.k 1 19 = true := by
  refine ⟨ckProg_len h, ?_⟩
  have one : ∀ (L : Int) (l : List Ins), ckAll V F L l = 0 → ∀ i ∈ l, btw i.k 1 19 = true := by
    intro L l
    induction l with
    | nil => intro _ i hi; simp at hi
    | cons x r ih =>
      intro h i hi
      unfold ckAll at h
      split at h
      · rename_i hx
        rcases List.mem_cons.1 hi with rfl | hi
        · cases hk : btw i.k 1 19 with
          | true => rfl
          | false =>
            unfold ckOne at hx
            rw [if_pos hk] at hx
            exact absurd hx (by decide)
        · exact ih h i hi
      · rename_i hx
        exact absurd h hx
  unfold ckProg at h
  split at h
  · exact absurd h (by decide)
  · split at h
    · exact absurd h (by decide)
    · exact one _ _ h

theorem walk : codePrints.Walk := by
  intro V F s cap c W hcap hmax fV fF hcode hfit ht hm
  refine codePrints_of V F s c.length cap (ckProg V F c) (textAll V F c) (headsAll V F c) W ?_ ?_ ?_ ?_ ?_ ?_ ?_ ?_ ?_
  · unfold headsAll
    split
    · refine Nat.le_trans ?_ (Nat.le_trans hcap hmax)
      unfold headsTo
      rw [List.length_map]
      exact Nat.le_trans (List.length_filter_le _ _) (by simp)
    · exact Nat.zero_le _
  · exact fun w' hb => codeBegun_any w' (ht.below hb) (hm.below hb)
  · exact fun w' hb => print_any V F s cap c w' hfit (ht.below hb) (hcode.below hb (Nat.le_refl _))
  · exact fun w' hb => heads_any V F s cap c w' hcap (hcode.below hb (Nat.le_refl _))
  · exact fun w' hb => checkProgram_any V F s cap c w' (hcode.below hb (Nat.le_refl _))
  · exact fun w' hb => codeCheck_any V F s cap c w' (hcode.below hb (Nat.le_refl _))
  · intro h0 w' hb
    have h := printOf_any V F s cap c w' fV fF (ckProg_right h0).1 hfit (ckProg_right h0).2 (hcode.below hb (Nat.le_refl _))
    unfold textAll
    rw [if_pos h0]
    exact h
  · intro h0 w' hb
    have h := headsOf_any V F s cap c w' (ckProg_right h0).1 (hcode.below hb (Nat.le_refl _))
    unfold headsAll
    rw [if_pos h0]
    exact h
  · intro h0
    unfold textAll headsAll
    rw [if_neg h0, if_neg h0]
    exact ⟨rfl, rfl⟩

theorem codePrints_holds : Rows.CodePrintsCardSaid := codePrints.card_of walk
end Go.Proofs.YtmapdpcfanecdaaDoor
