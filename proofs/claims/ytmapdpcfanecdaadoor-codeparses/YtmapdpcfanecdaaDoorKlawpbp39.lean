/- The walk of the law CodePrints over what it calls. -/
import Derived.Test.YtmapdpcfanecdaaDoorKlawpbp38
import Derived.Test.YtmapdpcfanecdaaDoorKlawpbp19
import Derived.Deep.RegionHeld3
namespace Go.Proofs.YtmapdpcfanecdaaDoor
set_option linter.unusedVariables false
set_option linter.unusedSimpArgs false
open Go.RowKit

theorem intsAt_own {w : World} {B : Nat} {v : Value} {l : List Int} (h : w.ownsRow B 3 1 v l.length (l.map (.int .i64))) : ∃ s cap, v = .slice s l.length cap ∧ IntsAt w s l := by
  cases l with
  | nil =>
    rcases h.2 with ⟨rfl, _⟩ | ⟨g, cap, cur, rfl, _⟩
    · exact ⟨_, _, rfl, .inl rfl⟩
    · exact ⟨_, _, rfl, .inl rfl⟩
  | cons x r =>
    obtain ⟨g, cap, rfl, hb, hlt⟩ := h.form (by simp)
    refine ⟨_, _, rfl, .inr ⟨g, 0, rfl, hlt, fun k hk => ?_⟩⟩
    rw [h.cellAt _ (by omega), Nat.zero_add, List.getElem?_map, List.getElem?_eq_getElem hk]
    rfl

set_option maxHeartbeats 2000000 in
set_option maxRecDepth 20000 in
theorem codePrints_of (V F : Int) (s : Option Addr) (len cap : Nat) (ck : Int) (TA : ByteArray) (HL : List Int) (w : World) (hlen : HL.length ≤ maxLen)
    (hBe : ∀ w', Below w.heap.size w w' → Calls Tryd.prog 13 #[] w' fun e w'' => e = .returned (.bool true) ∧ Below w'.heap.size w' w'')
    (hPr : ∀ w', Below w.heap.size w w' → Calls Tryd.prog 8 #[.agg #[.int .i64 V, .int .i64 F, .slice s len cap]] w' fun e w'' => e = .returned (.tuple #[.string TA, .int .i64 ck]) ∧ Below w'.heap.size w' w'')
    (hHd : ∀ w', Below w.heap.size w w' → Calls Tryd.prog 9 #[.agg #[.int .i64 V, .int .i64 F, .slice s len cap]] w' fun e w'' => ∃ v, e = .returned (.tuple #[v, .int .i64 ck]) ∧ w''.ownsRow w'.heap.size 3 1 v HL.length (HL.map (.int .i64)) ∧ Below w'.heap.size w' w'')
    (hCp : ∀ w', Below w.heap.size w w' → Calls Tryd.prog 10 #[.agg #[.int .i64 V, .int .i64 F, .slice s len cap]] w' fun e w'' => e = .returned (.int .i64 ck) ∧ Below w'.heap.size w' w'')
    (hCk : ∀ w', Below w.heap.size w w' → Calls Tryd.prog 14 #[.agg #[.int .i64 V, .int .i64 F, .slice s len cap]] w' fun e w'' => e = .returned (.int .i64 ck) ∧ Below w'.heap.size w' w'')
    (hPo : ck = 0 → ∀ w', Below w.heap.size w w' → Calls Tryd.prog 11 #[.agg #[.int .i64 V, .int .i64 F, .slice s len cap]] w' fun e w'' => e = .returned (.string TA) ∧ Below w'.heap.size w' w'')
    (hHo : ck = 0 → ∀ w', Below w.heap.size w w' → Calls Tryd.prog 12 #[.agg #[.int .i64 V, .int .i64 F, .slice s len cap]] w' fun e w'' => ∃ v, e = .returned v ∧ w''.ownsRow w'.heap.size 3 1 v HL.length (HL.map (.int .i64)) ∧ Below w'.heap.size w' w'')
    (hne : ck ≠ 0 → TA = ⟨#[]⟩ ∧ HL = []) :
    Calls Tryd.prog 3 #[.agg #[.int .i64 V, .int .i64 F, .slice s len cap]] w fun e w' => e = .returned (.bool true) ∧ Below w.heap.size w w' := by
  have h0 : Below w.heap.size w (w.alloc (.cells #[.int .i64 V, .int .i64 F, .slice s len cap] 24)) := by go_grown
  have K : ∀ wx, Below (w.heap.size + 1) (w.alloc (.cells #[.int .i64 V, .int .i64 F, .slice s len cap] 24)) wx → wx.cell? ⟨w.heap.size, 0, none⟩ = some (.int .i64 V) ∧ wx.cell? ⟨w.heap.size, 1, none⟩ = some (.int .i64 F) ∧ wx.cell? ⟨w.heap.size, 2, none⟩ = some (.slice s len cap) := by
    intro wx hb
    rw [hb.cell (by simp), hb.cell (by simp), hb.cell (by simp)]
    simp [go_sem]
  go_enter Tryd.func3, Tryd.ntmps3
  go_wp2_with (go_at_call 8; fail)
  refine (hPr _ h0).mono ?_
  rintro e w1 ⟨rfl, hb1⟩
  have HB1 : Below (w.heap.size + 1) (w.alloc (.cells #[.int .i64 V, .int .i64 F, .slice s len cap] 24)) w1 := hb1.mono (by simp)
  have H1 : Below w.heap.size w w1 := h0.trans (HB1.mono (by omega))
  have z1 : w.heap.size < w1.heap.size := by have := HB1.size; simp at this; omega
  obtain ⟨p0, p1, p2⟩ := K w1 HB1
  go_wp2_with (go_at_call 9; fail)
  refine (hHd _ H1).mono ?_
  rintro e w2 ⟨v2, rfl, hown2, hb2⟩
  have HB2 : Below (w.heap.size + 1) (w.alloc (.cells #[.int .i64 V, .int .i64 F, .slice s len cap] 24)) w2 := HB1.trans (hb2.mono (by omega))
  have H2 : Below w.heap.size w w2 := h0.trans (HB2.mono (by omega))
  have z2 : w.heap.size < w2.heap.size := by have := HB2.size; simp at this; omega
  clear p0 p1 p2
  obtain ⟨p0, p1, p2⟩ := K w2 HB2
  obtain ⟨s2, cap2, rfl, hi2⟩ := intsAt_own hown2
  clear hPr hHd hb1 hb2
  go_wp2_with (go_at_call 10; fail)
  refine (hCp _ H2).mono ?_
  rintro e w3 ⟨rfl, hb3⟩
  have HB3 : Below (w.heap.size + 1) (w.alloc (.cells #[.int .i64 V, .int .i64 F, .slice s len cap] 24)) w3 := HB2.trans (hb3.mono (by omega))
  have H3 : Below w.heap.size w w3 := h0.trans (HB3.mono (by omega))
  have z3 : w.heap.size < w3.heap.size := by have := HB3.size; simp at this; omega
  have hi3 : IntsAt w3 s2 HL := hi2.below hb3 (Nat.le_refl _)
  clear p0 p1 p2
  obtain ⟨p0, p1, p2⟩ := K w3 HB3
  clear hCp hb3 hi2 hown2
  by_cases hz : ck = 0
  · subst hz
    have hPz := hPo rfl
    have hHz := hHo rfl
    clear hne hPo hHo
    go_wp2
    go_region_held3 (fun w' => w'.cell? ⟨w.heap.size, 0, none⟩ = some (.int .i64 V) ∧ w'.cell? ⟨w.heap.size, 1, none⟩ = some (.int .i64 F) ∧ w'.cell? ⟨w.heap.size, 2, none⟩ = some (.slice s len cap))
      (first | exact K _ HB3.drew | exact K _ HB5 | exact K _ HB4)
      (first
        | (go_at_call 11; refine (hPz _ H3.drew).mono ?_; rintro e w4 ⟨rfl, hb4⟩; have HB4 : Below (w.heap.size + 1) (w.alloc (.cells #[.int .i64 V, .int .i64 F, .slice s len cap] 24)) w4 := HB3.drew.trans (hb4.mono z3))
        | (go_at_call 12; refine (hHz _ (h0.trans (HB4.mono (Nat.le_succ _)))).mono ?_; rintro e w5 ⟨v5, rfl, hown5, hb5⟩; obtain ⟨s5, cap5, rfl, hi5⟩ := intsAt_own hown5; have HB5 : Below (w.heap.size + 1) (w.alloc (.cells #[.int .i64 V, .int .i64 F, .slice s len cap] 24)) w5 := HB4.trans (hb5.mono (by have := HB4.size; simp at this; omega))))
    have H5 : Below w.heap.size w w5 := h0.trans (HB5.mono (by omega))
    have z5 : w.heap.size < w5.heap.size := by have := HB5.size; simp at this; omega
    have hi3' : IntsAt w5 s2 HL := (hi3.below ((Below.refl w3.heap.size w3).drew.trans hb4) (Nat.le_refl _)).below hb5 (Nat.le_refl _)
    clear p0 p1 p2 hPz hHz hb4 hb5 hi3
    go_wp2_with (go_at_call 13; fail)
    refine (hBe _ H5).mono ?_
    rintro e w6 ⟨rfl, hb6⟩
    have HB6 : Below (w.heap.size + 1) (w.alloc (.cells #[.int .i64 V, .int .i64 F, .slice s len cap] 24)) w6 := HB5.trans (hb6.mono (by omega))
    have H6 : Below w.heap.size w w6 := h0.trans (HB6.mono (by omega))
    have z6 : w.heap.size < w6.heap.size := by have := HB6.size; simp at this; omega
    obtain ⟨p0, p1, p2⟩ := K w6 HB6
    go_wp2_with (go_at_call 14; fail)
    refine (hCk _ H6).mono ?_
    rintro e w7 ⟨rfl, hb7⟩
    have HB7 : Below (w.heap.size + 1) (w.alloc (.cells #[.int .i64 V, .int .i64 F, .slice s len cap] 24)) w7 := HB6.trans (hb7.mono (by omega))
    have H7 : Below w.heap.size w w7 := h0.trans (HB7.mono (by omega))
    clear hBe hCk p0 p1 p2
    have i1 : IntsAt w7 s2 HL := (hi3'.below hb6 (Nat.le_refl _)).below hb7 (Nat.le_refl _)
    have i2 : IntsAt w7 s5 HL := (hi5.below hb6 (Nat.le_refl _)).below hb7 (Nat.le_refl _)
    go_wp2_with (go_at_call 15; fail)
    refine (sameInts_any _ _ _ _ HL _ hlen i1 i2).mono ?_
    rintro e w8 ⟨rfl, hb8⟩
    go_wp2
    go_ret
    exact ⟨rfl, H7.trans (hb8.mono H7.size)⟩
  · obtain ⟨rfl, rfl⟩ := hne hz
    clear hPo hHo hne p0 p1 p2
    go_wp2_with (go_at_call 13; fail)
    refine (hBe _ H3).mono ?_
    rintro e w6 ⟨rfl, hb6⟩
    have HB6 : Below (w.heap.size + 1) (w.alloc (.cells #[.int .i64 V, .int .i64 F, .slice s len cap] 24)) w6 := HB3.trans (hb6.mono (by omega))
    have H6 : Below w.heap.size w w6 := h0.trans (HB6.mono (by omega))
    have z6 : w.heap.size < w6.heap.size := by have := HB6.size; simp at this; omega
    obtain ⟨p0, p1, p2⟩ := K w6 HB6
    go_wp2_with (go_at_call 14; fail)
    refine (hCk _ H6).mono ?_
    rintro e w7 ⟨rfl, hb7⟩
    have HB7 : Below (w.heap.size + 1) (w.alloc (.cells #[.int .i64 V, .int .i64 F, .slice s len cap] 24)) w7 := HB6.trans (hb7.mono (by omega))
    have H7 : Below w.heap.size w w7 := h0.trans (HB7.mono (by omega))
    clear hBe hCk p0 p1 p2
    go_wp2_with (go_at_call 15; fail)
    refine (sameInts_nil _ _ _ _ _).mono ?_
    rintro e w8 ⟨rfl, hb8⟩
    go_wp2
    go_ret
    exact ⟨rfl, H7.trans (hb8.mono H7.size)⟩
end Go.Proofs.YtmapdpcfanecdaaDoor
