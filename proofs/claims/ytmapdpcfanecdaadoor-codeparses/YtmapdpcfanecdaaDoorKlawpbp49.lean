/- The law CodeBack over what it calls. -/
import Derived.Test.YtmapdpcfanecdaaDoorKlawpbp43
import Derived.Test.YtmapdpcfanecdaaDoorKlawpbp48
import Derived.Test.YtmapdpcfanecdaaDoorKlawpbp42
import Derived.Deep.DeepCutAuto
namespace Go.Proofs.YtmapdpcfanecdaaDoor
set_option linter.unusedVariables false
set_option linter.unusedSimpArgs false
open Go.RowKit

theorem ckOne_fits {V F L : Int} {i : Ins} (h : ckOne V F L i = 0) (hV : V ≤ 8) (hF : F ≤ 3) (hL : L ≤ 60) : i.Fits := by
  obtain ⟨h1, h2, h3⟩ := ckOne_ok h hV hF hL
  obtain ⟨k, d, a, b, n, g⟩ := i
  simp only at h1
  have hk : btw k 1 19 = true := by simp [btw]; omega
  rcases btw_cases hk with rfl | rfl | rfl | rfl | rfl | rfl | rfl | rfl | rfl | rfl | rfl | rfl | rfl | rfl | rfl | rfl | rfl | rfl | rfl <;>
  · simp [argsOf] at h2
    simp [argsOf, prt, putAll, putP] at h3
    constructor <;> (unfold fits; simp only; omega)

/-- A program lies in a variable of its own. -/
def PgAt (w : World) (b : Nat) (V F : Int) (s : Option Addr) (n cap : Nat) : Prop := w.cell? ⟨b, 0, none⟩ = some (.int .i64 V) ∧ w.cell? ⟨b, 1, none⟩ = some (.int .i64 F) ∧ w.cell? ⟨b, 2, none⟩ = some (.slice s n cap) ∧ b < w.heap.size
theorem PgAt.new (w : World) (V F : Int) (s : Option Addr) (n cap : Nat) : PgAt (w.alloc (.cells #[.int .i64 V, .int .i64 F, .slice s n cap] 24)) w.heap.size V F s n cap := by
  refine ⟨?_, ?_, ?_, ?_⟩ <;> simp [go_sem]
theorem PgAt.call {w w' : World} {b : Nat} {V F : Int} {s : Option Addr} {n cap : Nat} (h : PgAt w b V F s n cap) (hb : Below w.heap.size w w') : PgAt w' b V F s n cap := by
  obtain ⟨h0, h1, h2, hz⟩ := h
  exact ⟨by rw [hb.cell hz]; exact h0, by rw [hb.cell hz]; exact h1, by rw [hb.cell hz]; exact h2, Nat.lt_of_lt_of_le hz hb.size⟩

/-- What is told of a text that is not read right: no program. -/
theorem parsed_err {s : ByteArray} (h : (parsed s).2.2 ≠ 0) : (parsed s).1.2.2 = [] := by
  unfold parsed at h ⊢
  by_cases hs : 4000 < s.size
  · rw [if_pos hs]
  · rw [if_neg hs] at h ⊢
    cases hr : readAll s.data.toList with
    | error k => rfl
    | ok p =>
      obtain ⟨V, F, c⟩ := p
      rw [hr] at h
      simp only at h ⊢
      by_cases h0 : ckProg V F c = 0
      · rw [if_pos h0] at h
        exact absurd rfl h
      · rw [if_neg h0]
/-- .. and of one that is. -/
theorem parsed_ok {s : ByteArray} (h : (parsed s).2.2 = 0) : ckProg (parsed s).1.1 (parsed s).1.2.1 (parsed s).1.2.2 = 0 ∧ textB (parsed s).1.1 (parsed s).1.2.1 (parsed s).1.2.2 = s := by
  unfold parsed at h ⊢
  split
  · rename_i hs
    rw [if_pos hs] at h
    cases h
  · rename_i hs
    rw [if_neg hs] at h
    split
    · rename_i k hr
      rw [hr] at h
      cases h
    · rename_i V F c hr
      rw [hr] at h
      simp only at h
      split
      · rename_i h0
        refine ⟨h0, ?_⟩
        apply ByteArray.ext
        apply Array.toList_inj.1
        exact read_text hr
      · rename_i h0
        rw [if_neg h0] at h
        exact absurd h h0
theorem parsed_text {V F : Int} {c : List Ins} (h : ckProg V F c = 0) (hl : (textB V F c).size ≤ 4000) : parsed (textB V F c) = ((V, F, c), 0, 0) := by
  unfold parsed
  rw [if_neg (by omega), text_read h]
  simp only
  rw [if_pos h]

set_option maxHeartbeats 4000000 in
set_option maxRecDepth 20000 in
theorem codeBack_any (V F : Int) (s : Option Addr) (cap : Nat) (c : List Ins) (t : ByteArray) (w : World) (hcap : c.length ≤ cap) (hmax : cap ≤ maxLen) (hcode : CodeAt w s c) (hfit : ∀ i ∈ c, i.Fits) (ht : Tab w) (hm : Cap w) (hE : ErrS w) :
    Calls Tryd.prog 5 #[.agg #[.int .i64 V, .int .i64 F, .slice s c.length cap], .string t] w fun e w' => e = .returned (.bool true) ∧ Below w.heap.size w w' := by
  have h0 : Below w.heap.size w (w.alloc (.cells #[.int .i64 V, .int .i64 F, .slice s c.length cap] 24)) := by go_grown
  have PG := PgAt.new w V F s c.length cap
  go_enter Tryd.func5, Tryd.ntmps5
  go_wp2_with (go_at_call 13; fail)
  refine (codeBegun_any _ (ht.below h0) (hm.below h0)).mono ?_
  rintro e w1 ⟨rfl, hb1⟩
  have H1 : Below w.heap.size w w1 := h0.trans (hb1.mono (by simp))
  have PG1 := PG.call hb1
  clear PG h0 hb1
  obtain ⟨p0, p1, p2, pz⟩ := id PG1
  go_wp2_with (go_at_call 8; fail)
  refine (print_any V F s cap c w1 hfit (ht.below H1) (hcode.below H1 (Nat.le_refl _))).mono ?_
  rintro e w2 ⟨rfl, hb2⟩
  have H2 : Below w.heap.size w w2 := H1.trans (hb2.mono H1.size)
  have PG2 := PG1.call hb2
  clear PG1 H1 hb2 p0 p1 p2 pz
  have HX : ∃ b : Bool, Hid (b = true → (ckProg V F c = 0 ∧ parsed (textB V F c) = ((V, F, c), 0, 0)) ∧ textAll V F c = textB V F c) ∧ Hid (b = (decide (ckProg V F c = 0) && decide ((textAll V F c).size ≤ 4000))) := by
    refine ⟨_, ?_, rfl⟩
    intro hb
    rw [Bool.and_eq_true, decide_eq_true_eq, decide_eq_true_eq] at hb
    have ht : textAll V F c = textB V F c := by unfold textAll; rw [if_pos hb.1]
    exact ⟨⟨hb.1, parsed_text hb.1 (by rw [← ht]; exact hb.2)⟩, ht⟩
  obtain ⟨b, HX1, HX2⟩ := HX
  generalize ckProg V F c = ck at *
  generalize textAll V F c = TA at *
  go_upto_region 4 with fail
  go_cut [25] (fun x wy => x = .bool b ∧ Below w.heap.size w wy ∧ PgAt wy w.heap.size V F s c.length cap)
  case first =>
    by_cases e1 : ck = 0
    · subst e1
      by_cases e2 : TA.size ≤ 4000
      · have n0 : (TA.size : Int) ≤ 4000 := by omega
        go_wp2_with fail
        go_meet
        exact ⟨by rw [HX2.out]; simp [e2], H2, PG2⟩
      · have n0 : ¬ (TA.size : Int) ≤ 4000 := by omega
        go_wp2_with fail
        go_meet
        exact ⟨by rw [HX2.out]; simp [e2], H2, PG2⟩
    · have e1b : (ck == 0) = false := by simpa using e1
      go_wp2_with fail
      go_meet
      exact ⟨by rw [HX2.out]; simp [e1], H2, PG2⟩
  obtain ⟨rfl, H3, PG3⟩ := hcut
  clear H2 PG2 HX2
  go_upto_if 25 with fail
  go_cut [7, 8, 9] (fun _ _ _ wy => Below w.heap.size w wy)
  case first =>
    cases b with
    | true =>
      obtain ⟨⟨rfl, q1⟩, rfl⟩ := HX1.out rfl
      have hP := parse_any (textB V F c) wc (ht.below H3) (hm.below H3) (hE.below H3)
      rw [q1] at hP
      simp only at hP
      clear HX1 q1
      obtain ⟨p0, p1, p2, pz⟩ := id PG3
      go_wp2_with (go_at_call 16; fail)
      refine hP.mono ?_
      rintro e w5 ⟨v, rfl, hown, hb5⟩
      clear hP p0 p1 p2 pz
      obtain ⟨sl, cp, rfl, hc5⟩ := codeAt_own hown
      have H5 : Below w.heap.size w w5 := H3.trans (hb5.mono H3.size)
      have PG5 := PG3.call hb5
      have hb6 : Below w5.heap.size w5 (w5.alloc (.cells #[.int .i64 V, .int .i64 F, .slice sl c.length cp] 24)) := by go_grown
      have H6 : Below w.heap.size w (w5.alloc (.cells #[.int .i64 V, .int .i64 F, .slice sl c.length cp] 24)) := H5.trans (hb6.mono H5.size)
      obtain ⟨p0, p1, p2, pz⟩ := id PG5
      have hS := sameProgram_any V F s sl cap cp c _ (Nat.le_trans hcap hmax) (hcode.below H6 (Nat.le_refl _)) (hc5.below hb6 (Nat.le_refl _))
      clear hown hc5 PG5 PG3
      go_wp2_with (go_at_call 18; fail)
      refine hS.mono ?_
      rintro e w7 ⟨rfl, hb7⟩
      clear hS p0 p1 p2 pz
      have H7 : Below w.heap.size w w7 := H6.trans (hb7.mono H6.size)
      go_wp2_with fail
      go_meet
      exact H7
    | false =>
      go_wp2_with fail
      go_meet
      exact H3
  have H4 : Below w.heap.size w wc := by assumption
  have hP := parse_any t wc (ht.below H4) (hm.below H4) (hE.below H4)
  have HO := hideN (@parsed_ok t)
  have HR := hideN (@parsed_err t)
  generalize parsed t = pt at *
  obtain ⟨⟨V2, F2, c2⟩, l2, er⟩ := pt
  simp only at hP HO HR
  go_wp2_with (go_at_call 16; fail)
  refine hP.mono ?_
  rintro e w8 ⟨v, rfl, hown, hb8⟩
  clear hP
  have H8 : Below w.heap.size w w8 := H4.trans (hb8.mono H4.size)
  obtain ⟨sl, cp, rfl, hc8⟩ := codeAt_own hown
  clear hown hb8
  by_cases e0 : er = 0
  · subst e0
    obtain ⟨o1, o2⟩ := HO.out rfl
    have hb9 : Below w8.heap.size w8 (w8.alloc (.cells #[.int .i64 V2, .int .i64 F2, .slice sl c2.length cp] 24)) := by go_grown
    have H9 : Below w.heap.size w (w8.alloc (.cells #[.int .i64 V2, .int .i64 F2, .slice sl c2.length cp] 24)) := H8.trans (hb9.mono H8.size)
    have hr := ckProg_each o1
    have hPr := print_any V2 F2 sl cp c2 _ (fun i hi => ckOne_fits (hr.2.2.2 i hi) hr.1.2 hr.2.1.2 (by have := hr.2.2.1; omega)) (ht.below H9) (hc8.below hb9 (Nat.le_refl _))
    have hta : textAll V2 F2 c2 = t := by unfold textAll; rw [if_pos o1]; exact o2
    rw [hta, o1] at hPr
    clear hta o1 o2 hr HO HR hc8
    go_wp2_with (go_at_call 8; fail)
    refine hPr.mono ?_
    rintro e w10 ⟨rfl, hb10⟩
    clear hPr
    go_wp2
    go_ret
    exact ⟨rfl, H9.trans (hb10.mono H9.size)⟩
  · have e0b : (er != 0) = true := by simpa using e0
    obtain rfl : c2 = [] := HR.out e0
    clear HO HR hc8
    simp only [List.length_nil]
    go_wp2
    go_ret
    exact ⟨rfl, by first | exact H8.alloc H8.size _ | go_grown⟩
end Go.Proofs.YtmapdpcfanecdaaDoor
