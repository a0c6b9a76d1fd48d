/- Walks over package code: Parse, whatever it is handed. -/
import Derived.Test.YtmapdpcfanecdaaDoorKlawpbp46
import Derived.Test.YtmapdpcfanecdaaDoorKlawpbp47
namespace Go.Proofs.YtmapdpcfanecdaaDoor
set_option linter.unusedVariables false
set_option linter.unusedSimpArgs false
open Go.RowKit

/-- What Parse answers: a program, a line's number, an errno. -/
def parsed (s : ByteArray) : (Int × Int × List Ins) × Int × Int :=
  if 4000 < s.size then ((0, 0, []), 0, 2) else match readAll s.data.toList with
    | .error k => ((0, 0, []), k, 1)
    | .ok (V, F, c) => if ckProg V F c = 0 then ((V, F, c), 0, 0) else ((0, 0, []), 0, ckProg V F c)

theorem size_of (a : ByteArray) (l : List UInt8) (h : a.data.toList = l) : a.size = l.length := by rw [← h, size_len]

theorem hH_of {H : ByteArray} {V F : Int} (hl : H.size ≤ 4000) (h : headOf H.data.toList = some (V, F)) : ∀ w, Tab w → Cap w → ErrS w → Calls Tryd.prog 69 #[.string H] w fun e w' => e = .returned (.tuple #[.agg #[.int .i64 V, .int .i64 F, .slice none 0 0], .bool true]) ∧ Below w.heap.size w w' := by
  intro w ht hm hE
  refine (parseHead_any H w hl ht hm hE).mono ?_
  rintro e w' ⟨V', F', rfl, h2, hb⟩
  obtain ⟨rfl, rfl⟩ := h2 _ _ h
  rw [h]
  exact ⟨rfl, hb⟩
theorem hI_of {L : ByteArray} {i : Ins} (hl : L.size ≤ 4000) (h : insOf L.data.toList = some i) : ∀ N w, ShpAt N shps w → Tab w → Cap w → ErrS w → Calls Tryd.prog 70 #[.map (some N), .string L] w fun e w' => e = .returned (.tuple #[.agg #[.int .i64 i.k, .int .i64 i.to, .int .i64 i.a, .int .i64 i.b, .int .i64 i.n, .int .i64 i.g], .bool true]) ∧ Below w.heap.size w w' := by
  intro N w hs ht hm hE
  refine (parseInstr_any N L w hl hs ht hm hE).mono ?_
  rintro e w' ⟨rfl, hb⟩
  rw [h]
  exact ⟨rfl, hb⟩

theorem lines_right (s : ByteArray) (V F : Int) (c : List Ins) (w : World) (hs : s.size ≤ 4000) (ht : Tab w) (hm : Cap w) (hE : ErrS w) (h : readAll s.data.toList = .ok (V, F, c)) :
    Calls Tryd.prog 43 #[.string s] w fun e w' => ∃ v, e = .returned (.tuple #[.agg #[.int .i64 V, .int .i64 F, v], .int .i64 0]) ∧ w'.ownsRow w.heap.size 71 6 v c.length (flat c) ∧ Below w.heap.size w w' := by
  have hg := glue_cut 10 s.data.toList
  have hfree := cutAll_free 10 s.data.toList
  have hcl := cutAll_len 10 s.data.toList
  rw [size_len] at hcl
  unfold readAll at h
  split at h
  · rename_i x y r hc
    rw [hc] at hg hfree hcl
    simp only [List.length_cons] at hcl
    have hall : (glue 10 (x :: y :: r)).length ≤ 4000 := by rw [hg, size_len]; exact hs
    split at h
    · cases h
    · rename_i V' F' hh
      split at h
      · cases h
      · rename_i c' hcc
        cases h
        obtain ⟨h1, h2, h3⟩ := code_ok hcc
        have hxl : (lnB (x :: y :: r) 0).size ≤ 4000 := by
          rw [size_of _ _ (lnB_list _ _)]
          exact Nat.le_trans (glue_mem 10 _ _ (by simp)) hall
        have hll : ∀ k, (lnB (y :: r) k).size ≤ 4000 := by
          intro k
          rw [size_of _ _ (lnB_list _ _)]
          by_cases hk : k < (y :: r).length
          · rw [getD_get hk]
            exact Nat.le_trans (glue_mem 10 _ _ (List.mem_cons_of_mem _ (List.getElem_mem hk))) hall
          · rw [List.getD, List.getElem?_eq_none (by omega)]; simp
        have htl : ∀ k, (txB (y :: r) k).size ≤ 4000 := by
          intro k
          rw [size_of _ _ (txB_list _ _)]
          refine Nat.le_trans (glue_drop 10 _ _) (Nat.le_trans ?_ hall)
          rw [glue_two]; simp; omega
        have hfy : ∀ z ∈ y :: r, (10 : UInt8) ∉ z := fun z hz => hfree z (List.mem_cons_of_mem _ hz)
        have hmain := parseLines_good c.length (by simp only [List.length_cons] at h1; omega) s (lnB (x :: y :: r) 0) V F (txB (y :: r)) (lnB (y :: r)) (fun k => c.getD k zeroI) w ht hm hE (by omega) (fun k => by have := htl k; omega)
          (by
            have := cut_hit 10 x (glue 10 (y :: r)) (hfree x (by simp))
            rw [← glue_two, hg] at this
            rw [this, lnB_list, txB_list]
            rfl)
          (hH_of hxl (by rw [lnB_list]; exact hh))
          (fun k hk => tx_cut (by omega) hfy)
          (fun k hk => tx_ne (by omega))
          (by
            apply ByteArray.ext
            apply Array.toList_inj.1
            rw [tx_end (by omega)]
            exact h2)
          (fun k hk => hI_of (hll k) (by rw [lnB_list, h3 k hk]; simp [List.getD, List.getElem?_eq_getElem hk]))
        have hmap : (List.range c.length).map (fun k => c.getD k zeroI) = c := by
          apply List.ext_getElem
          · simp
          · intro k hk1 hk2
            simp [List.getD, List.getElem?_eq_getElem hk2]
        rw [hmap] at hmain
        exact hmain
  · cases h

theorem lines_wrong (s : ByteArray) (k : Nat) (w : World) (hs : s.size ≤ 4000) (ht : Tab w) (hm : Cap w) (hE : ErrS w) (h : readAll s.data.toList = .error k) :
    Calls Tryd.prog 43 #[.string s] w fun e w' => ∃ V F v, e = .returned (.tuple #[.agg #[.int .i64 V, .int .i64 F, v], .int .i64 k]) ∧ k ≠ 0 ∧ (∃ a l c, v = .slice a l c) ∧ Below w.heap.size w w' := by
  have hg := glue_cut 10 s.data.toList
  have hfree := cutAll_free 10 s.data.toList
  have hcl := cutAll_len 10 s.data.toList
  rw [size_len] at hcl
  obtain ⟨x, r, hc⟩ := cutAll_form 10 s.data.toList
  rw [hc] at hg hfree hcl
  have hall : (glue 10 (x :: r)).length ≤ 4000 := by rw [hg, size_len]; exact hs
  have hxl : (lnB (x :: r) 0).size ≤ 4000 := by
    rw [size_of _ _ (lnB_list _ _)]
    exact Nat.le_trans (glue_mem 10 _ _ (by simp)) hall
  unfold readAll at h
  rw [hc] at h
  cases r with
  | nil =>
    cases h
    have hcut := tx_last (ls := [x]) (k := 0) rfl hfree
    rw [txB_list, List.drop_zero, hg] at hcut
    refine (parseLines_first s (lnB [x] 0) ⟨#[]⟩ false w ht hm hE hs hxl hcut rfl).mono ?_
    rintro e w' ⟨V, F, v, rfl, hv, hb⟩
    exact ⟨V, F, v, rfl, by omega, hv, hb⟩
  | cons y r =>
    simp only [List.length_cons] at hcl
    have hcut := tx_cut (ls := x :: y :: r) (k := 0) (by simp) hfree
    rw [txB_list, List.drop_zero, hg] at hcut
    simp only at h
    cases hh : headOf x with
    | none =>
      rw [hh] at h
      cases h
      refine (parseLines_first s (lnB (x :: y :: r) 0) (txB (x :: y :: r) 1) true w ht hm hE hs hxl hcut (by rw [lnB_list]; show (true && (headOf x).isSome) = false; rw [hh]; rfl)).mono ?_
      rintro e w' ⟨V, F, v, rfl, hv, hb⟩
      exact ⟨V, F, v, rfl, by omega, hv, hb⟩
    | some vf =>
      obtain ⟨V, F⟩ := vf
      rw [hh] at h
      simp only at h
      cases hcc : codeOf 2 (y :: r) with
      | ok c => rw [hcc] at h; cases h
      | error e =>
        rw [hcc] at h
        cases h
        obtain ⟨n, h1, h2, h3, h4⟩ := code_err (by simp) hcc
        subst h1
        have hll : ∀ k, (lnB (y :: r) k).size ≤ 4000 := by
          intro k
          rw [size_of _ _ (lnB_list _ _)]
          by_cases hk : k < (y :: r).length
          · rw [getD_get hk]
            exact Nat.le_trans (glue_mem 10 _ _ (List.mem_cons_of_mem _ (List.getElem_mem hk))) hall
          · rw [List.getD, List.getElem?_eq_none (by omega)]; simp
        have htl : ∀ k, (txB (y :: r) k).size ≤ 4000 := by
          intro k
          rw [size_of _ _ (txB_list _ _)]
          refine Nat.le_trans (glue_drop 10 _ _) (Nat.le_trans ?_ hall)
          rw [glue_two]; simp; omega
        have hfy : ∀ z ∈ y :: r, (10 : UInt8) ∉ z := fun z hz => hfree z (List.mem_cons_of_mem _ hz)
        have hend : txB (y :: r) n ≠ ⟨#[]⟩ ∧ ∃ (Y : ByteArray) (en : Bool), Lib.cut (txB (y :: r) n).data.toList [10] = ((lnB (y :: r) n).data.toList, Y.data.toList, en) ∧ (en && (insOf (lnB (y :: r) n).data.toList).isSome) = false := by
          rcases h4 with ⟨h5, h6⟩ | ⟨h5, h6⟩
          · refine ⟨fun e => h6 ?_, _, _, tx_last h5 hfy, rfl⟩
            rw [← tx_end h5, e]
          · refine ⟨tx_ne h5, _, _, tx_cut h5 hfy, ?_⟩
            rw [lnB_list, h6]; rfl
        obtain ⟨he1, Y, en, he2, he3⟩ := hend
        refine (parseLines_bad n (by simp only [List.length_cons] at h2; omega) s (lnB (x :: y :: r) 0) V F (txB (y :: r)) (lnB (y :: r)) (fun k => (insOf ((y :: r).getD k [])).getD zeroI) w ht hm hE (by omega) (fun k => by have := htl k; omega)
          (by rw [hcut]; rfl)
          (hH_of hxl (by rw [lnB_list]; exact hh))
          (fun k hk => tx_cut (by omega) hfy)
          (fun k hk => tx_ne (by omega))
          he1 (lnB (y :: r) n) Y en (hll n) he2 he3
          (fun k hk => hI_of (hll k) (by obtain ⟨i, hi⟩ := h3 k hk; rw [lnB_list, hi]; rfl))).mono ?_
        rintro e w' ⟨V', F', v, rfl, hv, hb⟩
        refine ⟨V', F', v, ?_, by omega, hv, hb⟩
        rw [show ((2 + n : Nat) : Int) = (n : Int) + 2 by omega]

set_option maxHeartbeats 2000000 in
set_option maxRecDepth 20000 in
/-- Parse, whatever it is handed. -/
theorem parse_any (s : ByteArray) (w : World) (ht : Tab w) (hm : Cap w) (hE : ErrS w) :
    Calls Tryd.prog 16 #[.string s] w fun e w' => ∃ v, e = .returned (.tuple #[.agg #[.int .i64 (parsed s).1.1, .int .i64 (parsed s).1.2.1, v], .int .i64 (parsed s).2.1, .int .i64 (parsed s).2.2]) ∧ w'.ownsRow w.heap.size 71 6 v (parsed s).1.2.2.length (flat (parsed s).1.2.2) ∧ Below w.heap.size w w' := by
  have hb0 : Below w.heap.size w (w.alloc (.cells #[.int .i64 0, .int .i64 0, .slice none 0 0] 24)) := by go_grown
  have Z0 := ZAt.new w
  by_cases hs : 4000 < s.size
  · have hp : parsed s = ((0, 0, []), 0, 2) := by unfold parsed; rw [if_pos hs]
    rw [hp]
    have n0 : (4000 : Int) < (s.size : Int) := by omega
    clear hp Z0 hb0
    go_enter Tryd.func16, Tryd.ntmps16
    go_wp2
    refine bodyPost_ret (v := .tuple #[.agg #[.int .i64 0, .int .i64 0, .slice none 0 0], .int .i64 0, .int .i64 2]) (by simp [results, Tryd.results16, go_sem]) rfl ⟨_, rfl, World.ownsRow_nil _ _ _ _, ?_⟩
    go_grown
  · have hs' : s.size ≤ 4000 := by omega
    have n0 : ¬ (4000 : Int) < (s.size : Int) := by omega
    cases hr : readAll s.data.toList with
    | error k =>
      have hp : parsed s = ((0, 0, []), (k : Int), 1) := by unfold parsed; rw [if_neg hs, hr]
      rw [hp]
      have hL := lines_wrong s k _ hs' (ht.below hb0) (hm.below hb0) (hE.below hb0) hr
      clear hp hr
      go_enter Tryd.func16, Tryd.ntmps16
      go_wp2_with (go_at_call 43; fail)
      refine hL.mono ?_
      rintro e w1 ⟨V, F, v, rfl, hk0, ⟨a, l, c, rfl⟩, hb1⟩
      have HB1 : Below w.heap.size w w1 := hb0.trans (hb1.mono (by simp))
      obtain ⟨e0, e1, e2, ef, ez⟩ := Z0.call hb1
      have hk1 : ((k : Int) != 0) = true := by simp; omega
      clear hL hk0 Z0 hb0 hb1
      go_wp2
      refine bodyPost_ret (v := .tuple #[.agg #[.int .i64 0, .int .i64 0, .slice none 0 0], .int .i64 (k : Int), .int .i64 1]) (by simp [results, Tryd.results16, go_sem, e0, e1, e2, ez, Nat.ne_of_lt ez]) rfl ⟨_, rfl, World.ownsRow_nil _ _ _ _, ?_⟩
      first | exact (((HB1.setCell (Nat.le_refl _) _).setCell (Nat.le_refl _) _).setCell (Nat.le_refl _) _) | exact (((HB1.setCell (Nat.le_refl _) _).setCell (Nat.le_refl _) _).setCell (Nat.le_refl _) _).alloc (by simp; omega) _
    | ok p =>
      obtain ⟨V, F, c⟩ := p
      by_cases h0 : ckProg V F c = 0
      · have hp : parsed s = ((V, F, c), 0, 0) := by unfold parsed; rw [if_neg hs, hr]; simp only; rw [if_pos h0]
        rw [hp]
        exact parse_ok V F c s w hs' h0 (fun w' hb => lines_right s V F c w' hs' (ht.below hb) (hm.below hb) (hE.below hb) hr)
      · have hp : parsed s = ((0, 0, []), 0, ckProg V F c) := by unfold parsed; rw [if_neg hs, hr]; simp only; rw [if_neg h0]
        rw [hp]
        have hL := lines_right s V F c _ hs' (ht.below hb0) (hm.below hb0) (hE.below hb0) hr
        clear hp hr
        go_enter Tryd.func16, Tryd.ntmps16
        go_wp2_with (go_at_call 43; fail)
        refine hL.mono ?_
        rintro e w1 ⟨v, rfl, hown, hb1⟩
        obtain ⟨sl, cap, rfl, hc⟩ := codeAt_own hown
        have HB1 : Below w.heap.size w w1 := hb0.trans (hb1.mono (by simp))
        have Z1 := Z0.call hb1
        have hb2 : Below w1.heap.size w1 (w1.alloc (.cells #[.int .i64 V, .int .i64 F, .slice sl c.length cap] 24)) := by go_grown
        have hC2 := codeCheck_any V F sl cap c _ (hc.below hb2 (Nat.le_refl _))
        clear hL Z0 hb0 hb1 hown hc
        go_wp2_with (go_at_call 14; fail)
        refine hC2.mono ?_
        rintro e w2 ⟨rfl, hb3⟩
        have HB2 : Below w.heap.size w w2 := (HB1.trans (hb2.mono HB1.size)).trans (hb3.mono (by simp; have := HB1.size; omega))
        obtain ⟨e0, e1, e2, ef, ez⟩ := (Z1.call hb2).call hb3
        have hk1 : (ckProg V F c != 0) = true := by simpa using h0
        clear hC2 Z1 hb2 hb3 HB1 h0
        go_wp2
        refine bodyPost_ret (v := .tuple #[.agg #[.int .i64 0, .int .i64 0, .slice none 0 0], .int .i64 0, .int .i64 (ckProg V F c)]) (by simp [results, Tryd.results16, go_sem, e0, e1, e2, ez, Nat.ne_of_lt ez]) rfl ⟨_, rfl, World.ownsRow_nil _ _ _ _, ?_⟩
        first | exact (((HB2.setCell (Nat.le_refl _) _).setCell (Nat.le_refl _) _).setCell (Nat.le_refl _) _) | exact (((HB2.setCell (Nat.le_refl _) _).setCell (Nat.le_refl _) _).setCell (Nat.le_refl _) _).alloc (by simp; omega) _
end Go.Proofs.YtmapdpcfanecdaaDoor
