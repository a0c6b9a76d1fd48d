/- Walks over package code: a first line, whatever it is. -/
import Derived.Test.YtmapdpcfanecdaaDoorKlawpbp44
namespace Go.Proofs.YtmapdpcfanecdaaDoor
set_option linter.unusedVariables false
set_option linter.unusedSimpArgs false
open Go.RowKit

theorem headOf_none {l : List UInt8} {x : ByteArray} {ns : List ByteArray} (h : ((x :: ns).map fun b : ByteArray => b.data.toList) = cutAll 32 l) (hn : ns.length ≠ 3) : headOf l = none := by
  unfold headOf
  rw [← h]
  match ns, hn with
  | [], _ => rfl
  | [_], _ => rfl
  | [_, _], _ => rfl
  | [_, _, _], h => exact absurd rfl h
  | _ :: _ :: _ :: _ :: _, _ => rfl
theorem headOf_four {l : List UInt8} {x a b c : ByteArray} (h : (([x, a, b, c]).map fun b : ByteArray => b.data.toList) = cutAll 32 l) : headOf l = if x.data.toList = varsW ∧ b.data.toList = fieldsW then (match numOf a.data.toList with
    | none => none
    | some v => match numOf c.data.toList with
      | none => none
      | some f => some (v, f)) else none := by
  unfold headOf
  rw [← h]
  rfl
theorem bytes_eq {a : ByteArray} {l : List UInt8} (h : a.data.toList = l) : a = ⟨l.toArray⟩ := by
  apply ByteArray.ext
  apply Array.toList_inj.1
  rw [h]

/-- A variable of type Program lies as it was made. -/
def ZAt (w : World) (b : Nat) : Prop := w.cell? ⟨b, 0, none⟩ = some (.int .i64 0) ∧ w.cell? ⟨b, 1, none⟩ = some (.int .i64 0) ∧ w.cell? ⟨b, 2, none⟩ = some (.slice none 0 0) ∧ (∀ j, w.frozen? ⟨b, j, none⟩ = false) ∧ b < w.heap.size
theorem ZAt.new (w : World) : ZAt (w.alloc (.cells #[.int .i64 0, .int .i64 0, .slice none 0 0] 24)) w.heap.size := by
  refine ⟨?_, ?_, ?_, fun j => ?_, ?_⟩ <;> simp [go_sem]
theorem ZAt.call {w w' : World} {b : Nat} (h : ZAt w b) (hb : Below w.heap.size w w') : ZAt w' b := by
  obtain ⟨h0, h1, h2, h3, hz⟩ := h
  exact ⟨by rw [hb.cell hz]; exact h0, by rw [hb.cell hz]; exact h1, by rw [hb.cell hz]; exact h2, fun j => by rw [hb.frozen hz]; exact h3 j, Nat.lt_of_lt_of_le hz hb.size⟩

set_option maxHeartbeats 2000000 in
set_option maxRecDepth 20000 in
theorem parseHead_any (l : ByteArray) (w : World) (hl : l.size ≤ 4000) (ht : Tab w) (hm : Cap w) (hE : ErrS w) :
    Calls Tryd.prog 69 #[.string l] w fun e w' => ∃ V F, e = .returned (.tuple #[.agg #[.int .i64 V, .int .i64 F, .slice none 0 0], .bool (headOf l.data.toList).isSome]) ∧ (∀ V' F', headOf l.data.toList = some (V', F') → V = V' ∧ F = F') ∧ Below w.heap.size w w' := by
  have hb1 : Below w.heap.size w (w.alloc (.cells #[.int .i64 0, .int .i64 0, .slice none 0 0] 24)) := by go_grown
  have Z1 := ZAt.new w
  obtain ⟨x, ns, hdat, hnl, hsp⟩ := split_row l (w.alloc (.cells #[.int .i64 0, .int .i64 0, .slice none 0 0] 24)) (hm.below hb1) hl
  simp only [World.size_alloc] at hsp
  by_cases h3 : ns.length = 3
  · match ns, h3 with
    | [a, b, c], _ =>
      have hh := headOf_four hdat
      generalize headOf l.data.toList = ho at hh ⊢
      have Hh := hideN hh
      clear hh hdat hl hnl
      simp only [List.length_cons, List.length_nil, Nat.zero_add, Nat.reduceAdd] at hsp
      go_enter Tryd.func69, Tryd.ntmps69
      go_wp2_with (go_at_call 91; fail)
      refine hsp.mono ?_
      rintro e w0 ⟨rfl, hcells, hz0, hb0⟩
      clear hsp
      have Z0 := Z1.call (by simpa using hb0)
      have HB : Below w.heap.size w w0 := hb1.trans (hb0.mono (by simp))
      have c0 : w0.cell? ⟨w.heap.size + 1, 0, none⟩ = some (.string x) := hcells 0 (by simp)
      have c1 : w0.cell? ⟨w.heap.size + 1, 1, none⟩ = some (.string a) := hcells 1 (by simp)
      have c2 : w0.cell? ⟨w.heap.size + 1, 2, none⟩ = some (.string b) := hcells 2 (by simp)
      have c3 : w0.cell? ⟨w.heap.size + 1, 3, none⟩ = some (.string c) := hcells 3 (by simp)
      clear hcells hb1 hb0 Z1
      by_cases hx : x.data.toList = varsW
      · by_cases hbf : b.data.toList = fieldsW
        · have ex := bytes_eq hx
          have eb := bytes_eq hbf
          simp only [varsW] at ex
          simp only [fieldsW] at eb
          rw [if_pos ⟨hx, hbf⟩] at Hh
          subst ex eb
          clear hx hbf
          go_wp2_with (go_at_call 92; fail)
          refine (parseNumber_any a w0 (ht.below HB) (hE.below HB)).mono ?_
          rintro e w3 ⟨v, rfl, hv, hb3⟩
          have Z3 := Z0.call hb3
          have c4 : w3.cell? ⟨w.heap.size + 1, 3, none⟩ = some (.string c) := by rw [hb3.cell hz0]; exact c3
          have HB3 : Below w.heap.size w w3 := HB.trans (hb3.mono HB.size)
          clear Z0 c0 c1 c2 c3
          have hz3 : w.heap.size + 1 < w3.heap.size := Nat.lt_of_lt_of_le hz0 hb3.size
          clear hb3
          go_wp2_with (go_at_call 92; fail)
          refine (parseNumber_any c w3 (ht.below HB3) (hE.below HB3)).mono ?_
          rintro e w4 ⟨f, rfl, hf, hb4⟩
          obtain ⟨e0, e1, e2, ef, ez⟩ := Z3.call hb4
          have HB4 : Below w.heap.size w w4 := HB3.trans (hb4.mono HB3.size)
          clear Z3 c4 hb4
          have hres : ho.isSome = ((numOf a.data.toList).isSome && (numOf c.data.toList).isSome) ∧ ∀ V' F', ho = some (V', F') → v = V' ∧ f = F' := by
            rw [Hh.out]
            cases e1 : numOf a.data.toList with
            | none => exact ⟨rfl, fun _ _ h => by cases h⟩
            | some v' =>
              cases e2 : numOf c.data.toList with
              | none => exact ⟨rfl, fun _ _ h => by cases h⟩
              | some f' => exact ⟨rfl, fun _ _ h => by cases h; exact ⟨hv _ e1, hf _ e2⟩⟩
          have hr2 := hideN hres.2
          have hr1 := hideN hres.1
          clear hres hv hf Hh
          generalize (numOf a.data.toList).isSome = q1 at *
          generalize (numOf c.data.toList).isSome = q2 at *
          cases q1 with
          | true =>
            go_wp2
            refine bodyPost_ret (v := .tuple #[.agg #[.int .i64 v, .int .i64 f, .slice none 0 0], .bool q2]) (by simp [results, Tryd.results69, go_sem, e0, e1, e2]) rfl ⟨v, f, by rw [hr1.out]; simp, hr2.out, ?_⟩
            exact ((HB4.setCell (Nat.le_refl _) _).setCell (Nat.le_refl _) _).setCell (Nat.le_refl _) _
          | false =>
            go_wp2
            refine bodyPost_ret (v := .tuple #[.agg #[.int .i64 v, .int .i64 f, .slice none 0 0], .bool false]) (by simp [results, Tryd.results69, go_sem, e0, e1, e2]) rfl ⟨v, f, by rw [hr1.out]; simp, hr2.out, ?_⟩
            exact ((HB4.setCell (Nat.le_refl _) _).setCell (Nat.le_refl _) _).setCell (Nat.le_refl _) _
        · obtain rfl : ho = none := Hh.out.trans (if_neg (fun h => hbf h.2))
          have ex := bytes_eq hx
          simp only [varsW] at ex
          have hne : (b.toList == [102, 105, 101, 108, 100, 115]) = false := by
            rw [beq_eq_false_iff_ne, ByteArray.toList_eq]; exact hbf
          subst ex
          clear Hh hx hbf
          obtain ⟨e0, e1, e2, ef, ez⟩ := Z0
          go_wp2
          refine bodyPost_ret (v := .tuple #[.agg #[.int .i64 0, .int .i64 0, .slice none 0 0], .bool false]) (by simp [results, Tryd.results69, go_sem, e0, e1, e2]) rfl ⟨0, 0, rfl, fun _ _ h => (by cases h), ?_⟩
          exact ((HB.setCell (Nat.le_refl _) _).setCell (Nat.le_refl _) _).setCell (Nat.le_refl _) _
      · obtain rfl : ho = none := Hh.out.trans (if_neg (fun h => hx h.1))
        have hne : (x.toList == [118, 97, 114, 115]) = false := by
          rw [beq_eq_false_iff_ne, ByteArray.toList_eq]; exact hx
        clear Hh hx
        obtain ⟨e0, e1, e2, ef, ez⟩ := Z0
        go_wp2
        refine bodyPost_ret (v := .tuple #[.agg #[.int .i64 0, .int .i64 0, .slice none 0 0], .bool false]) (by simp [results, Tryd.results69, go_sem, e0, e1, e2]) rfl ⟨0, 0, rfl, fun _ _ h => (by cases h), ?_⟩
        exact ((HB.setCell (Nat.le_refl _) _).setCell (Nat.le_refl _) _).setCell (Nat.le_refl _) _
  · have hh := headOf_none hdat h3
    rw [hh]
    have hn4 : ns.length + 1 ≠ 4 := by omega
    clear hdat hl hh h3
    generalize ns.length + 1 = n at *
    have hn5 : ((n : Int) != 4) = true := by simp; omega
    go_enter Tryd.func69, Tryd.ntmps69
    go_wp2_with (go_at_call 91; fail)
    refine hsp.mono ?_
    rintro e w0 ⟨rfl, -, hz0, hb0⟩
    clear hsp
    obtain ⟨e0, e1, e2, ef, ez⟩ := Z1.call (by simpa using hb0)
    have HB : Below w.heap.size w w0 := hb1.trans (hb0.mono (by simp))
    clear hb1 hb0 Z1
    go_wp2
    refine bodyPost_ret (v := .tuple #[.agg #[.int .i64 0, .int .i64 0, .slice none 0 0], .bool false]) (by simp [results, Tryd.results69, go_sem, e0, e1, e2]) rfl ⟨0, 0, rfl, fun _ _ h => (by cases h), ?_⟩
    exact ((HB.setCell (Nat.le_refl _) _).setCell (Nat.le_refl _) _).setCell (Nat.le_refl _) _

theorem cut_gen (s a b : ByteArray) (en : Bool) (w : World) (hm : Cap w) (hs : s.size < 4294967281) (hc : Lib.cut s.data.toList [10] = (a.data.toList, b.data.toList, en)) :
    Calls Tryd.prog 68 #[.string s, .string ⟨#[10]⟩] w fun e w' => e = .returned (.tuple #[.string a, .string b, .bool en]) ∧ Below w.heap.size w w' := by
  obtain ⟨m, hm⟩ := hm
  refine (Tryd.strings_Cut s ⟨#[10]⟩ m w hs hm).mono ?_
  rintro e w' ⟨rfl, n, rfl⟩
  have hc' : Lib.cut s.data.toList (⟨#[10]⟩ : ByteArray).data.toList = (a.data.toList, b.data.toList, en) := hc
  rw [hc']
  exact ⟨rfl, below_drewN (Below.refl _ _) n⟩

set_option maxHeartbeats 2000000 in
set_option maxRecDepth 20000 in
/-- The first line is none, or the only one. -/
theorem parseLines_first (s H T : ByteArray) (en : Bool) (w : World) (ht : Tab w) (hm : Cap w) (hE : ErrS w) (hs : s.size ≤ 4000) (hH : H.size ≤ 4000) (hcH : Lib.cut s.data.toList [10] = (H.data.toList, T.data.toList, en)) (hbad : (en && (headOf H.data.toList).isSome) = false) :
    Calls Tryd.prog 43 #[.string s] w fun e w' => ∃ V F v, e = .returned (.tuple #[.agg #[.int .i64 V, .int .i64 F, v], .int .i64 1]) ∧ (∃ a l c, v = .slice a l c) ∧ Below w.heap.size w w' := by
  have hb0 : Below w.heap.size w (w.alloc (.cells #[.int .i64 0, .int .i64 0, .slice none 0 0] 24)) := by go_grown
  have Z0 := ZAt.new w
  go_enter Tryd.func43, Tryd.ntmps43
  go_wp2_with (go_at_call 68; fail)
  refine (cut_gen s H T en _ (hm.below hb0) (by omega) hcH).mono ?_
  rintro e w1 ⟨rfl, hb1⟩
  have H1 : Below w.heap.size w w1 := hb0.trans (hb1.mono (by go_size))
  have Z1 := Z0.call hb1
  clear Z0 hb1 hcH
  go_wp2_with (go_at_call 69; fail)
  refine (parseHead_any H w1 hH (ht.below H1) (hm.below H1) (hE.below H1)).mono ?_
  rintro e w2 ⟨V, F, rfl, -, hb2⟩
  have H2 : Below w.heap.size w w2 := H1.trans (hb2.mono H1.size)
  obtain ⟨r0, r1, r2, rf, rz⟩ := Z1.call hb2
  clear Z1 hb2
  generalize (headOf H.data.toList).isSome = q at *
  cases en with
  | false =>
    go_wp2
    refine bodyPost_ret (v := .tuple #[.agg #[.int .i64 V, .int .i64 F, .slice none 0 0], .int .i64 1]) (by simp [results, Tryd.results43, go_sem, r0, r1, r2, rz, Nat.ne_of_lt rz]) rfl ⟨V, F, _, rfl, ⟨_, _, _, rfl⟩, ?_⟩
    first | exact (((H2.setCell (Nat.le_refl _) _).setCell (Nat.le_refl _) _).setCell (Nat.le_refl _) _).alloc (by simp; omega) _ | exact (((H2.alloc H2.size _).setCell (Nat.le_refl _) _).setCell (Nat.le_refl _) _).setCell (Nat.le_refl _) _
  | true =>
    obtain rfl : q = false := by simpa using hbad
    go_wp2
    refine bodyPost_ret (v := .tuple #[.agg #[.int .i64 V, .int .i64 F, .slice none 0 0], .int .i64 1]) (by simp [results, Tryd.results43, go_sem, r0, r1, r2, rz, Nat.ne_of_lt rz]) rfl ⟨V, F, _, rfl, ⟨_, _, _, rfl⟩, ?_⟩
    first | exact (((H2.setCell (Nat.le_refl _) _).setCell (Nat.le_refl _) _).setCell (Nat.le_refl _) _).alloc (by simp; omega) _ | exact (((H2.alloc H2.size _).setCell (Nat.le_refl _) _).setCell (Nat.le_refl _) _).setCell (Nat.le_refl _) _
end Go.Proofs.YtmapdpcfanecdaaDoor
