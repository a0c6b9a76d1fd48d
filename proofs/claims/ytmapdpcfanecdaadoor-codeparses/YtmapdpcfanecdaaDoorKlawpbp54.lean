/- Walks over the document's parser: ParseOf. -/
import Derived.Test.YtmapdpcfanecdaaDoorKlawpbp53
import Derived.Test.YtmapdpcfanecdaaDoorKlawpbp48
namespace Go.Proofs.YtmapdpcfanecdaaDoor
set_option linter.unusedVariables false
set_option linter.unusedSimpArgs false
open Go.RowKit

theorem ZAt.block {w w' : World} {b : Nat} (h : ZAt w b) (hb : w'.heap[b]? = w.heap[b]?) : ZAt w' b := by
  have hc : ∀ j, w'.cell? ⟨b, j, none⟩ = w.cell? ⟨b, j, none⟩ := fun j => World.cell?_of_block (a := ⟨b, j, none⟩) hb
  have hf : ∀ j, w'.frozen? ⟨b, j, none⟩ = w.frozen? ⟨b, j, none⟩ := fun j => World.frozen?_of_block (a := ⟨b, j, none⟩) hb
  obtain ⟨h0, h1, h2, h3, hz⟩ := h
  refine ⟨(hc _).trans h0, (hc _).trans h1, (hc _).trans h2, fun j => (hf j).trans (h3 j), ?_⟩
  rw [Array.getElem?_eq_getElem hz] at hb
  exact (Array.getElem?_eq_some_iff.1 hb).1

/-- An answer of Parse: a program in a row of its own, a line, an errno. -/
def ParAns (q : (Int × Int × List Ins) × Int × Int) (B : Nat) (e : Ending) (w' : World) : Prop :=
  ∃ v, e = .returned (.tuple #[.agg #[.int .i64 q.1.1, .int .i64 q.1.2.1, v], .int .i64 q.2.1, .int .i64 q.2.2]) ∧ w'.ownsRow B 71 6 v q.1.2.2.length (flat q.1.2.2)

/-- What is read of a text, k lines of which are read. -/
def tailRead (ls : List (List UInt8)) (k : Nat) (V F : Int) (c : List Ins) : Except Nat (Int × Int × List Ins) := match codeOf (k + 1) (ls.drop k) with
  | .error e => .error e
  | .ok t => .ok (V, F, c ++ t)
theorem tail_last {ls : List (List UInt8)} {k : Nat} {V F : Int} {c : List Ins} (h : k + 1 = ls.length) : tailRead ls k V F c = if ls.getD k [] = [] then .ok (V, F, c) else .error (k + 1) := by
  unfold tailRead
  rw [List.drop_eq_getElem_cons (by omega : k < ls.length), List.drop_eq_nil_of_le (by omega), getD_get (by omega : k < ls.length), codeOf]
  split
  · rename_i e
    split at e
    · cases e
    · rename_i hx
      cases e
      rw [if_neg hx]
  · rename_i t e
    split at e
    · rename_i hx
      cases e
      rw [if_pos hx]
      simp
    · cases e
theorem tail_next {ls : List (List UInt8)} {k : Nat} {V F : Int} {c : List Ins} (h : k + 1 < ls.length) : tailRead ls k V F c = match insOf (ls.getD k []) with
    | none => .error (k + 1)
    | some i => tailRead ls (k + 1) V F (c ++ [i]) := by
  unfold tailRead
  rw [List.drop_eq_getElem_cons (by omega : k < ls.length), List.drop_eq_getElem_cons h, getD_get (by omega : k < ls.length), codeOf]
  cases insOf ls[k] with
  | none => rfl
  | some i =>
    simp only
    cases codeOf (k + 1 + 1) (ls[k + 1] :: List.drop (k + 1 + 1) ls) with
    | error e => rfl
    | ok t => simp
theorem read_one {s x : List UInt8} (h : cutAll 10 s = [x]) : readAll s = .error 1 := by unfold readAll; rw [h]
theorem read_more {s : List UInt8} {ls : List (List UInt8)} (h : cutAll 10 s = ls) (hl : 1 < ls.length) : readAll s = match headOf (ls.getD 0 []) with
    | none => .error 1
    | some (V, F) => tailRead ls 1 V F [] := by
  unfold readAll tailRead
  rw [h]
  match ls, hl with
  | x :: y :: r, _ =>
    simp only [List.getD, List.getElem?_cons_zero, Option.getD_some, List.drop_succ_cons, List.drop_zero, List.nil_append]
    cases headOf x with
    | none => rfl
    | some vf => rfl

set_option maxHeartbeats 8000000 in
set_option maxRecDepth 20000 in
theorem parseOf_ans (s : ByteArray) (w : World) :
    Calls Tryd.prog 17 #[.string s] w fun e w' => ParAns (parsed s) w.heap.size e w' ∧ Below w.heap.size w w' := by
  obtain ⟨ti, hi, hz0, hz1, hz2⟩ := info_parts info_ins
  have hb0 : Below w.heap.size w (w.alloc (.cells #[.int .i64 0, .int .i64 0, .slice none 0 0] 24)) := by go_grown
  have Z0 := ZAt.new w
  by_cases hs : 4000 < s.size
  · have hp : parsed s = ((0, 0, []), 0, 2) := by unfold parsed; rw [if_pos hs]
    have HP := hideU hp
    have n0 : (4000 : Int) < (s.size : Int) := by omega
    clear hp Z0 hb0
    generalize parsed s = ps at *
    go_enter Tryd.func17, Tryd.ntmps17
    go_wp2
    refine bodyPost_ret (v := .tuple #[.agg #[.int .i64 0, .int .i64 0, .slice none 0 0], .int .i64 0, .int .i64 2]) (by simp [results, Tryd.results17, go_sem]) rfl ⟨?_, by go_grown⟩
    rw [HP.out]
    exact ⟨_, rfl, World.ownsRow_nil _ _ _ _⟩
  · have hs' : s.size ≤ 4000 := by omega
    have n0 : ¬ (4000 : Int) < (s.size : Int) := by omega
    have HPE : Hid (∀ k : Nat, readAll s.data.toList = .error k → parsed s = ((0, 0, []), (k : Int), 1)) := by
      intro k hr
      unfold parsed; rw [if_neg hs, hr]
    have HPO : Hid (∀ V F c, readAll s.data.toList = .ok (V, F, c) → parsed s = if ckProg V F c = 0 then ((V, F, c), 0, 0) else ((0, 0, []), 0, ckProg V F c)) := by
      intro V F c hr
      unfold parsed; rw [if_neg hs, hr]
    have hC : Calls Tryd.prog 44 #[.string s, .int .u8 10] (w.alloc (.cells #[.int .i64 0, .int .i64 0, .slice none 0 0] 24)) _ := cutR_any s 10 _ hs'
    have hcl := cutAll_len 10 s.data.toList
    rw [size_lenU] at hcl
    generalize parsed s = ps at *
    go_enter Tryd.func17, Tryd.ntmps17
    go_wp2_with (go_at_call 44; fail)
    refine hC.mono ?_
    rintro e w1 ⟨vl, xs, rfl, hdat, hxl, hown, hbc⟩
    clear hC
    have Z1 := Z0.call hbc
    have H1 : Below w.heap.size w w1 := hb0.trans (hbc.mono (by simp))
    have hlen0 : 1 ≤ xs.length := by
      obtain ⟨y, r, hy⟩ := cutAll_form 10 s.data.toList
      have := congrArg List.length hdat
      rw [hy] at this
      simp at this
      omega
    obtain ⟨g, cw, rfl, hgB, hgz⟩ := hown.form hlen0
    have hcs : ∀ j (hj : j < xs.length), w1.cell? ⟨g, j, none⟩ = some (.string xs[j]) := fun j hj => by
      rw [hown.cellAt _ (by omega), List.getElem?_map, List.getElem?_eq_getElem hj]
      rfl
    have hyl : ∀ j (hj : j < xs.length), (xs[j]).size ≤ 4000 := by
      intro j hj
      have hm : (xs[j]).data.toList ∈ cutAll 10 s.data.toList := by
        rw [← hdat]
        exact List.mem_map_of_mem (List.getElem_mem hj)
      have := glue_mem 10 _ _ hm
      rw [glue_cut, size_lenU, size_lenU] at this
      omega
    have hLD : ∃ LD, LD = cutAll 10 s.data.toList := ⟨_, rfl⟩
    obtain ⟨LD, hLD⟩ := hLD
    have HRM := hideU (fun h => read_more hLD.symm h)
    have HRO := hideU (fun x h => read_one (x := x) (hLD.symm.trans h))
    have hLn : LD.length = xs.length := by rw [hLD, ← hdat, List.length_map]
    have hLg : ∀ j (hj : j < xs.length), LD.getD j [] = (xs[j]).data.toList := by
      intro j hj
      rw [hLD, ← hdat, List.getD, List.getElem?_map, List.getElem?_eq_getElem hj]
      rfl
    generalize readAll s.data.toList = rd at *
    clear hLD hdat hown hbc Z0 hb0 hcl
    have hPb : Below w1.heap.size w1 (w1.alloc (.cells #[.int .i64 0, .int .i64 0, .slice none 0 0] 24)) := by go_grown
    have hP0 : PrgAt (w1.alloc (.cells #[.int .i64 0, .int .i64 0, .slice none 0 0] 24)) w1.heap.size 0 0 (.slice none 0 0) := by
      refine ⟨?_, ?_, ?_, fun j => ?_⟩ <;> simp [go_sem]
    go_wp2
    go_loopw [7] (fun i wr => ∃ (k : Nat) (V F : Int) (c : List Ins) (v : Value), k < xs.length ∧ i = .int .i64 k ∧ ((k = 0 ∧ V = 0 ∧ F = 0 ∧ c = []) ∨ (1 ≤ k ∧ c.length + 1 = k ∧ Hid (rd = tailRead LD k V F c))) ∧ PrgAt wr w1.heap.size V F v ∧ wr.ownsRow (w1.heap.size + 1) 71 6 v c.length (flat c) ∧ Below w1.heap.size w1 wr ∧ w1.heap.size < wr.heap.size) (fun i _ => xs.length - (intOf i).toNat)
    case atStart => exact ⟨0, 0, 0, [], _, by omega, rfl, .inl ⟨rfl, rfl, rfl, rfl⟩, hP0, World.ownsRow_nil _ _ _ _, hPb, by simp⟩
    case round =>
      obtain ⟨k, V, F, c, v, hk, rfl, hcase, hPr, hownC, hbr, hzr⟩ := hrel
      clear hP0 hPb
      have HR : Below w.heap.size w wr := H1.trans (hbr.mono H1.size)
      have ZR := Z1.call hbr
      have ck : wr.cell? ⟨g, k, none⟩ = some (.string xs[k]) := by rw [hbr.cell hgz]; exact hcs k hk
      have hyk := hyl k hk
      have hLk := hLg k hk
      have m0 : (0 : Int) ≤ (k : Int) := by omega
      have m1 : (k : Int) < (xs.length : Int) := by omega
      have hwP : w.heap.size < w1.heap.size := Z1.2.2.2.2
      rcases hcase with ⟨rfl, rfl, rfl, rfl⟩ | ⟨hk1, hcl, HT⟩
      · have hneP : ¬ w.heap.size = w1.heap.size := by omega
        generalize xs[0] = y at *
        have hC2 : Calls Tryd.prog 44 #[.string y, .int .u8 32] wr _ := cutR_any y 32 _ hyk
        obtain ⟨p0, p1, p2, pf⟩ := id hPr
        by_cases hlast : 1 = xs.length
        · have e1 : ((0 : Int) == (xs.length : Int) - 1) = true := by simp; omega
          have HP : Hid (ps = ((0, 0, []), 1, 1)) := by
            refine HPE.out 1 ?_
            cases LD with
            | nil => simp at hLn; omega
            | cons z r =>
              cases r with
              | nil => exact HRO.out z rfl
              | cons _ _ => simp at hLn; omega
          clear HRM HRO HPE HPO hlast
          go_wp2_with (go_at_call 44; fail)
          refine hC2.mono ?_
          rintro e w5 ⟨v2, xs2, rfl, -, -, hown2, hb5⟩
          clear hC2 hown2
          have H5 := HR.trans (hb5.mono HR.size)
          obtain ⟨e0, e1', e2, ef, ez⟩ := ZR.call hb5
          clear hb5 ZR ck p0 p1 p2 pf
          go_wp2
          refine bodyPost_ret (v := .tuple #[.agg #[.int .i64 0, .int .i64 0, .slice none 0 0], .int .i64 1, .int .i64 1]) (by simp [results, Tryd.results17, go_sem, e0, e1', e2, ez]) rfl ⟨?_, ?_⟩
          · rw [HP.out]
            exact ⟨_, rfl, World.ownsRow_nil _ _ _ _⟩
          · exact ((H5.setCell (Nat.le_refl _) _).setCell (Nat.le_refl _) _).setCell (Nat.le_refl _) _
        · have e1 : ((0 : Int) == (xs.length : Int) - 1) = false := by simp; omega
          have hrd := HRM.out (by rw [hLn]; omega)
          rw [hLk] at hrd
          have HRd := hideU hrd
          clear HRM HRO HPO hrd
          go_wp2_with (go_at_call 44; fail)
          refine hC2.mono ?_
          rintro e w5 ⟨v2, xs2, rfl, hdat2, hxl2, hown2, hb5⟩
          clear hC2
          have H5 := HR.trans (hb5.mono HR.size)
          have Z5 := ZR.call hb5
          have hP5 : PrgAt w5 w1.heap.size 0 0 v := hPr.block (hb5.block _ hzr)
          have hown5 := ownsRow_of_block hownC (fun j hj => hb5.block j (ownsRow_block_lt hownC hj).1)
          have hbr5 := hbr.trans (hb5.mono hbr.size)
          have hz5 : w1.heap.size < w5.heap.size := Nat.lt_of_lt_of_le hzr hb5.size
          clear hb5 ZR ck p0 p1 p2 pf hownC hPr
          have hl2 : 1 ≤ xs2.length := by
            obtain ⟨z, r, hz⟩ := cutAll_form 32 y.data.toList
            have := congrArg List.length hdat2
            rw [hz] at this
            simp at this
            omega
          obtain ⟨g2, cw2, rfl, hgB2, hgz2⟩ := hown2.form hl2
          by_cases h4 : xs2.length = 4
          · match xs2, h4 with
            | [x, a, b, d], _ =>
              have hh := headOf_four hdat2
              have Hh := hideU hh
              have q0 : w5.cell? ⟨g2, 0, none⟩ = some (.string x) := by rw [hown2.cellAt 0 (by simp)]; rfl
              have q1 : w5.cell? ⟨g2, 1, none⟩ = some (.string a) := by rw [hown2.cellAt 1 (by simp)]; rfl
              have q2 : w5.cell? ⟨g2, 2, none⟩ = some (.string b) := by rw [hown2.cellAt 2 (by simp)]; rfl
              have q3 : w5.cell? ⟨g2, 3, none⟩ = some (.string d) := by rw [hown2.cellAt 3 (by simp)]; rfl
              have hwl : ∀ z ∈ [x, a, b, d], z.size ≤ 4000 := by
                intro z hz
                have hm : z.data.toList ∈ cutAll 32 y.data.toList := by
                  rw [← hdat2]
                  exact List.mem_map_of_mem hz
                have := glue_mem 32 _ _ hm
                rw [glue_cut, size_lenU, size_lenU] at this
                omega
              have hal := hwl a (by simp)
              have hdl := hwl d (by simp)
              simp only [List.length_cons, List.length_nil, Nat.zero_add, Nat.reduceAdd]
              clear hh hdat2 hown2 hwl hxl2 hl2
              generalize headOf y.data.toList = ho at *
              by_cases hx : x.data.toList = varsW
              · by_cases hbf : b.data.toList = fieldsW
                · have ex := bytes_eq hx
                  have eb := bytes_eq hbf
                  simp only [varsW] at ex
                  simp only [fieldsW] at eb
                  rw [if_pos ⟨hx, hbf⟩] at Hh
                  subst ex eb
                  clear hx hbf
                  go_wp2_with (go_at_call 45; fail)
                  refine (undigit_ans a w5 hal).mono ?_
                  rintro e w6 ⟨⟨va, rfl, hva⟩, hb6⟩
                  have H6 := H5.trans (hb6.mono H5.size)
                  have Z6 := Z5.call hb6
                  have hP6 : PrgAt w6 w1.heap.size 0 0 v := hP5.block (hb6.block _ hz5)
                  have hown6 := ownsRow_of_block hown5 (fun j hj => hb6.block j (ownsRow_block_lt hown5 hj).1)
                  have hbr6 := hbr5.trans (hb6.mono hbr5.size)
                  have hz6 : w1.heap.size < w6.heap.size := Nat.lt_of_lt_of_le hz5 hb6.size
                  have q3' : w6.cell? ⟨g2, 3, none⟩ = some (.string d) := by rw [hb6.cell hgz2]; exact q3
                  have hg6 : g2 < w6.heap.size := Nat.lt_of_lt_of_le hgz2 hb6.size
                  clear q0 q1 q2 q3 hb6 Z5 hP5 hown5 hbr5 H5
                  go_wp2_with (go_at_call 45; fail)
                  refine (undigit_ans d w6 hdl).mono ?_
                  rintro e w7 ⟨⟨vd, rfl, hvd⟩, hb7⟩
                  have H7 := H6.trans (hb7.mono H6.size)
                  obtain ⟨e0, e1', e2, ef, ez⟩ := Z6.call hb7
                  obtain ⟨p0, p1, p2, pf⟩ : PrgAt w7 w1.heap.size 0 0 v := hP6.block (hb7.block _ hz6)
                  have hown7 := ownsRow_of_block hown6 (fun j hj => hb7.block j (ownsRow_block_lt hown6 hj).1)
                  have hbr7 := hbr6.trans (hb7.mono hbr6.size)
                  have hz7 : w1.heap.size < w7.heap.size := Nat.lt_of_lt_of_le hz6 hb7.size
                  clear q3' hb7 Z6 hP6 hown6 hbr6 H6
                  have Hb : Below w.heap.size w ((w7.setCell ⟨w1.heap.size, 0, none⟩ (.int .i64 va)).setCell ⟨w1.heap.size, 1, none⟩ (.int .i64 vd)) := (H7.setCell (by simp; omega) _).setCell (by simp; omega) _
                  cases ea : numOf a.data.toList with
                  | none =>
                    have hho : ho = none := by rw [Hh.out, ea]
                    have HP : Hid (ps = ((0, 0, []), 1, 1)) := HPE.out 1 (by rw [HRd.out, hho])
                    simp only [Option.isSome_none]
                    generalize (numOf d.data.toList).isSome = bd at *
                    clear HRd HPE hva hvd Hh
                    go_wp2
                    refine bodyPost_ret (v := .tuple #[.agg #[.int .i64 0, .int .i64 0, .slice none 0 0], .int .i64 1, .int .i64 1]) (by simp [results, Tryd.results17, go_sem, e0, e1', e2, ez, hneP]) rfl ⟨?_, ?_⟩
                    · rw [HP.out]
                      exact ⟨_, rfl, World.ownsRow_nil _ _ _ _⟩
                    · first | exact ((Hb.setCell (Nat.le_refl _) _).setCell (Nat.le_refl _) _).setCell (Nat.le_refl _) _ | exact (((((H7.setCell (Nat.le_refl _) _).setCell (Nat.le_refl _) _).setCell (Nat.le_refl _) _).setCell (by simp; omega) _).setCell (by simp; omega) _)
                  | some na =>
                    cases ed : numOf d.data.toList with
                    | none =>
                      have hho : ho = none := by rw [Hh.out, ea, ed]
                      have HP : Hid (ps = ((0, 0, []), 1, 1)) := HPE.out 1 (by rw [HRd.out, hho])
                      simp only [Option.isSome_none, Option.isSome_some]
                      clear HRd HPE hva hvd Hh
                      go_wp2
                      refine bodyPost_ret (v := .tuple #[.agg #[.int .i64 0, .int .i64 0, .slice none 0 0], .int .i64 1, .int .i64 1]) (by simp [results, Tryd.results17, go_sem, e0, e1', e2, ez, hneP]) rfl ⟨?_, ?_⟩
                      · rw [HP.out]
                        exact ⟨_, rfl, World.ownsRow_nil _ _ _ _⟩
                      · first | exact ((Hb.setCell (Nat.le_refl _) _).setCell (Nat.le_refl _) _).setCell (Nat.le_refl _) _ | exact (((((H7.setCell (Nat.le_refl _) _).setCell (Nat.le_refl _) _).setCell (Nat.le_refl _) _).setCell (by simp; omega) _).setCell (by simp; omega) _)
                    | some nd =>
                      obtain rfl := hva na ea
                      obtain rfl := hvd nd ed
                      have hho : ho = some (va, vd) := by rw [Hh.out, ea, ed]
                      have HT : Hid (rd = tailRead LD 1 va vd []) := by
                        have := HRd.out
                        rw [hho] at this
                        exact this
                      have hPn : PrgAt ((w7.setCell ⟨w1.heap.size, 0, none⟩ (.int .i64 va)).setCell ⟨w1.heap.size, 1, none⟩ (.int .i64 vd)) w1.heap.size va vd v := by
                        refine ⟨?_, ?_, ?_, fun j => ?_⟩ <;> simp [go_sem, p0, p1, p2, pf]
                      simp only [Option.isSome_some]
                      clear HRd HPE hva hvd Hh ea ed hho
                      go_wp2
                      go_roundw
                      case rel => exact ⟨1, va, vd, [], v, by omega, by go_num, .inr ⟨Nat.le_refl _, rfl, HT⟩, hPn, ownsRow_setCell_below (ownsRow_setCell_below hown7 (Nat.lt_succ_self _) _) (Nat.lt_succ_self _) _, (hbr7.setCell (Nat.le_refl _) _).setCell (Nat.le_refl _) _, by simpa using hz7⟩
                      case measure => simp [intOf]; omega
                · have hho : ho = none := Hh.out.trans (if_neg (fun h => hbf h.2))
                  have HP : Hid (ps = ((0, 0, []), 1, 1)) := HPE.out 1 (by rw [HRd.out, hho])
                  have ex := bytes_eq hx
                  simp only [varsW] at ex
                  have hne : (b.toList == [102, 105, 101, 108, 100, 115]) = false := by
                    rw [beq_eq_false_iff_ne, ByteArray.toList_eq]; exact hbf
                  subst ex
                  clear Hh hx hbf HRd HPE
                  obtain ⟨e0, e1', e2, ef, ez⟩ := Z5
                  go_wp2
                  refine bodyPost_ret (v := .tuple #[.agg #[.int .i64 0, .int .i64 0, .slice none 0 0], .int .i64 1, .int .i64 1]) (by simp [results, Tryd.results17, go_sem, e0, e1', e2, ez]) rfl ⟨?_, ?_⟩
                  · rw [HP.out]
                    exact ⟨_, rfl, World.ownsRow_nil _ _ _ _⟩
                  · exact ((H5.setCell (Nat.le_refl _) _).setCell (Nat.le_refl _) _).setCell (Nat.le_refl _) _
              · have hho : ho = none := Hh.out.trans (if_neg (fun h => hx h.1))
                have HP : Hid (ps = ((0, 0, []), 1, 1)) := HPE.out 1 (by rw [HRd.out, hho])
                have hne : (x.toList == [118, 97, 114, 115]) = false := by
                  rw [beq_eq_false_iff_ne, ByteArray.toList_eq]; exact hx
                clear Hh hx HRd HPE
                obtain ⟨e0, e1', e2, ef, ez⟩ := Z5
                go_wp2
                refine bodyPost_ret (v := .tuple #[.agg #[.int .i64 0, .int .i64 0, .slice none 0 0], .int .i64 1, .int .i64 1]) (by simp [results, Tryd.results17, go_sem, e0, e1', e2, ez]) rfl ⟨?_, ?_⟩
                · rw [HP.out]
                  exact ⟨_, rfl, World.ownsRow_nil _ _ _ _⟩
                · exact ((H5.setCell (Nat.le_refl _) _).setCell (Nat.le_refl _) _).setCell (Nat.le_refl _) _
          · have hho : headOf y.data.toList = none := by
              cases xs2 with
              | nil => simp at hl2
              | cons x ns => exact headOf_none hdat2 (by simp at h4; omega)
            have HP : Hid (ps = ((0, 0, []), 1, 1)) := HPE.out 1 (by rw [HRd.out, hho])
            have hn5 : ((xs2.length : Int) == 4) = false := by simp; omega
            clear hho HRd HPE hdat2 hown2
            obtain ⟨e0, e1', e2, ef, ez⟩ := Z5
            go_wp2
            refine bodyPost_ret (v := .tuple #[.agg #[.int .i64 0, .int .i64 0, .slice none 0 0], .int .i64 1, .int .i64 1]) (by simp [results, Tryd.results17, go_sem, e0, e1', e2, ez]) rfl ⟨?_, ?_⟩
            · rw [HP.out]
              exact ⟨_, rfl, World.ownsRow_nil _ _ _ _⟩
            · exact ((H5.setCell (Nat.le_refl _) _).setCell (Nat.le_refl _) _).setCell (Nat.le_refl _) _
      · have m2 : (0 : Int) < (k : Int) := by omega
        generalize xs[k] = y at *
        by_cases hlast : k + 1 = xs.length
        · have e1 : ((k : Int) == (xs.length : Int) - 1) = true := by simp; omega
          by_cases hy0 : y.data.toList = []
          · have hy1 : y = ⟨#[]⟩ := by
              apply ByteArray.ext
              apply Array.toList_inj.1
              exact hy0
            have hrd := HT.out
            rw [tail_last (by rw [hLn]; exact hlast), hLk, if_pos hy0] at hrd
            have hps := HPO.out V F c hrd
            subst hy1
            have hneP : ¬ w.heap.size = w1.heap.size := by omega
            obtain ⟨sl, cap, rfl, hcode⟩ := codeAt_own hownC
            obtain ⟨p0, p1, p2, pf⟩ := id hPr
            go_wp2_with (go_at_call 10; fail)
            refine (checkProgram_any V F sl cap c wr hcode).mono ?_
            rintro e w5 ⟨rfl, hb5⟩
            have H5 := HR.trans (hb5.mono HR.size)
            obtain ⟨e0, e1, e2, ef, ez⟩ := ZR.call hb5
            obtain ⟨P0, P1, P2, Pf⟩ : PrgAt w5 w1.heap.size V F (.slice sl c.length cap) := PrgAt.block ⟨p0, p1, p2, pf⟩ (hb5.block _ hzr)
            have hown5 := ownsRow_of_block hownC (fun j hj => hb5.block j (ownsRow_block_lt hownC hj).1)
            have hz5 : w1.heap.size < w5.heap.size := Nat.lt_of_lt_of_le hzr hb5.size
            clear p0 p1 p2 pf ck hcode hownC hb5 ZR
            by_cases h0 : ckProg V F c = 0
            · rw [if_pos h0] at hps
              have HP := hideU hps
              rw [h0]
              go_wp2
              refine bodyPost_ret (v := .tuple #[.agg #[.int .i64 V, .int .i64 F, .slice sl c.length cap], .int .i64 0, .int .i64 0]) (by simp [results, Tryd.results17, go_sem, e0, e1, e2]) rfl ⟨?_, ((H5.setCell (Nat.le_refl _) _).setCell (Nat.le_refl _) _).setCell (Nat.le_refl _) _⟩
              rw [HP.out]
              refine ⟨_, rfl, ?_⟩
              have hzz : w.heap.size < w1.heap.size + 1 := by omega
              exact ownsRow_lower (ownsRow_setCell_below (a := ⟨w.heap.size, 2, none⟩) (ownsRow_setCell_below (a := ⟨w.heap.size, 1, none⟩) (ownsRow_setCell_below (a := ⟨w.heap.size, 0, none⟩) hown5 hzz (.int .i64 V)) hzz (.int .i64 F)) hzz (.slice sl c.length cap)) (Nat.le_of_lt hzz)
            · rw [if_neg h0] at hps
              have HP := hideU hps
              have hk5 : (ckProg V F c != 0) = true := by simpa using h0
              go_wp2
              refine bodyPost_ret (v := .tuple #[.agg #[.int .i64 0, .int .i64 0, .slice none 0 0], .int .i64 (0), .int .i64 (ckProg V F c)]) (by simp [results, Tryd.results17, go_sem, e0, e1, e2, ez, Nat.ne_of_lt ez]) rfl ⟨?_, ?_⟩
              · rw [HP.out]
                exact ⟨_, rfl, World.ownsRow_nil _ _ _ _⟩
              · first | exact (((H5.setCell (Nat.le_refl _) _).setCell (Nat.le_refl _) _).setCell (Nat.le_refl _) _) | exact ((((H5.setCell (Nat.le_refl _) _).setCell (Nat.le_refl _) _).setCell (Nat.le_refl _) _).alloc (by simp; omega) _)
          · have hne : (y.toList == []) = false := by rw [beq_eq_false_iff_ne, ByteArray.toList_eq]; exact hy0
            have hne2 : y.toList.isEmpty = false := by rw [ByteArray.toList_eq, List.isEmpty_eq_false_iff]; exact hy0
            have hrd := HT.out
            rw [tail_last (by rw [hLn]; exact hlast), hLk, if_neg hy0] at hrd
            have HP := hideU (HPE.out _ hrd)
            have hneP : ¬ w.heap.size = w1.heap.size := by omega
            have ec : ((k + 1 : Nat) : Int) = (k : Int) + 1 := by omega
            rw [ec] at HP
            clear HT hrd hy0 HRM HRO HPE HPO
            obtain ⟨sl, cap, rfl, hcode⟩ := codeAt_own hownC
            obtain ⟨p0, p1, p2, pf⟩ := id hPr
            go_wp2_with (go_at_call 46; fail)
            refine (instrOf_ans y wr hyk).mono ?_
            rintro e w5 ⟨⟨i2, he2, hi2⟩, hb5⟩
            simp only [insV] at he2
            subst he2
            have B5 : ∀ j, j < wr.heap.size → w5.heap[j]? = wr.heap[j]? := fun j hj => hb5.block j hj
            have S5 : wr.heap.size ≤ w5.heap.size := hb5.size
            obtain ⟨P0, P1, P2, Pf⟩ : PrgAt w5 w1.heap.size V F (.slice sl c.length cap) := PrgAt.block ⟨p0, p1, p2, pf⟩ (B5 _ hzr)
            have hB5 : w1.heap.size < w5.heap.size := by omega
            have hown5 := ownsRow_of_block hownC (fun j hj => B5 j (ownsRow_block_lt hownC hj).1)
            have Z5 := ZR.call hb5
            have hbr5 := hbr.trans (hb5.mono hbr.size)
            clear p0 p1 p2 pf ck hcode hownC hb5 ZR
            have hnews : ∀ j u, (insCells i2)[j]? = some u → ((w5.alloc (.cells #[.int .i64 i2.k, .int .i64 i2.to, .int .i64 i2.a, .int .i64 i2.b, .int .i64 i2.n, .int .i64 i2.g] 71)).alloc (.cells #[.int .i64 i2.k, .int .i64 i2.to, .int .i64 i2.a, .int .i64 i2.b, .int .i64 i2.n, .int .i64 i2.g] 71)).cell? ((⟨w5.heap.size + 1, 0, none⟩ : Addr).add j) = some u := by
              have := cells_new (w5.alloc (.cells #[.int .i64 i2.k, .int .i64 i2.to, .int .i64 i2.a, .int .i64 i2.b, .int .i64 i2.n, .int .i64 i2.g] 71)) (insCells i2) 71
              intro j u hj
              have h := this j u hj
              simp only [World.size_alloc] at h
              exact h
            have hG : ∀ w6, ((w5.alloc (.cells #[.int .i64 i2.k, .int .i64 i2.to, .int .i64 i2.a, .int .i64 i2.b, .int .i64 i2.n, .int .i64 i2.g] 71)).alloc (.cells #[.int .i64 i2.k, .int .i64 i2.to, .int .i64 i2.a, .int .i64 i2.b, .int .i64 i2.n, .int .i64 i2.g] 71)).grownBy w6 (Value.slice sl c.length cap).ownBlock → ∀ j, j ≤ w1.heap.size → w6.heap[j]? = w5.heap[j]? := fun w6 hgrow j hj => by
              rw [hgrow.block _ (by simp; omega) (fun e => by have := ownsRow_low hown5 e.symm; omega), Below.heap_alloc _ _ _ (by simp; omega), Below.heap_alloc _ _ _ (by omega)]
            have hH6 : ∀ w6, ((w5.alloc (.cells #[.int .i64 i2.k, .int .i64 i2.to, .int .i64 i2.a, .int .i64 i2.b, .int .i64 i2.n, .int .i64 i2.g] 71)).alloc (.cells #[.int .i64 i2.k, .int .i64 i2.to, .int .i64 i2.a, .int .i64 i2.b, .int .i64 i2.n, .int .i64 i2.g] 71)).grownBy w6 (Value.slice sl c.length cap).ownBlock → Below w1.heap.size w1 w6 := fun w6 hgrow =>
              ((hbr5.alloc (by omega) _).alloc (by simp; omega) _).grown hgrow (by simp; omega) (fun j hj => by have := ownsRow_low hown5 hj; omega)
            have hone : ∀ u ∈ insCells i2, u.oneCell' = true := by simp [insCells, Value.oneCell']
            have hba : w1.heap.size + 1 ≤ ((w5.alloc (.cells #[.int .i64 i2.k, .int .i64 i2.to, .int .i64 i2.a, .int .i64 i2.b, .int .i64 i2.n, .int .i64 i2.g] 71)).alloc (.cells #[.int .i64 i2.k, .int .i64 i2.to, .int .i64 i2.a, .int .i64 i2.b, .int .i64 i2.n, .int .i64 i2.g] 71)).heap.size := by simp; omega
            go_wp2_with (at_builtin; refine wpList_append_own _ rfl _ _ 22 rfl (w1.heap.size + 1) 71 ti (.agg #[.int .i64 0, .int .i64 0, .int .i64 0, .int .i64 0, .int .i64 0, .int .i64 0]) 6 48 Tryd.underlying22 hi hz0 hz1 hz2 rfl (by decide) _ _ _ rfl ((hown5.alloc _).alloc _) ⟨w5.heap.size + 1, 0, none⟩ 1 1 (insCells i2) rfl rfl hnews hone (by unfold maxLen; omega) (by omega) hba ?_; intro v' w6 hown' hgrow hnil; obtain ⟨g6, cap6, rfl, hg6, hl6⟩ := hown'.form (Nat.succ_pos _); obtain ⟨Q0, Q1, Q2, Qf⟩ : PrgAt w6 w1.heap.size V F (.slice sl c.length cap) := PrgAt.block ⟨P0, P1, P2, Pf⟩ (hG w6 hgrow _ (Nat.le_refl _)); obtain ⟨e0, e1, e2, ef, ez⟩ : ZAt w6 w.heap.size := Z5.block (hG w6 hgrow _ (by omega)); have H6 := hH6 w6 hgrow; have z6 : w1.heap.size < w6.heap.size := (by have := hgrow.size; simp at this; omega))
            have H7 := H1.trans (H6.mono H1.size)
            refine bodyPost_ret (v := .tuple #[.agg #[.int .i64 0, .int .i64 0, .slice none 0 0], .int .i64 ((k : Int) + 1), .int .i64 1]) (by simp [results, Tryd.results17, go_sem, e0, e1, e2, ez, hneP]) rfl ⟨?_, ?_⟩
            · rw [HP.out]
              exact ⟨_, rfl, World.ownsRow_nil _ _ _ _⟩
            · first | exact (((((H7.setCell (by simp; omega) _).setCell (Nat.le_refl _) _).setCell (Nat.le_refl _) _).setCell (Nat.le_refl _) _)) | exact (((((H7.setCell (Nat.le_refl _) _).setCell (Nat.le_refl _) _).setCell (Nat.le_refl _) _).setCell (by simp; omega) _))
        · have e1 : ((k : Int) == (xs.length : Int) - 1) = false := by simp; omega
          have hneP : ¬ w.heap.size = w1.heap.size := by omega
          have ec : ((k + 1 : Nat) : Int) = (k : Int) + 1 := by omega
          have hrd := HT.out
          rw [tail_next (by rw [hLn]; omega), hLk] at hrd
          clear HT HRM HRO HPO
          cases ho : insOf y.data.toList with
          | none =>
            rw [ho] at hrd
            have HP := hideU (HPE.out _ hrd)
            rw [ec] at HP
            clear hrd HPE
            obtain ⟨sl, cap, rfl, hcode⟩ := codeAt_own hownC
            obtain ⟨p0, p1, p2, pf⟩ := id hPr
            go_wp2_with (go_at_call 46; fail)
            refine (instrOf_ans y wr hyk).mono ?_
            rintro e w5 ⟨⟨i2, he2, hi2⟩, hb5⟩
            rw [ho] at he2
            simp only [Option.isSome_none] at he2
            simp only [insV] at he2
            subst he2
            have B5 : ∀ j, j < wr.heap.size → w5.heap[j]? = wr.heap[j]? := fun j hj => hb5.block j hj
            have S5 : wr.heap.size ≤ w5.heap.size := hb5.size
            obtain ⟨P0, P1, P2, Pf⟩ : PrgAt w5 w1.heap.size V F (.slice sl c.length cap) := PrgAt.block ⟨p0, p1, p2, pf⟩ (B5 _ hzr)
            have hB5 : w1.heap.size < w5.heap.size := by omega
            have hown5 := ownsRow_of_block hownC (fun j hj => B5 j (ownsRow_block_lt hownC hj).1)
            have Z5 := ZR.call hb5
            have hbr5 := hbr.trans (hb5.mono hbr.size)
            clear p0 p1 p2 pf ck hcode hownC hb5 ZR
            have hnews : ∀ j u, (insCells i2)[j]? = some u → ((w5.alloc (.cells #[.int .i64 i2.k, .int .i64 i2.to, .int .i64 i2.a, .int .i64 i2.b, .int .i64 i2.n, .int .i64 i2.g] 71)).alloc (.cells #[.int .i64 i2.k, .int .i64 i2.to, .int .i64 i2.a, .int .i64 i2.b, .int .i64 i2.n, .int .i64 i2.g] 71)).cell? ((⟨w5.heap.size + 1, 0, none⟩ : Addr).add j) = some u := by
              have := cells_new (w5.alloc (.cells #[.int .i64 i2.k, .int .i64 i2.to, .int .i64 i2.a, .int .i64 i2.b, .int .i64 i2.n, .int .i64 i2.g] 71)) (insCells i2) 71
              intro j u hj
              have h := this j u hj
              simp only [World.size_alloc] at h
              exact h
            have hG : ∀ w6, ((w5.alloc (.cells #[.int .i64 i2.k, .int .i64 i2.to, .int .i64 i2.a, .int .i64 i2.b, .int .i64 i2.n, .int .i64 i2.g] 71)).alloc (.cells #[.int .i64 i2.k, .int .i64 i2.to, .int .i64 i2.a, .int .i64 i2.b, .int .i64 i2.n, .int .i64 i2.g] 71)).grownBy w6 (Value.slice sl c.length cap).ownBlock → ∀ j, j ≤ w1.heap.size → w6.heap[j]? = w5.heap[j]? := fun w6 hgrow j hj => by
              rw [hgrow.block _ (by simp; omega) (fun e => by have := ownsRow_low hown5 e.symm; omega), Below.heap_alloc _ _ _ (by simp; omega), Below.heap_alloc _ _ _ (by omega)]
            have hH6 : ∀ w6, ((w5.alloc (.cells #[.int .i64 i2.k, .int .i64 i2.to, .int .i64 i2.a, .int .i64 i2.b, .int .i64 i2.n, .int .i64 i2.g] 71)).alloc (.cells #[.int .i64 i2.k, .int .i64 i2.to, .int .i64 i2.a, .int .i64 i2.b, .int .i64 i2.n, .int .i64 i2.g] 71)).grownBy w6 (Value.slice sl c.length cap).ownBlock → Below w1.heap.size w1 w6 := fun w6 hgrow =>
              ((hbr5.alloc (by omega) _).alloc (by simp; omega) _).grown hgrow (by simp; omega) (fun j hj => by have := ownsRow_low hown5 hj; omega)
            have hone : ∀ u ∈ insCells i2, u.oneCell' = true := by simp [insCells, Value.oneCell']
            have hba : w1.heap.size + 1 ≤ ((w5.alloc (.cells #[.int .i64 i2.k, .int .i64 i2.to, .int .i64 i2.a, .int .i64 i2.b, .int .i64 i2.n, .int .i64 i2.g] 71)).alloc (.cells #[.int .i64 i2.k, .int .i64 i2.to, .int .i64 i2.a, .int .i64 i2.b, .int .i64 i2.n, .int .i64 i2.g] 71)).heap.size := by simp; omega
            go_wp2_with (at_builtin; refine wpList_append_own _ rfl _ _ 22 rfl (w1.heap.size + 1) 71 ti (.agg #[.int .i64 0, .int .i64 0, .int .i64 0, .int .i64 0, .int .i64 0, .int .i64 0]) 6 48 Tryd.underlying22 hi hz0 hz1 hz2 rfl (by decide) _ _ _ rfl ((hown5.alloc _).alloc _) ⟨w5.heap.size + 1, 0, none⟩ 1 1 (insCells i2) rfl rfl hnews hone (by unfold maxLen; omega) (by omega) hba ?_; intro v' w6 hown' hgrow hnil; obtain ⟨g6, cap6, rfl, hg6, hl6⟩ := hown'.form (Nat.succ_pos _); obtain ⟨Q0, Q1, Q2, Qf⟩ : PrgAt w6 w1.heap.size V F (.slice sl c.length cap) := PrgAt.block ⟨P0, P1, P2, Pf⟩ (hG w6 hgrow _ (Nat.le_refl _)); obtain ⟨e0, e1, e2, ef, ez⟩ : ZAt w6 w.heap.size := Z5.block (hG w6 hgrow _ (by omega)); have H6 := hH6 w6 hgrow; have z6 : w1.heap.size < w6.heap.size := (by have := hgrow.size; simp at this; omega))
            have H7 := H1.trans (H6.mono H1.size)
            refine bodyPost_ret (v := .tuple #[.agg #[.int .i64 0, .int .i64 0, .slice none 0 0], .int .i64 ((k : Int) + 1), .int .i64 1]) (by simp [results, Tryd.results17, go_sem, e0, e1, e2, ez, hneP]) rfl ⟨?_, ?_⟩
            · rw [HP.out]
              exact ⟨_, rfl, World.ownsRow_nil _ _ _ _⟩
            · first | exact (((((H7.setCell (by simp; omega) _).setCell (Nat.le_refl _) _).setCell (Nat.le_refl _) _).setCell (Nat.le_refl _) _)) | exact (((((H7.setCell (Nat.le_refl _) _).setCell (Nat.le_refl _) _).setCell (Nat.le_refl _) _).setCell (by simp; omega) _))
          | some i =>
            rw [ho] at hrd
            have HT2 := hideU hrd
            clear hrd HPE
            obtain ⟨sl, cap, rfl, hcode⟩ := codeAt_own hownC
            obtain ⟨p0, p1, p2, pf⟩ := id hPr
            go_wp2_with (go_at_call 46; fail)
            refine (instrOf_ans y wr hyk).mono ?_
            rintro e w5 ⟨⟨i2, he2, hi2⟩, hb5⟩
            rw [ho] at he2 hi2
            simp only [Option.isSome_some] at he2
            obtain rfl := hi2 i rfl
            clear hi2 ho
            simp only [insV] at he2
            subst he2
            have B5 : ∀ j, j < wr.heap.size → w5.heap[j]? = wr.heap[j]? := fun j hj => hb5.block j hj
            have S5 : wr.heap.size ≤ w5.heap.size := hb5.size
            obtain ⟨P0, P1, P2, Pf⟩ : PrgAt w5 w1.heap.size V F (.slice sl c.length cap) := PrgAt.block ⟨p0, p1, p2, pf⟩ (B5 _ hzr)
            have hB5 : w1.heap.size < w5.heap.size := by omega
            have hown5 := ownsRow_of_block hownC (fun j hj => B5 j (ownsRow_block_lt hownC hj).1)
            have Z5 := ZR.call hb5
            have hbr5 := hbr.trans (hb5.mono hbr.size)
            clear p0 p1 p2 pf ck hcode hownC hb5 ZR
            have hnews : ∀ j u, (insCells i2)[j]? = some u → ((w5.alloc (.cells #[.int .i64 i2.k, .int .i64 i2.to, .int .i64 i2.a, .int .i64 i2.b, .int .i64 i2.n, .int .i64 i2.g] 71)).alloc (.cells #[.int .i64 i2.k, .int .i64 i2.to, .int .i64 i2.a, .int .i64 i2.b, .int .i64 i2.n, .int .i64 i2.g] 71)).cell? ((⟨w5.heap.size + 1, 0, none⟩ : Addr).add j) = some u := by
              have := cells_new (w5.alloc (.cells #[.int .i64 i2.k, .int .i64 i2.to, .int .i64 i2.a, .int .i64 i2.b, .int .i64 i2.n, .int .i64 i2.g] 71)) (insCells i2) 71
              intro j u hj
              have h := this j u hj
              simp only [World.size_alloc] at h
              exact h
            have hG : ∀ w6, ((w5.alloc (.cells #[.int .i64 i2.k, .int .i64 i2.to, .int .i64 i2.a, .int .i64 i2.b, .int .i64 i2.n, .int .i64 i2.g] 71)).alloc (.cells #[.int .i64 i2.k, .int .i64 i2.to, .int .i64 i2.a, .int .i64 i2.b, .int .i64 i2.n, .int .i64 i2.g] 71)).grownBy w6 (Value.slice sl c.length cap).ownBlock → ∀ j, j ≤ w1.heap.size → w6.heap[j]? = w5.heap[j]? := fun w6 hgrow j hj => by
              rw [hgrow.block _ (by simp; omega) (fun e => by have := ownsRow_low hown5 e.symm; omega), Below.heap_alloc _ _ _ (by simp; omega), Below.heap_alloc _ _ _ (by omega)]
            have hH6 : ∀ w6, ((w5.alloc (.cells #[.int .i64 i2.k, .int .i64 i2.to, .int .i64 i2.a, .int .i64 i2.b, .int .i64 i2.n, .int .i64 i2.g] 71)).alloc (.cells #[.int .i64 i2.k, .int .i64 i2.to, .int .i64 i2.a, .int .i64 i2.b, .int .i64 i2.n, .int .i64 i2.g] 71)).grownBy w6 (Value.slice sl c.length cap).ownBlock → Below w1.heap.size w1 w6 := fun w6 hgrow =>
              ((hbr5.alloc (by omega) _).alloc (by simp; omega) _).grown hgrow (by simp; omega) (fun j hj => by have := ownsRow_low hown5 hj; omega)
            have hone : ∀ u ∈ insCells i2, u.oneCell' = true := by simp [insCells, Value.oneCell']
            have hba : w1.heap.size + 1 ≤ ((w5.alloc (.cells #[.int .i64 i2.k, .int .i64 i2.to, .int .i64 i2.a, .int .i64 i2.b, .int .i64 i2.n, .int .i64 i2.g] 71)).alloc (.cells #[.int .i64 i2.k, .int .i64 i2.to, .int .i64 i2.a, .int .i64 i2.b, .int .i64 i2.n, .int .i64 i2.g] 71)).heap.size := by simp; omega
            go_wp2_with (at_builtin; refine wpList_append_own _ rfl _ _ 22 rfl (w1.heap.size + 1) 71 ti (.agg #[.int .i64 0, .int .i64 0, .int .i64 0, .int .i64 0, .int .i64 0, .int .i64 0]) 6 48 Tryd.underlying22 hi hz0 hz1 hz2 rfl (by decide) _ _ _ rfl ((hown5.alloc _).alloc _) ⟨w5.heap.size + 1, 0, none⟩ 1 1 (insCells i2) rfl rfl hnews hone (by unfold maxLen; omega) (by omega) hba ?_; intro v' w6 hown' hgrow hnil; obtain ⟨g6, cap6, rfl, hg6, hl6⟩ := hown'.form (Nat.succ_pos _); obtain ⟨Q0, Q1, Q2, Qf⟩ : PrgAt w6 w1.heap.size V F (.slice sl c.length cap) := PrgAt.block ⟨P0, P1, P2, Pf⟩ (hG w6 hgrow _ (Nat.le_refl _)); obtain ⟨e0, e1, e2, ef, ez⟩ : ZAt w6 w.heap.size := Z5.block (hG w6 hgrow _ (by omega)); have H6 := hH6 w6 hgrow; have z6 : w1.heap.size < w6.heap.size := (by have := hgrow.size; simp at this; omega))
            go_roundw
            case rel =>
              refine ⟨k + 1, V, F, c ++ [i2], .slice (some ⟨g6, 0, none⟩) k cap6, by omega, by go_num, .inr ⟨by omega, by rw [List.length_append]; simp; omega, HT2⟩, PrgAt.set ⟨Q0, Q1, Q2, Qf⟩ _, ?_, H6.setCell (Nat.le_refl _) _, by simpa using z6⟩
              have hfl : flat (c ++ [i2]) = flat c ++ insCells i2 := by simp [flat]
              have hk9 : (c ++ [i2]).length = c.length + 1 := by simp
              rw [hfl, hk9]
              rw [hcl] at hown' ⊢
              exact ownsRow_setCell_below hown' (Nat.lt_succ_self _) _
            case measure => simp [intOf]; omega
end Go.Proofs.YtmapdpcfanecdaaDoor
