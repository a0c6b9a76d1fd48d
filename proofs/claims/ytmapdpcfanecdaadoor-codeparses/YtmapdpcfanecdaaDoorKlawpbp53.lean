/- Walks over the document's parser: InstrOf. -/
import Derived.Test.YtmapdpcfanecdaaDoorKlawpbp52
import Derived.Test.YtmapdpcfanecdaaDoorKlawpbp39
import Derived.Deep.RegionHeldLaw
namespace Go.Proofs.YtmapdpcfanecdaaDoor
set_option linter.unusedVariables false
set_option linter.unusedSimpArgs false
open Go.RowKit

/-- What InstrOf's last region reads. -/
def regI (X A B : Nat) (ss : Option Addr) (cp n : Nat) (i : Ins) (a : Nat) (w' : World) : Prop :=
  (w'.cell? ⟨X, 0, none⟩ = some (.int .i64 i.k) ∧ w'.cell? ⟨X, 1, none⟩ = some (.int .i64 i.to) ∧ w'.cell? ⟨X, 2, none⟩ = some (.int .i64 i.a) ∧ w'.cell? ⟨X, 3, none⟩ = some (.int .i64 i.b) ∧ w'.cell? ⟨X, 4, none⟩ = some (.int .i64 i.n) ∧ w'.cell? ⟨X, 5, none⟩ = some (.int .i64 i.g)) ∧ w'.cell? ⟨A, 0, none⟩ = some (.int .i64 a) ∧ w'.cell? ⟨B, 0, none⟩ = some (.slice ss n cp)
theorem regI.other {X A B : Nat} {ss : Option Addr} {cp n : Nat} {i : Ins} {a : Nat} {w : World} {R o : Nat} {v : Value} (h : regI X A B ss cp n i a w) (h1 : X ≠ R) (h2 : A ≠ R) (h3 : B ≠ R) : regI X A B ss cp n i a (w.setCell ⟨R, o, none⟩ v) := by
  have hc : ∀ b j, b ≠ R → (w.setCell ⟨R, o, none⟩ v).cell? ⟨b, j, none⟩ = w.cell? ⟨b, j, none⟩ := fun b j hb => World.cell?_of_block (a := ⟨b, j, none⟩) (Below.heap_setCell _ _ _ _ hb)
  obtain ⟨⟨x0, x1, x2, x3, x4, x5⟩, y, z⟩ := h
  exact ⟨⟨(hc _ _ h1).trans x0, (hc _ _ h1).trans x1, (hc _ _ h1).trans x2, (hc _ _ h1).trans x3, (hc _ _ h1).trans x4, (hc _ _ h1).trans x5⟩, (hc _ _ h2).trans y, (hc _ _ h3).trans z⟩
theorem below6 {B R : Nat} {a w : World} {v0 v1 v2 v3 v4 v5 : Value} (h : Below B a w) (hR : B ≤ R) : Below B a ((((((w.setCell ⟨R, 0, none⟩ v0).setCell ⟨R, 1, none⟩ v1).setCell ⟨R, 2, none⟩ v2).setCell ⟨R, 3, none⟩ v3).setCell ⟨R, 4, none⟩ v4).setCell ⟨R, 5, none⟩ v5) :=
  (((((h.setCell hR _).setCell hR _).setCell hR _).setCell hR _).setCell hR _).setCell hR _
theorem IQ.drew {w0 : World} {R B X A : Nat} {ss : Option Addr} {cp : Nat} {vs : List Int} {i : Ins} {a : Nat} {w : World} (h : IQ w0 R B X A ss cp vs i a w) : IQ w0 R B X A ss cp vs i a w.drew := by
  obtain ⟨h1, h2, ⟨h3, h4⟩, h5, h6, h7, ⟨z1, z2, z3, z4, z5⟩, h8⟩ := h
  have hb : Below w.heap.size w w.drew := (Below.refl _ _).drew
  exact ⟨h1.call hb, h2.call hb, ⟨by rw [hb.cell (by simpa using z5)]; exact h3, by rw [hb.frozen (by simpa using z5)]; exact h4⟩, by rw [hb.cell (by show B < w.heap.size; omega)]; exact h5, IntsAt.below h6 hb (Nat.le_refl _), h7.drew, ⟨z1, z2, z3, z4, Nat.lt_of_lt_of_le z5 hb.size⟩, h8⟩

/-- What InstrOf answers. -/
def InsAns (o : Option Ins) (e : Ending) : Prop := ∃ i, e = .returned (.tuple #[insV i, .bool o.isSome]) ∧ ∀ j, o = some j → i = j

theorem nums_none {l : List UInt8} {x : ByteArray} {ns : List ByteArray} (h : ((x :: ns).map fun b : ByteArray => b.data.toList) = cutAll 32 l) (hn : numsOf (ns.map fun b : ByteArray => b.data.toList) = none) : insOf l = none := by
  rw [insOf_words h]
  cases kindOf x.data.toList ns.length with
  | none => rfl
  | some k => simp only [goI, hn]
theorem nums_some {l : List UInt8} {x : ByteArray} {ns : List ByteArray} {vs : List Int} (h : ((x :: ns).map fun b : ByteArray => b.data.toList) = cutAll 32 l) (hn : numsOf (ns.map fun b : ByteArray => b.data.toList) = some vs) : insOf l = match kindOf x.data.toList ns.length with
    | none => none
    | some k => some (putAll (prt k) vs ⟨k, 0, 0, 0, 0, 0⟩) := by
  rw [insOf_words h]
  cases kindOf x.data.toList ns.length with
  | none => rfl
  | some k => simp only [goI, hn]
theorem word_one : ∀ j : Fin 20, ∀ k : Fin 20, 1 ≤ j.val → 1 ≤ k.val → j.val ≠ k.val → ((wordB (j.val : Int)).data.toList == (wordB (k.val : Int)).data.toList) = false := by decide +kernel
/-- Only one kind has a word. -/
theorem kind_here {x : List UInt8} {n k : Nat} (h1 : 1 ≤ k) (h19 : k ≤ 19) (hx : (wordB k).data.toList = x) : kindOf x n = if (prt k).length = n then some k else none := by
  have ho : ∀ j, 1 ≤ j → j < 20 → j ≠ k → isKind x n j = false := by
    intro j j1 j20 hjk
    have := word_one ⟨j, j20⟩ ⟨k, by omega⟩ j1 h1 hjk
    simp only at this
    unfold isKind
    rw [← hx, this]
    rfl
  by_cases hn : (prt k).length = n
  · rw [if_pos hn]
    refine kindOf_some (fun j a b => ho j a (by omega) (by omega)) h1 h19 ?_
    unfold isKind
    rw [hx, hn]
    simp
  · rw [if_neg hn]
    refine kindOf_none (fun j a b => ?_)
    by_cases hj : j = k
    · subst hj
      unfold isKind
      have : ((prt j).length == n) = false := by rw [beq_eq_false_iff_ne]; exact hn
      rw [this]
      simp
    · exact ho j a b hj
theorem kind_nowhere {x : List UInt8} {n : Nat} (h : ∀ j : Nat, 1 ≤ j → j < 20 → (wordB j).data.toList ≠ x) : kindOf x n = none := by
  refine kindOf_none (fun j a b => ?_)
  unfold isKind
  have : ((wordB j).data.toList == x) = false := by rw [beq_eq_false_iff_ne]; exact h j a b
  rw [this]
  rfl

set_option maxHeartbeats 8000000 in
set_option maxRecDepth 20000 in
theorem instrOf_ans (l : ByteArray) (w : World) (hl : l.size ≤ 4000) :
    Calls Tryd.prog 46 #[.string l] w fun e w' => InsAns (insOf l.data.toList) e ∧ Below w.heap.size w w' := by
  obtain ⟨ti, hi, hz0, hz1, hz2⟩ := info_parts Tryd.info_int
  have hb1 : Below w.heap.size w (w.alloc (.cells #[.int .i64 0, .int .i64 0, .int .i64 0, .int .i64 0, .int .i64 0, .int .i64 0] 71)) := by go_grown
  have R0 : XAt (w.alloc (.cells #[.int .i64 0, .int .i64 0, .int .i64 0, .int .i64 0, .int .i64 0, .int .i64 0] 71)) w.heap.size zeroI := by
    refine ⟨⟨?_, ?_, ?_, ?_, ?_, ?_⟩, fun j => ?_, ?_⟩ <;> simp [go_sem, zeroI]
  have hC : Calls Tryd.prog 44 #[.string l, .int .u8 32] (w.alloc (.cells #[.int .i64 0, .int .i64 0, .int .i64 0, .int .i64 0, .int .i64 0, .int .i64 0] 71)) _ := cutR_any l 32 _ hl
  generalize hans : insOf l.data.toList = ans
  go_enter Tryd.func46, Tryd.ntmps46
  go_wp2_with (go_at_call 44; fail)
  refine hC.mono ?_
  rintro e w1 ⟨v, xs, rfl, hdat, hxl, hown, hbc⟩
  clear hC
  cases xs with
  | nil =>
    obtain ⟨y, r, hy⟩ := cutAll_form 32 l.data.toList
    rw [hy] at hdat
    cases hdat
  | cons x ns =>
    have R1 := R0.call hbc
    have H1 : Below w.heap.size w w1 := hb1.trans (hbc.mono (by simp))
    obtain ⟨g, cw, rfl, hgB, hgz⟩ := hown.form (by simp)
    have hcl : ∀ j (hj : j < (x :: ns).length), w1.cell? ⟨g, j, none⟩ = some (.string (x :: ns)[j]) := fun j hj => by
      rw [hown.cellAt _ (by omega), List.getElem?_map, List.getElem?_eq_getElem hj]
      rfl
    have hlen : ns.length ≤ 4000 := by simp at hxl; omega
    have HNone := hideU (fun h => (nums_none hdat h).symm.trans hans)
    have HSome := hideU (fun vs (h : numsOf (ns.map fun b : ByteArray => b.data.toList) = some vs) => (nums_some hdat h).symm.trans hans)
    have hyl : ∀ j (hj : j < ns.length), (ns[j]).size ≤ 4000 := by
      intro j hj
      have hm : (ns[j]).data.toList ∈ cutAll 32 l.data.toList := by
        rw [← hdat]
        exact List.mem_map_of_mem (List.mem_cons_of_mem _ (List.getElem_mem hj))
      have := glue_mem 32 _ _ hm
      rw [glue_cut, size_lenU, size_lenU] at this
      omega
    simp only [List.length_cons]
    clear hans hdat hown hbc R0 hb1 hxl
    have c0 := hcl 0 (by simp)
    have hcs : ∀ j (hj : j < ns.length), w1.cell? ⟨g, j + 1, none⟩ = some (.string ns[j]) := fun j hj => hcl (j + 1) (by simp; omega)
    clear hcl
    simp only [List.getElem_cons_zero] at c0
    have hB : Below w1.heap.size w1 (w1.alloc (.cells #[.slice none 0 0] 28)) := by go_grown
    go_wp2
    go_loopw [6] (fun i wr => ∃ (k : Nat) (vs : List Int) (vB : Value), k ≤ ns.length ∧ i = .int .i64 ((k : Int) + 1) ∧ vs.length = k ∧ Hid (numsOf (ns.map fun b : ByteArray => b.data.toList) = match numsOf ((ns.map fun b : ByteArray => b.data.toList).drop k) with
        | none => none
        | some t => some (vs ++ t)) ∧ (wr.cell? ⟨w1.heap.size, 0, none⟩ = some vB ∧ wr.frozen? ⟨w1.heap.size, 0, none⟩ = false) ∧ wr.ownsRow (w1.heap.size + 1) 3 1 vB k (vs.map (.int .i64)) ∧ Below w1.heap.size w1 wr ∧ w1.heap.size < wr.heap.size) (fun i _ => ns.length + 1 - (intOf i).toNat)
    case atStart =>
      refine ⟨0, [], _, Nat.zero_le _, rfl, rfl, ?_, ⟨by simp [go_sem], by simp [go_sem]⟩, ⟨rfl, .inl ⟨rfl, rfl⟩⟩, hB, by simp⟩
      show _ = _
      rw [List.drop_zero]
      cases numsOf (ns.map fun b : ByteArray => b.data.toList) with
      | none => rfl
      | some t => rfl
    case round =>
      obtain ⟨k, vs, vB, hk, rfl, hvl, HM, ⟨b0, bf⟩, hownB, hbr, hzr⟩ := hrel
      clear hB
      have HR : Below w.heap.size w wr := H1.trans (hbr.mono H1.size)
      have RR := R1.call hbr
      by_cases hlt : k < ns.length
      · have n0 : (0 : Int) ≤ (k : Int) + 1 := by omega
        have n1 : (k : Int) + 1 < ((ns.length + 1 : Nat) : Int) := by omega
        have n2 : ((k : Int) + 1).toNat = k + 1 := by omega
        have c1 : wr.cell? ⟨g, k + 1, none⟩ = some (.string ns[k]) := by rw [hbr.cell hgz]; exact hcs k hlt
        have hy := hyl k hlt
        have HM2 := HM.out
        rw [List.drop_eq_getElem_cons (by simpa using hlt), List.getElem_map, numsOf] at HM2
        generalize ns[k] = y at *
        clear HM
        go_wp2_with (go_at_call 45; fail)
        refine (undigit_ans y wr hy).mono ?_
        rintro e w5 ⟨⟨u, rfl, hu⟩, hb5⟩
        have RR5 := RR.call hb5
        have HR5 := HR.trans (hb5.mono HR.size)
        clear c1 RR HR
        cases hn : numOf y.data.toList with
        | none =>
          rw [hn] at HM2
          obtain rfl := HNone.out HM2
          simp only [Option.isSome]
          clear HM2 hu HSome HNone hownB
          obtain ⟨⟨r0, r1, r2, r3, r4, r5⟩, rf, rz⟩ := RR5
          simp only [zeroI] at r0 r1 r2 r3 r4 r5
          go_wp2
          refine bodyPost_ret (v := .tuple #[insV zeroI, .bool false]) (by simp [results, Tryd.results46, go_sem, insV, zeroI, r0, r1, r2, r3, r4, r5]) rfl ⟨⟨zeroI, rfl, fun j h => by cases h⟩, ?_⟩
          exact ((((((HR5.setCell (Nat.le_refl _) _).setCell (Nat.le_refl _) _).setCell (Nat.le_refl _) _).setCell (Nat.le_refl _) _).setCell (Nat.le_refl _) _).setCell (Nat.le_refl _) _)
        | some m =>
          obtain rfl := hu m hn
          rw [hn] at HM2
          have HM3 : Hid (numsOf (ns.map fun b : ByteArray => b.data.toList) = match numsOf ((ns.map fun b : ByteArray => b.data.toList).drop (k + 1)) with
              | none => none
              | some t => some ((vs ++ [u]) ++ t)) := by
            show _ = _
            rw [HM2]
            cases numsOf ((ns.map fun b : ByteArray => b.data.toList).drop (k + 1)) with
            | none => rfl
            | some t => simp
          simp only [Option.isSome]
          clear HM2 hn hu RR5
          have B5 : ∀ j, j < wr.heap.size → w5.heap[j]? = wr.heap[j]? := fun j hj => hb5.block j hj
          have S5 : wr.heap.size ≤ w5.heap.size := hb5.size
          have b05 : w5.cell? ⟨w1.heap.size, 0, none⟩ = some vB := by rw [hb5.cell (by simpa using hzr)]; exact b0
          have bf5 : w5.frozen? ⟨w1.heap.size, 0, none⟩ = false := by rw [hb5.frozen (by simpa using hzr)]; exact bf
          have hown5 := ownsRow_of_block hownB (fun j hj => B5 j (ownsRow_block_lt hownB hj).1)
          have hbr5 := hbr.trans (hb5.mono hbr.size)
          have hz5 : w1.heap.size < w5.heap.size := by omega
          obtain ⟨sB, cB, rfl⟩ : ∃ sB cB, vB = .slice sB k cB := by
            obtain ⟨s, c, hs, -⟩ := intsAt_own (l := vs) (by rw [hvl]; exact hown5)
            rw [hvl] at hs
            exact ⟨s, c, hs⟩
          have hX : ∀ w6, (w5.alloc (.cells #[.int .i64 u] 3)).grownBy w6 (Value.slice sB k cB).ownBlock → w6.heap[w1.heap.size]? = w5.heap[w1.heap.size]? := fun w6 hgrow => by
            rw [hgrow.block _ (by simp; omega) (fun e => by have := ownsRow_low hown5 e.symm; omega), Below.heap_alloc _ _ _ hz5]
          clear b0 bf hownB hb5
          go_wp2_with (at_builtin; refine wpList_append_own _ rfl _ _ 28 rfl (w1.heap.size + 1) 3 ti (.int .i64 0) 1 8 Tryd.underlying28 hi hz0 hz1 hz2 rfl (by decide) _ _ _ rfl (hown5.alloc _) ⟨w5.heap.size, 0, none⟩ 1 1 [.int .i64 u] rfl rfl (cell_one_new _ _ _) (fun x hx => by simp at hx; subst hx; rfl) (by unfold maxLen; omega) (by omega) (by simp; omega) ?_; intro v' w6 hown' hgrow hnil; obtain ⟨g6, c6, rfl, hg6, hl6⟩ := hown'.form (Nat.succ_pos _); have b06 : w6.cell? ⟨w1.heap.size, 0, none⟩ = some (.slice sB k cB) := (World.cell?_of_block (a := ⟨w1.heap.size, 0, none⟩) (hX w6 hgrow)).trans b05; have bf6 : w6.frozen? ⟨w1.heap.size, 0, none⟩ = false := (World.frozen?_of_block (a := ⟨w1.heap.size, 0, none⟩) (hX w6 hgrow)).trans bf5)
          go_roundw
          case rel =>
            refine ⟨k + 1, vs ++ [u], .slice (some ⟨g6, 0, none⟩) (k + 1) c6, hlt, by go_num, by rw [List.length_append, hvl]; rfl, HM3, ⟨by simp [go_sem, b06], by simp [go_sem, bf6]⟩, ownsRow_setCell_below ?_ (Nat.lt_succ_self _) _, ?_, ?_⟩
            · rw [List.map_append]; exact hown'
            · exact ((hbr5.alloc (by omega) _).grown hgrow (by simp; omega) (fun j hj => by have := ownsRow_low hown5 hj; omega)).setCell (Nat.le_refl _) _
            · have := hgrow.size; simp at this ⊢; omega
          case measure => simp [intOf]; omega
      · have hke : k = ns.length := by omega
        subst hke
        have HM2 := HM.out
        rw [List.drop_eq_nil_of_le (by simp)] at HM2
        simp only [numsOf, List.append_nil] at HM2
        have HS2 := hideU (HSome.out vs HM2)
        obtain ⟨ss, cp, rfl, hIv⟩ : ∃ ss cp, vB = .slice ss ns.length cp ∧ IntsAt wr ss vs := by
          obtain ⟨s, c, hs, hI⟩ := intsAt_own (l := vs) (by rw [hvl]; exact hownB)
          rw [hvl] at hs
          exact ⟨s, c, hs, hI⟩
        have hss : ∀ a, ss = some a → a.block < wr.heap.size := fun a ha => (ownsRow_block_lt hownB (by rw [ha]; rfl)).1
        have cx : wr.cell? ⟨g, 0, none⟩ = some (.string x) := by rw [hbr.cell hgz]; exact c0
        have zg : g < wr.heap.size := by have := hbr.size; omega
        clear HM HM2 HSome HNone hcs hyl hlt hownB c0 hk
        have hw1 : w.heap.size < w1.heap.size := R1.2.2
        generalize w1.heap.size = B at *
        generalize wr = wp at *
        go_wp2
        go_loopw [9] (fun i wr => ∃ (k : Nat), 1 ≤ k ∧ k ≤ 20 ∧ i = .int .i64 k ∧ Hid (∀ j : Nat, 1 ≤ j → j < k → (wordB j).data.toList ≠ x.data.toList) ∧ Below wp.heap.size wp wr) (fun i _ => 20 - (intOf i).toNat)
        case atStart => exact ⟨1, Nat.le_refl _, by omega, rfl, (by intro j h1 h2; omega), Below.refl _ _⟩
        case round =>
          obtain ⟨k, hk1, hk20, rfl, HW, hbq⟩ := hrel
          have HQ : Below w.heap.size w wr := HR.trans (hbq.mono HR.size)
          have RQ := RR.call hbq
          by_cases h20 : k = 20
          · subst h20
            obtain rfl : none = ans := by
              have := HS2.out
              rw [kind_nowhere HW.out] at this
              exact this
            clear HS2 HW
            obtain ⟨⟨r0, r1, r2, r3, r4, r5⟩, rf, rz⟩ := RQ
            simp only [zeroI] at r0 r1 r2 r3 r4 r5
            go_wp2
            refine bodyPost_ret (v := .tuple #[insV zeroI, .bool false]) (by simp [results, Tryd.results46, go_sem, insV, zeroI, r0, r1, r2, r3, r4, r5]) rfl ⟨⟨zeroI, rfl, fun j h => by cases h⟩, ?_⟩
            exact ((((((HQ.setCell (Nat.le_refl _) _).setCell (Nat.le_refl _) _).setCell (Nat.le_refl _) _).setCell (Nat.le_refl _) _).setCell (Nat.le_refl _) _).setCell (Nat.le_refl _) _)
          · have hk19 : k ≤ 19 := by omega
            have m0 : (k : Int) ≤ 19 := by omega
            have KS : ∀ wx, Below wp.heap.size wp wx → wx.cell? ⟨g, 0, none⟩ = some (.string x) := fun wx hx => by rw [hx.cell zg]; exact cx
            have hn0 : (0 : Int) < ((ns.length + 1 : Nat) : Int) := by omega
            go_wp2
            refine wp_region_held_drew (S := fun wx => wx.cell? ⟨g, 0, none⟩ = some (.string x)) (by kernel_rfl) (KS _ hbq.drew) (fun hHeld => ?_)
            have hbd := hbq.drew
            clear hbq HQ RQ
            generalize wr.drew = wd at *
            refine wpAnyH_take (i := 0) (v := ?_) rfl (by kernel_rfl) (by kernel_rfl) (by kernel_rfl) (fun _ _ _ h => h) (Or.inl ⟨?_, ?_⟩) (by assumption) ?_
            rotate_left
            · rfl
            · (intro w hSw; (try dsimp only at hSw); first | (go_simp; done) | (go_simp; with_reducible rfl))
            (try simp only [Act.put, List.getElem_toArray, List.getElem_cons_zero, List.getElem_cons_succ, List.setIfInBounds_toArray, List.set_cons_zero, List.set_cons_succ])
            refine wpAnyH_take (i := 2) (v := ?_) rfl (by kernel_rfl) (by kernel_rfl) (by kernel_rfl) (fun _ _ _ h => h) (Or.inl ⟨?_, ?_⟩) (by assumption) ?_
            rotate_left
            · rfl
            · (intro w hSw; (try dsimp only at hSw); first | (go_simp; done) | (go_simp; with_reducible rfl))
            (try simp only [Act.put, List.getElem_toArray, List.getElem_cons_zero, List.getElem_cons_succ, List.setIfInBounds_toArray, List.set_cons_zero, List.set_cons_succ])
            refine wpAnyH_take (i := 3) (v := ?_) rfl (by kernel_rfl) (by kernel_rfl) (by kernel_rfl) (fun _ _ _ h => h) (Or.inl ⟨?_, ?_⟩) (by assumption) ?_
            rotate_left
            · rfl
            · (intro w hSw; (try dsimp only at hSw); first | (go_simp; done) | (go_simp; with_reducible rfl))
            (try simp only [Act.put, List.getElem_toArray, List.getElem_cons_zero, List.getElem_cons_succ, List.setIfInBounds_toArray, List.set_cons_zero, List.set_cons_succ])
            refine wpAnyH_take (i := 4) (v := ?_) rfl (by kernel_rfl) (by kernel_rfl) (by kernel_rfl) (fun _ _ _ h => h) (Or.inl ⟨?_, ?_⟩) (by assumption) ?_
            rotate_left
            · rfl
            · (intro w hSw; (try dsimp only at hSw); first | (go_simp; done) | (go_simp; with_reducible rfl))
            (try simp only [Act.put, List.getElem_toArray, List.getElem_cons_zero, List.getElem_cons_succ, List.setIfInBounds_toArray, List.set_cons_zero, List.set_cons_succ])
            refine wpAnyH_ready (rs := [1]) (by kernel_rfl) (by simp) ?_
            refine AllReadyH.cons rfl (fun K hK => ?_) AllReadyH.nil
            go_simp
            refine (word_any (k : Int) _).mono ?_
            rintro e we ⟨rfl, hbe⟩
            have hbf := hbd.trans (hbe.mono hbd.size)
            refine hK.out _ _ (KS _ hbf) (fun hHeld2 => ?_)
            clear hK K hbe hbd
            (try simp only [Act.put, List.getElem_toArray, List.getElem_cons_zero, List.getElem_cons_succ, List.setIfInBounds_toArray, List.set_cons_zero, List.set_cons_succ])
            by_cases hw : (wordB k).data.toList = x.data.toList
            · have hx2 : wordB k = x := by
                apply ByteArray.ext
                apply Array.toList_inj.1
                exact hw
              obtain hans2 := HS2.out
              rw [kind_here hk1 hk19 hw] at hans2
              have HEND : Hid (∀ (iv : Ins) (a : Nat), (iv, a) = rp k vs → InsAns ans (.returned (.tuple #[insV iv, .bool ((a : Int) == (vs.length : Int))]))) := by
                intro iv a hrp
                by_cases hp : (prt k).length = ns.length
                · rw [if_pos hp] at hans2
                  rw [rp_right hk1 hk19 (by rw [hp, hvl])] at hrp
                  obtain ⟨rfl, rfl⟩ := Prod.mk.inj hrp
                  rw [← hans2]
                  exact ⟨_, by simp, fun j h => Option.some.inj h⟩
                · rw [if_neg hp] at hans2
                  have h2 := rp_wrong hk1 hk19 (vs := vs) (by rw [hvl]; exact hp)
                  rw [← hrp] at h2
                  rw [← hans2]
                  have h3 : ((a : Int) == (vs.length : Int)) = false := by
                    rw [beq_eq_false_iff_ne]
                    intro e
                    apply h2
                    show a = vs.length
                    omega
                  rw [h3]
                  exact ⟨iv, rfl, fun j h => by cases h⟩
              clear hans2 HS2 HW hw
              rw [hx2]
              refine wpAnyH_take (i := 5) (v := ?_) rfl (by kernel_rfl) (by kernel_rfl) (by kernel_rfl) (fun _ _ _ h => h) (Or.inl ⟨?_, ?_⟩) (by assumption) ?_
              rotate_left
              · rfl
              · (intro w hSw; (try dsimp only at hSw); first | (go_simp; done) | (go_simp; with_reducible rfl))
              (try simp only [Act.put, List.getElem_toArray, List.getElem_cons_zero, List.getElem_cons_succ, List.setIfInBounds_toArray, List.set_cons_zero, List.set_cons_succ])
              refine wpAnyH_done (by kernel_rfl) ?_ _
              clear hx2
              have HQ : Below w.heap.size w we := HR.trans (hbf.mono HR.size)
              have RQ := RR.call hbf
              have bq : we.cell? ⟨B, 0, none⟩ = some (.slice ss ns.length cp) := by rw [hbf.cell hzr]; exact b0
              have hIq := IntsAt.below hIv hbf (Nat.le_refl _)
              have zBe : B < we.heap.size := Nat.lt_of_lt_of_le hzr hbf.size
              have hse : ∀ a, ss = some a → a.block < we.heap.size := fun a ha => Nat.lt_of_lt_of_le (hss a ha) hbf.size
              clear RR b0 bf hIv hss cx zg KS hbf HR R1
              have Q0 : IQ w w.heap.size B we.heap.size (we.heap.size + 1) ss cp vs ⟨k, 0, 0, 0, 0, 0⟩ 0 ((we.alloc (.cells #[.int .i64 k, .int .i64 0, .int .i64 0, .int .i64 0, .int .i64 0, .int .i64 0] 71)).alloc (.cells #[.int .i64 0] 3)) := by
                have hg2 : Below we.heap.size we ((we.alloc (.cells #[.int .i64 k, .int .i64 0, .int .i64 0, .int .i64 0, .int .i64 0, .int .i64 0] 71)).alloc (.cells #[.int .i64 0] 3)) := by go_grown
                refine ⟨RQ.call hg2, ⟨⟨?_, ?_, ?_, ?_, ?_, ?_⟩, fun j => ?_, ?_⟩, ⟨?_, ?_⟩, ?_, IntsAt.below hIq hg2 (Nat.le_refl _), HQ.trans (hg2.mono HQ.size), ⟨Nat.le_refl _, hw1, zBe, by omega, by simp⟩, hse⟩
                · simp [go_sem]
                · simp [go_sem]
                · simp [go_sem]
                · simp [go_sem]
                · simp [go_sem]
                · simp [go_sem]
                · simp [go_sem]
                · first | (simp; done) | (simp; omega)
                · simp [go_sem]
                · simp [go_sem]
                · rw [hg2.cell (by simpa using zBe), bq, hvl]
              have hv5 : vs.length ≤ 5000 := by omega
              have hb0 : (0 : Nat) ≤ 99 := by omega
              clear bq hIq HQ RQ zBe hse
              go_wp2_with (first | (go_at_call 57; refine (namesTo_any _ _).mono ?_; rintro e w' ⟨rfl, rfl⟩) | (go_at_call 71; fail))
              refine (take_any (nTo (k : Int)) _ hv5 (by omega) Q0).mono ?_
              rintro e w11 ⟨rfl, T1⟩
              have hb1 := tk_le (vs := vs) (b := (nTo (k : Int))) (n := 99) hb0 (by omega)
              generalize hr1 : tk vs 0 (nTo (k : Int)) = r1 at *
              obtain ⟨v1, a1⟩ := r1
              have HR1 := hideU hr1
              clear hr1 Q0
              simp only at T1 hb1
              have Q1 : IQ w w.heap.size B we.heap.size (we.heap.size + 1) ss cp vs ⟨k, v1, 0, 0, 0, 0⟩ a1 (w11.setCell ⟨we.heap.size, 1, none⟩ (.int .i64 v1)) := T1.puts 0 v1
              try clear x0 x1 x2 x3 x4 x5 xf xz
              obtain ⟨⟨x0, x1, x2, x3, x4, x5⟩, xf, xz⟩ := id T1.2.1
              clear T1
              go_wp2_with (first | (go_at_call 51; refine (namesA_any _ _).mono ?_; rintro e w' ⟨rfl, rfl⟩) | (go_at_call 71; fail))
              refine (take_any (nA (k : Int)) _ hv5 (by omega) Q1).mono ?_
              rintro e w12 ⟨rfl, T2⟩
              have hb2 := tk_le (vs := vs) (b := (nA (k : Int))) (n := 100) hb1 (by omega)
              generalize hr2 : tk vs a1 (nA (k : Int)) = r2 at *
              obtain ⟨v2, a2⟩ := r2
              have HR2 := hideU hr2
              clear hr2 Q1
              simp only at T2 hb2
              have Q2 : IQ w w.heap.size B we.heap.size (we.heap.size + 1) ss cp vs ⟨k, v1, v2, 0, 0, 0⟩ a2 (w12.setCell ⟨we.heap.size, 2, none⟩ (.int .i64 v2)) := T2.puts 1 v2
              try clear x0 x1 x2 x3 x4 x5 xf xz
              obtain ⟨⟨x0, x1, x2, x3, x4, x5⟩, xf, xz⟩ := id T2.2.1
              clear T2
              by_cases h13 : k = 13
              · subst h13
                go_wp2_with (first | (go_at_call 71; fail))
                refine (take_any true _ hv5 (by omega) Q2).mono ?_
                rintro e w13 ⟨rfl, T3⟩
                have hb3 := tk_le (vs := vs) (b := true) (n := 101) hb2 (by omega)
                generalize hr3 : tk vs a2 true = r3 at *
                obtain ⟨v3, a3⟩ := r3
                have HR3 := hideU hr3
                clear hr3 Q2
                simp only at T3 hb3
                have Q3 : IQ w w.heap.size B we.heap.size (we.heap.size + 1) ss cp vs ⟨(13 : Nat), v1, v2, 0, v3, 0⟩ a3 (w13.setCell ⟨we.heap.size, 4, none⟩ (.int .i64 v3)) := T3.puts 7 v3
                try clear x0 x1 x2 x3 x4 x5 xf xz
                obtain ⟨⟨x0, x1, x2, x3, x4, x5⟩, xf, xz⟩ := id T3.2.1
                clear T3
                go_wp2_with (first | (go_at_call 52; refine (namesB_any _ _).mono ?_; rintro e w' ⟨rfl, rfl⟩) | (go_at_call 71; fail))
                refine (take_any (nB ((13 : Nat) : Int)) _ hv5 (by omega) Q3).mono ?_
                rintro e w14 ⟨rfl, T4⟩
                have hb4 := tk_le (vs := vs) (b := (nB ((13 : Nat) : Int))) (n := 102) hb3 (by omega)
                generalize hr4 : tk vs a3 (nB ((13 : Nat) : Int)) = r4 at *
                obtain ⟨v4, a4⟩ := r4
                have HR4 := hideU hr4
                clear hr4 Q3
                simp only at T4 hb4
                have Q4 : IQ w w.heap.size B we.heap.size (we.heap.size + 1) ss cp vs ⟨(13 : Nat), v1, v2, v4, v3, 0⟩ a4 (w14.setCell ⟨we.heap.size, 3, none⟩ (.int .i64 v4)) := T4.puts 2 v4
                try clear x0 x1 x2 x3 x4 x5 xf xz
                obtain ⟨⟨x0, x1, x2, x3, x4, x5⟩, xf, xz⟩ := id T4.2.1
                clear T4
                go_wp2_with (first | (go_at_call 40; refine (namesGoto_any _ _).mono ?_; rintro e w' ⟨rfl, rfl⟩) | (go_at_call 71; fail))
                refine (take_any (nG ((13 : Nat) : Int)) _ hv5 (by omega) Q4).mono ?_
                rintro e w15 ⟨rfl, T5⟩
                have hb5 := tk_le (vs := vs) (b := (nG ((13 : Nat) : Int))) (n := 103) hb4 (by omega)
                generalize hr5 : tk vs a4 (nG ((13 : Nat) : Int)) = r5 at *
                obtain ⟨v5, a5⟩ := r5
                have HR5 := hideU hr5
                clear hr5 Q4
                simp only at T5 hb5
                have Q5 : IQ w w.heap.size B we.heap.size (we.heap.size + 1) ss cp vs ⟨(13 : Nat), v1, v2, v4, v3, v5⟩ a5 (w15.setCell ⟨we.heap.size, 5, none⟩ (.int .i64 v5)) := T5.puts 3 v5
                try clear x0 x1 x2 x3 x4 x5 xf xz
                obtain ⟨⟨x0, x1, x2, x3, x4, x5⟩, xf, xz⟩ := id T5.2.1
                clear T5
                have HRP : Hid (rp 13 vs = (⟨(13 : Nat), v1, v2, v4, v3, v5⟩, a5)) := by
                  show _ = _
                  unfold rp
                  simp only [HR1.out, HR2.out, HR3.out, HR4.out, HR5.out, if_true]
                have Qz := Q5.drew
                have HIv : ∃ iv : Ins, Hid (iv = ⟨(13 : Nat), v1, v2, v4, v3, v5⟩) := ⟨_, rfl⟩
                obtain ⟨iv, HIv⟩ := HIv
                rw [← HIv.out] at Qz
                clear Q5
                go_wp2
                clear x0 x1 x2 x3 x4 x5 xf xz
                have KS : ∀ wx, IQ w w.heap.size B we.heap.size (we.heap.size + 1) ss cp vs iv a5 wx → regI we.heap.size (we.heap.size + 1) B ss cp vs.length iv a5 wx := fun wx q => ⟨q.2.1.1, q.2.2.1.1, q.2.2.2.1⟩
                refine wp_region_held_drew (S := regI we.heap.size (we.heap.size + 1) B ss cp vs.length iv a5) (by kernel_rfl) (KS _ Qz) (fun hHeld => ?_)
                generalize (w15.setCell ⟨we.heap.size, 5, none⟩ (.int .i64 v5)).drew = wd at *
                obtain ⟨zR, zB, zX, zA, zz⟩ := Qz.2.2.2.2.2.2.1
                have RO : ∀ (wx : World) (o : Nat) (u : Value), regI we.heap.size (we.heap.size + 1) B ss cp vs.length iv a5 wx → regI we.heap.size (we.heap.size + 1) B ss cp vs.length iv a5 (wx.setCell ⟨w.heap.size, o, none⟩ u) := fun wx o u h => h.other (by omega) (by omega) (by omega)
                have KP := fun (_ : True) => RO _ 5 (.int .i64 iv.g) (RO _ 4 (.int .i64 iv.n) (RO _ 3 (.int .i64 iv.b) (RO _ 2 (.int .i64 iv.a) (RO _ 1 (.int .i64 iv.to) (RO _ 0 (.int .i64 iv.k) (KS wd Qz))))))
                have HBz := below6 (R := w.heap.size) (v0 := .int .i64 iv.k) (v1 := .int .i64 iv.to) (v2 := .int .i64 iv.a) (v3 := .int .i64 iv.b) (v4 := .int .i64 iv.n) (v5 := .int .i64 iv.g) Qz.2.2.2.2.2.1 zR
                obtain ⟨⟨r0, r1, r2, r3, r4, r5⟩, rf, rz⟩ := Qz.1
                simp only [zeroI] at r0 r1 r2 r3 r4 r5
                clear Qz RO
                unfold regI at hHeld KP ⊢
                clear KS
                refine wpAnyH_take (i := 0) (v := ?_) rfl (by kernel_rfl) (by kernel_rfl) (by kernel_rfl) (fun _ _ _ h => h) (Or.inl ⟨?_, ?_⟩) (by assumption) ?_
                rotate_left
                · rfl
                · (intro w hSw; (try dsimp only at hSw); first | (go_simp; done) | (go_simp; with_reducible rfl))
                (try simp only [Act.put, List.getElem_toArray, List.getElem_cons_zero, List.getElem_cons_succ, List.setIfInBounds_toArray, List.set_cons_zero, List.set_cons_succ])
                refine wpAnyH_take (i := 1) (v := ?_) rfl (by kernel_rfl) (by kernel_rfl) (by kernel_rfl) (fun _ _ _ h => h) (Or.inl ⟨?_, ?_⟩) (by assumption) ?_
                rotate_left
                · rfl
                · (intro w hSw; (try dsimp only at hSw); first | (go_simp; done) | (go_simp; with_reducible rfl))
                (try simp only [Act.put, List.getElem_toArray, List.getElem_cons_zero, List.getElem_cons_succ, List.setIfInBounds_toArray, List.set_cons_zero, List.set_cons_succ])
                refine wpAnyH_take (i := 2) (v := ?_) rfl (by kernel_rfl) (by kernel_rfl) (by kernel_rfl) (fun _ _ _ h => h) (Or.inl ⟨?_, ?_⟩) (by assumption) ?_
                rotate_left
                · rfl
                · (intro w hSw; (try dsimp only at hSw); first | (go_simp; done) | (go_simp; with_reducible rfl))
                (try simp only [Act.put, List.getElem_toArray, List.getElem_cons_zero, List.getElem_cons_succ, List.setIfInBounds_toArray, List.set_cons_zero, List.set_cons_succ])
                refine wpAnyH_take (i := 3) (v := ?_) rfl (by kernel_rfl) (by kernel_rfl) (by kernel_rfl) (fun _ _ _ h => h) (Or.inl ⟨?_, ?_⟩) (by assumption) ?_
                rotate_left
                · rfl
                · (intro w hSw; (try dsimp only at hSw); first | (go_simp; done) | (go_simp; with_reducible rfl))
                (try simp only [Act.put, List.getElem_toArray, List.getElem_cons_zero, List.getElem_cons_succ, List.setIfInBounds_toArray, List.set_cons_zero, List.set_cons_succ])
                refine wpAnyH_take (i := 4) (v := ?_) rfl (by kernel_rfl) (by kernel_rfl) (by kernel_rfl) (fun _ _ _ h => h) (Or.inl ⟨?_, ?_⟩) (by assumption) ?_
                rotate_left
                · rfl
                · (intro w hSw; (try dsimp only at hSw); first | (go_simp; done) | (go_simp; with_reducible rfl))
                (try simp only [Act.put, List.getElem_toArray, List.getElem_cons_zero, List.getElem_cons_succ, List.setIfInBounds_toArray, List.set_cons_zero, List.set_cons_succ])
                refine wpAnyH_ready (rs := [5]) (by kernel_rfl) (by simp) ?_
                refine AllReadyH.cons rfl (fun K hK => ?_) AllReadyH.nil
                go_simp
                refine hK.out _ _ (KP trivial) (fun hHeldz => ?_)
                clear KP
                clear hK K
                (try simp only [Act.put, List.getElem_toArray, List.getElem_cons_zero, List.getElem_cons_succ, List.setIfInBounds_toArray, List.set_cons_zero, List.set_cons_succ])
                refine wpAnyH_take (i := 6) (v := ?_) rfl (by kernel_rfl) (by kernel_rfl) (by kernel_rfl) (fun _ _ _ h => h) (Or.inl ⟨?_, ?_⟩) (by assumption) ?_
                rotate_left
                · rfl
                · (intro w hSw; (try dsimp only at hSw); first | (go_simp; done) | (go_simp; with_reducible rfl))
                (try simp only [Act.put, List.getElem_toArray, List.getElem_cons_zero, List.getElem_cons_succ, List.setIfInBounds_toArray, List.set_cons_zero, List.set_cons_succ])
                refine wpAnyH_done (by kernel_rfl) ?_ _
                go_wp2
                refine bodyPost_ret (v := .tuple #[insV iv, .bool ((a5 : Int) == (vs.length : Int))]) (by simp [results, Tryd.results46, go_sem, insV, r0, r1, r2, r3, r4, r5, hvl]) rfl ⟨?_, HBz⟩
                exact HEND.out iv a5 (by rw [HIv.out]; exact HRP.out.symm)
              · have e13 : ((k : Int) == 13) = false := by simp; omega
                have e14 : ((k : Int) != 13) = true := by simp; omega
                go_wp2_with (first | (go_at_call 52; refine (namesB_any _ _).mono ?_; rintro e w' ⟨rfl, rfl⟩) | (go_at_call 71; fail))
                refine (take_any (nB (k : Int)) _ hv5 (by omega) Q2).mono ?_
                rintro e w13 ⟨rfl, T3⟩
                have hb3 := tk_le (vs := vs) (b := (nB (k : Int))) (n := 101) hb2 (by omega)
                generalize hr3 : tk vs a2 (nB (k : Int)) = r3 at *
                obtain ⟨v3, a3⟩ := r3
                have HR3 := hideU hr3
                clear hr3 Q2
                simp only at T3 hb3
                have Q3 : IQ w w.heap.size B we.heap.size (we.heap.size + 1) ss cp vs ⟨k, v1, v2, v3, 0, 0⟩ a3 (w13.setCell ⟨we.heap.size, 3, none⟩ (.int .i64 v3)) := T3.puts 2 v3
                try clear x0 x1 x2 x3 x4 x5 xf xz
                obtain ⟨⟨x0, x1, x2, x3, x4, x5⟩, xf, xz⟩ := id T3.2.1
                clear T3
                go_wp2_with (first | (go_at_call 66; refine (namesN_any _ _).mono ?_; rintro e w' ⟨rfl, rfl⟩) | (go_at_call 71; fail))
                refine (take_any (nN (k : Int)) _ hv5 (by omega) Q3).mono ?_
                rintro e w14 ⟨rfl, T4⟩
                have hb4 := tk_le (vs := vs) (b := (nN (k : Int))) (n := 102) hb3 (by omega)
                generalize hr4 : tk vs a3 (nN (k : Int)) = r4 at *
                obtain ⟨v4, a4⟩ := r4
                have HR4 := hideU hr4
                clear hr4 Q3
                simp only at T4 hb4
                have Q4 : IQ w w.heap.size B we.heap.size (we.heap.size + 1) ss cp vs ⟨k, v1, v2, v3, v4, 0⟩ a4 (w14.setCell ⟨we.heap.size, 4, none⟩ (.int .i64 v4)) := T4.puts 4 v4
                try clear x0 x1 x2 x3 x4 x5 xf xz
                obtain ⟨⟨x0, x1, x2, x3, x4, x5⟩, xf, xz⟩ := id T4.2.1
                clear T4
                go_wp2_with (first | (go_at_call 40; refine (namesGoto_any _ _).mono ?_; rintro e w' ⟨rfl, rfl⟩) | (go_at_call 71; fail))
                refine (take_any (nG (k : Int)) _ hv5 (by omega) Q4).mono ?_
                rintro e w15 ⟨rfl, T5⟩
                have hb5 := tk_le (vs := vs) (b := (nG (k : Int))) (n := 103) hb4 (by omega)
                generalize hr5 : tk vs a4 (nG (k : Int)) = r5 at *
                obtain ⟨v5, a5⟩ := r5
                have HR5 := hideU hr5
                clear hr5 Q4
                simp only at T5 hb5
                have Q5 : IQ w w.heap.size B we.heap.size (we.heap.size + 1) ss cp vs ⟨k, v1, v2, v3, v4, v5⟩ a5 (w15.setCell ⟨we.heap.size, 5, none⟩ (.int .i64 v5)) := T5.puts 3 v5
                try clear x0 x1 x2 x3 x4 x5 xf xz
                obtain ⟨⟨x0, x1, x2, x3, x4, x5⟩, xf, xz⟩ := id T5.2.1
                clear T5
                have HRP : Hid (rp k vs = (⟨k, v1, v2, v3, v4, v5⟩, a5)) := by
                  show _ = _
                  unfold rp
                  simp only [HR1.out, HR2.out, HR3.out, HR4.out, HR5.out, if_neg h13]
                have Qz := Q5.drew
                have HIv : ∃ iv : Ins, Hid (iv = ⟨k, v1, v2, v3, v4, v5⟩) := ⟨_, rfl⟩
                obtain ⟨iv, HIv⟩ := HIv
                rw [← HIv.out] at Qz
                clear Q5
                go_wp2
                clear x0 x1 x2 x3 x4 x5 xf xz
                have KS : ∀ wx, IQ w w.heap.size B we.heap.size (we.heap.size + 1) ss cp vs iv a5 wx → regI we.heap.size (we.heap.size + 1) B ss cp vs.length iv a5 wx := fun wx q => ⟨q.2.1.1, q.2.2.1.1, q.2.2.2.1⟩
                refine wp_region_held_drew (S := regI we.heap.size (we.heap.size + 1) B ss cp vs.length iv a5) (by kernel_rfl) (KS _ Qz) (fun hHeld => ?_)
                generalize (w15.setCell ⟨we.heap.size, 5, none⟩ (.int .i64 v5)).drew = wd at *
                obtain ⟨zR, zB, zX, zA, zz⟩ := Qz.2.2.2.2.2.2.1
                have RO : ∀ (wx : World) (o : Nat) (u : Value), regI we.heap.size (we.heap.size + 1) B ss cp vs.length iv a5 wx → regI we.heap.size (we.heap.size + 1) B ss cp vs.length iv a5 (wx.setCell ⟨w.heap.size, o, none⟩ u) := fun wx o u h => h.other (by omega) (by omega) (by omega)
                have KP := fun (_ : True) => RO _ 5 (.int .i64 iv.g) (RO _ 4 (.int .i64 iv.n) (RO _ 3 (.int .i64 iv.b) (RO _ 2 (.int .i64 iv.a) (RO _ 1 (.int .i64 iv.to) (RO _ 0 (.int .i64 iv.k) (KS wd Qz))))))
                have HBz := below6 (R := w.heap.size) (v0 := .int .i64 iv.k) (v1 := .int .i64 iv.to) (v2 := .int .i64 iv.a) (v3 := .int .i64 iv.b) (v4 := .int .i64 iv.n) (v5 := .int .i64 iv.g) Qz.2.2.2.2.2.1 zR
                obtain ⟨⟨r0, r1, r2, r3, r4, r5⟩, rf, rz⟩ := Qz.1
                simp only [zeroI] at r0 r1 r2 r3 r4 r5
                clear Qz RO
                unfold regI at hHeld KP ⊢
                clear KS
                refine wpAnyH_take (i := 0) (v := ?_) rfl (by kernel_rfl) (by kernel_rfl) (by kernel_rfl) (fun _ _ _ h => h) (Or.inl ⟨?_, ?_⟩) (by assumption) ?_
                rotate_left
                · rfl
                · (intro w hSw; (try dsimp only at hSw); first | (go_simp; done) | (go_simp; with_reducible rfl))
                (try simp only [Act.put, List.getElem_toArray, List.getElem_cons_zero, List.getElem_cons_succ, List.setIfInBounds_toArray, List.set_cons_zero, List.set_cons_succ])
                refine wpAnyH_take (i := 1) (v := ?_) rfl (by kernel_rfl) (by kernel_rfl) (by kernel_rfl) (fun _ _ _ h => h) (Or.inl ⟨?_, ?_⟩) (by assumption) ?_
                rotate_left
                · rfl
                · (intro w hSw; (try dsimp only at hSw); first | (go_simp; done) | (go_simp; with_reducible rfl))
                (try simp only [Act.put, List.getElem_toArray, List.getElem_cons_zero, List.getElem_cons_succ, List.setIfInBounds_toArray, List.set_cons_zero, List.set_cons_succ])
                refine wpAnyH_take (i := 2) (v := ?_) rfl (by kernel_rfl) (by kernel_rfl) (by kernel_rfl) (fun _ _ _ h => h) (Or.inl ⟨?_, ?_⟩) (by assumption) ?_
                rotate_left
                · rfl
                · (intro w hSw; (try dsimp only at hSw); first | (go_simp; done) | (go_simp; with_reducible rfl))
                (try simp only [Act.put, List.getElem_toArray, List.getElem_cons_zero, List.getElem_cons_succ, List.setIfInBounds_toArray, List.set_cons_zero, List.set_cons_succ])
                refine wpAnyH_take (i := 3) (v := ?_) rfl (by kernel_rfl) (by kernel_rfl) (by kernel_rfl) (fun _ _ _ h => h) (Or.inl ⟨?_, ?_⟩) (by assumption) ?_
                rotate_left
                · rfl
                · (intro w hSw; (try dsimp only at hSw); first | (go_simp; done) | (go_simp; with_reducible rfl))
                (try simp only [Act.put, List.getElem_toArray, List.getElem_cons_zero, List.getElem_cons_succ, List.setIfInBounds_toArray, List.set_cons_zero, List.set_cons_succ])
                refine wpAnyH_take (i := 4) (v := ?_) rfl (by kernel_rfl) (by kernel_rfl) (by kernel_rfl) (fun _ _ _ h => h) (Or.inl ⟨?_, ?_⟩) (by assumption) ?_
                rotate_left
                · rfl
                · (intro w hSw; (try dsimp only at hSw); first | (go_simp; done) | (go_simp; with_reducible rfl))
                (try simp only [Act.put, List.getElem_toArray, List.getElem_cons_zero, List.getElem_cons_succ, List.setIfInBounds_toArray, List.set_cons_zero, List.set_cons_succ])
                refine wpAnyH_ready (rs := [5]) (by kernel_rfl) (by simp) ?_
                refine AllReadyH.cons rfl (fun K hK => ?_) AllReadyH.nil
                go_simp
                refine hK.out _ _ (KP trivial) (fun hHeldz => ?_)
                clear KP
                clear hK K
                (try simp only [Act.put, List.getElem_toArray, List.getElem_cons_zero, List.getElem_cons_succ, List.setIfInBounds_toArray, List.set_cons_zero, List.set_cons_succ])
                refine wpAnyH_take (i := 6) (v := ?_) rfl (by kernel_rfl) (by kernel_rfl) (by kernel_rfl) (fun _ _ _ h => h) (Or.inl ⟨?_, ?_⟩) (by assumption) ?_
                rotate_left
                · rfl
                · (intro w hSw; (try dsimp only at hSw); first | (go_simp; done) | (go_simp; with_reducible rfl))
                (try simp only [Act.put, List.getElem_toArray, List.getElem_cons_zero, List.getElem_cons_succ, List.setIfInBounds_toArray, List.set_cons_zero, List.set_cons_succ])
                refine wpAnyH_done (by kernel_rfl) ?_ _
                go_wp2
                refine bodyPost_ret (v := .tuple #[insV iv, .bool ((a5 : Int) == (vs.length : Int))]) (by simp [results, Tryd.results46, go_sem, insV, r0, r1, r2, r3, r4, r5, hvl]) rfl ⟨?_, HBz⟩
                exact HEND.out iv a5 (by rw [HIv.out]; exact HRP.out.symm)
            · have hx3 : ((wordB k).toList == x.toList) = false := by
                rw [beq_eq_false_iff_ne, ByteArray.toList_eq, ByteArray.toList_eq]; exact hw
              have hx4 : ((wordB k).toList != x.toList) = true := by rw [bne, hx3]; rfl
              have HW2 : Hid (∀ j : Nat, 1 ≤ j → j < k + 1 → (wordB j).data.toList ≠ x.data.toList) := by
                intro j h1 h2
                by_cases hj : j = k
                · rw [hj]; exact hw
                · exact HW.out j h1 (by omega)
              clear HW hw
              refine wpAnyH_take (i := 5) (v := ?_) rfl (by kernel_rfl) (by kernel_rfl) (by kernel_rfl) (fun _ _ _ h => h) (Or.inl ⟨?_, ?_⟩) (by assumption) ?_
              rotate_left
              · rfl
              · (intro w hSw; (try dsimp only at hSw); first | (go_simp; done) | (go_simp; with_reducible rfl))
              (try simp only [Act.put, List.getElem_toArray, List.getElem_cons_zero, List.getElem_cons_succ, List.setIfInBounds_toArray, List.set_cons_zero, List.set_cons_succ])
              refine wpAnyH_done (by kernel_rfl) ?_ _
              go_wp2
              go_roundw
              case rel => exact ⟨k + 1, by omega, by omega, by go_num, HW2, hbf⟩
              case measure => simp [intOf]; omega
end Go.Proofs.YtmapdpcfanecdaaDoor
