/- Walks over package code: a text all of whose lines are right, and one that has a wrong line. -/
import Derived.Test.YtmapdpcfanecdaaDoorKlawpbp45
namespace Go.Proofs.YtmapdpcfanecdaaDoor
set_option linter.unusedVariables false
set_option linter.unusedSimpArgs false
open Go.RowKit

set_option maxHeartbeats 1000000 in
set_option maxRecDepth 20000 in
theorem parseLines_good (n : Nat) (hn : n ≤ 4001) (s H : ByteArray) (V F : Int) (T L : Nat → ByteArray) (I : Nat → Ins) (w : World) (ht : Tab w) (hm : Cap w) (hEr : ErrS w) (hs : s.size < 5000) (hT : ∀ k, (T k).size < 5000)
    (hcH : Lib.cut s.data.toList [10] = (H.data.toList, (T 0).data.toList, true))
    (hH : ∀ w, Tab w → Cap w → ErrS w → Calls Tryd.prog 69 #[.string H] w fun e w' => e = .returned (.tuple #[.agg #[.int .i64 V, .int .i64 F, .slice none 0 0], .bool true]) ∧ Below w.heap.size w w')
    (hc : ∀ k, k < n → Lib.cut (T k).data.toList [10] = ((L k).data.toList, (T (k + 1)).data.toList, true)) (h0 : ∀ k, k < n → (T k) ≠ ⟨#[]⟩) (hE : T n = ⟨#[]⟩)
    (hI : ∀ k, k < n → ∀ N w, ShpAt N shps w → Tab w → Cap w → ErrS w → Calls Tryd.prog 70 #[.map (some N), .string (L k)] w fun e w' => e = .returned (.tuple #[.agg #[.int .i64 (I k).k, .int .i64 (I k).to, .int .i64 (I k).a, .int .i64 (I k).b, .int .i64 (I k).n, .int .i64 (I k).g], .bool true]) ∧ Below w.heap.size w w') :
    Calls Tryd.prog 43 #[.string s] w fun e w' => ∃ v, e = .returned (.tuple #[.agg #[.int .i64 V, .int .i64 F, v], .int .i64 0]) ∧ w'.ownsRow w.heap.size 71 6 v n (flat ((List.range n).map I)) ∧ Below w.heap.size w w' := by
  obtain ⟨ti, hi, hz0, hz1, hz2⟩ := info_parts info_ins
  have hb0 : Below w.heap.size w (w.alloc (.cells #[.int .i64 0, .int .i64 0, .slice none 0 0] 24)) := by go_grown
  go_enter Tryd.func43, Tryd.ntmps43
  go_wp2_with (go_at_call 68; fail)
  refine (cut_line s H (T 0) _ (hm.below hb0) (by omega) hcH).mono ?_
  rintro e w1 ⟨rfl, hb1⟩
  have H1 : Below w.heap.size w w1 := hb0.trans (hb1.mono (by go_size))
  go_wp2_with (go_at_call 69; fail)
  refine (hH _ (ht.below H1) (hm.below H1) (hEr.below H1)).mono ?_
  rintro e w2 ⟨rfl, hb2⟩
  have H2 : Below w.heap.size w w2 := H1.trans (hb2.mono H1.size)
  have r2 : w2.heap[w.heap.size]? = some (.cells #[.int .i64 0, .int .i64 0, .slice none 0 0] 24 (0, 0)) := by
    have s1 := hb1.size
    rw [hb2.block _ (by simp at s1; omega), hb1.block _ (by simp)]
    exact (MapKept.heap_alloc _ _).1
  have z2 : w.heap.size < w2.heap.size := (Array.getElem?_eq_some_iff.1 r2).1
  go_wp2_with (go_at_call 29; fail)
  refine (shapes_any _).mono ?_
  rintro e w3 ⟨rfl, hsh, hb3⟩
  have q3 : PrgAt w3 w2.heap.size V F (.slice none 0 0) := by
    have hb := hb3.block w2.heap.size (by simp)
    refine PrgAt.block ⟨?_, ?_, ?_, fun j => ?_⟩ hb <;> simp [go_sem]
  have s3 : w2.heap.size < w3.heap.size := by have := hb3.size; simp at this; omega
  have H3 : Below w2.heap.size w2 w3 := (Below.alloc (Below.refl _ w2) (Nat.le_refl _) _).trans (hb3.mono (by simp))
  simp at hsh
  clear hb1 hb2
  go_wp2
  go_loopw [0, 9] (fun t l wr => ∃ k v, k ≤ n ∧ t = .string (T k) ∧ l = .int .i64 ((k : Int) + 2) ∧ PrgAt wr w2.heap.size V F v ∧ wr.ownsRow w3.heap.size 71 6 v k (flat ((List.range k).map I)) ∧ Below w2.heap.size w2 wr ∧ w3.heap.size ≤ wr.heap.size ∧ ∀ j, j < w3.heap.size → j ≠ w2.heap.size → wr.heap[j]? = w3.heap[j]?) (fun _ l _ => n + 2 - (intOf l).toNat)
  case atStart => exact ⟨0, _, Nat.zero_le _, rfl, rfl, q3, World.ownsRow_nil _ _ _ _, H3, Nat.le_refl _, fun _ _ _ => rfl⟩
  case round =>
    obtain ⟨k, v, hk, rfl, rfl, hp, hown, hbr, hsz, hsame⟩ := hrel
    obtain ⟨sl, cap, rfl, hcode⟩ : ∃ sl cap, v = .slice sl k cap ∧ CodeAt wr sl ((List.range k).map I) := by
      have := codeAt_own (c := (List.range k).map I) (by simpa using hown)
      simpa using this
    obtain ⟨p0, p1, p2, pf⟩ := hp
    have hBr : w2.heap.size < wr.heap.size := by omega
    have HR : Below w.heap.size w wr := H2.trans (hbr.mono (by omega))
    by_cases hlt : k < n
    · have hne : (T k).toList.isEmpty = false := by
        rw [ByteArray.toList_eq, List.isEmpty_eq_false_iff]
        intro e
        exact h0 k hlt (ByteArray.ext (by simpa using e))
      have n0 : (k : Int) + 2 < 5000 := by omega
      have hcut := cut_line (T k) (L k) (T (k + 1)) wr (hm.below HR) (by have := hT k; omega) (hc k hlt)
      go_wp2_with (go_at_call 68; fail)
      refine hcut.mono ?_
      rintro e w4 ⟨rfl, hb4⟩
      have H4 : Below w.heap.size w w4 := HR.trans (hb4.mono HR.size)
      have hs4 : ShpAt (w2.heap.size + 1) shps w4 := hsh.of_blocks (fun j hj hj' => by rw [hb4.block j (by omega)]; exact hsame j hj' (by omega))
      go_wp2_with (go_at_call 70; fail)
      refine (hI k hlt _ w4 hs4 (ht.below H4) (hm.below H4) (hEr.below H4)).mono ?_
      rintro e w5 ⟨rfl, hb5⟩
      have B5 : ∀ j, j < wr.heap.size → w5.heap[j]? = wr.heap[j]? := fun j hj => by rw [hb5.block j (by have := hb4.size; omega), hb4.block j hj]
      have S5 : wr.heap.size ≤ w5.heap.size := Nat.le_trans hb4.size hb5.size
      obtain ⟨P0, P1, P2, Pf⟩ : PrgAt w5 w2.heap.size V F (.slice sl k cap) := PrgAt.block ⟨p0, p1, p2, pf⟩ (B5 _ hBr)
      have hB5 : w2.heap.size < w5.heap.size := by omega
      have hown5 := ownsRow_of_block hown (fun j hj => B5 j (ownsRow_block_lt hown hj).1)
      clear hcut hs4 hsh
      have hnews : ∀ j u, (insCells (I k))[j]? = some u → ((w5.alloc (.cells #[.int .i64 (I k).k, .int .i64 (I k).to, .int .i64 (I k).a, .int .i64 (I k).b, .int .i64 (I k).n, .int .i64 (I k).g] 71)).alloc (.cells #[.int .i64 (I k).k, .int .i64 (I k).to, .int .i64 (I k).a, .int .i64 (I k).b, .int .i64 (I k).n, .int .i64 (I k).g] 71)).cell? ((⟨w5.heap.size + 1, 0, none⟩ : Addr).add j) = some u := by
        have := cells_new (w5.alloc (.cells #[.int .i64 (I k).k, .int .i64 (I k).to, .int .i64 (I k).a, .int .i64 (I k).b, .int .i64 (I k).n, .int .i64 (I k).g] 71)) (insCells (I k)) 71
        intro j u hj
        have h := this j u hj
        simp only [World.size_alloc] at h
        exact h
      have hG : ∀ w6, ((w5.alloc (.cells #[.int .i64 (I k).k, .int .i64 (I k).to, .int .i64 (I k).a, .int .i64 (I k).b, .int .i64 (I k).n, .int .i64 (I k).g] 71)).alloc (.cells #[.int .i64 (I k).k, .int .i64 (I k).to, .int .i64 (I k).a, .int .i64 (I k).b, .int .i64 (I k).n, .int .i64 (I k).g] 71)).grownBy w6 (Value.slice sl k cap).ownBlock → w6.heap[w2.heap.size]? = w5.heap[w2.heap.size]? := fun w6 hgrow => by
        rw [hgrow.block _ (by simp; omega) (fun e => by have := ownsRow_low hown5 e.symm; omega), Below.heap_alloc _ _ _ (by simp; omega), Below.heap_alloc _ _ _ (by omega)]
      have hH6 : ∀ w6, ((w5.alloc (.cells #[.int .i64 (I k).k, .int .i64 (I k).to, .int .i64 (I k).a, .int .i64 (I k).b, .int .i64 (I k).n, .int .i64 (I k).g] 71)).alloc (.cells #[.int .i64 (I k).k, .int .i64 (I k).to, .int .i64 (I k).a, .int .i64 (I k).b, .int .i64 (I k).n, .int .i64 (I k).g] 71)).grownBy w6 (Value.slice sl k cap).ownBlock → Below w2.heap.size w2 w6 := fun w6 hgrow =>
        ((((hbr.trans (hb4.mono (by omega))).trans (hb5.mono (by have := hb4.size; omega))).alloc (by omega) _).alloc (by simp; omega) _).grown hgrow (by simp; omega) (fun j hj => by have := ownsRow_low hown5 hj; omega)
      have hflat : flat ((List.range (k + 1)).map I) = flat ((List.range k).map I) ++ insCells (I k) := by
        rw [List.range_succ, List.map_append, flat, List.flatMap_append]; simp [flat]
      have hone : ∀ u ∈ insCells (I k), u.oneCell' = true := by simp [insCells, Value.oneCell']
      have hba : w3.heap.size ≤ ((w5.alloc (.cells #[.int .i64 (I k).k, .int .i64 (I k).to, .int .i64 (I k).a, .int .i64 (I k).b, .int .i64 (I k).n, .int .i64 (I k).g] 71)).alloc (.cells #[.int .i64 (I k).k, .int .i64 (I k).to, .int .i64 (I k).a, .int .i64 (I k).b, .int .i64 (I k).n, .int .i64 (I k).g] 71)).heap.size := by simp; omega
      go_wp2_with (at_builtin; refine wpList_append_own _ rfl _ _ 22 rfl w3.heap.size 71 ti (.agg #[.int .i64 0, .int .i64 0, .int .i64 0, .int .i64 0, .int .i64 0, .int .i64 0]) 6 48 Tryd.underlying22 hi hz0 hz1 hz2 rfl (by decide) _ _ _ rfl ((hown5.alloc _).alloc _) ⟨w5.heap.size + 1, 0, none⟩ 1 1 (insCells (I k)) rfl rfl hnews hone (by unfold maxLen; omega) (by omega) hba ?_; intro v' w6 hown' hgrow hnil; obtain ⟨g, cap', rfl, hg, hlt'⟩ := hown'.form (Nat.succ_pos _); obtain ⟨Q0, Q1, Q2, Qf⟩ : PrgAt w6 w2.heap.size V F (.slice sl k cap) := PrgAt.block ⟨P0, P1, P2, Pf⟩ (hG w6 hgrow))
      go_roundw
      case rel =>
        refine ⟨k + 1, _, hlt, rfl, by go_num, PrgAt.set ⟨Q0, Q1, Q2, Qf⟩ _, ownsRow_setCell_below ?_ s3 _, ?_, ?_, ?_⟩
        · rw [hflat]; exact hown'
        · exact (hH6 w6 hgrow).setCell (Nat.le_refl _) _
        · have := hgrow.size; simp at this ⊢; omega
        · intro j hj hj'
          rw [Below.heap_setCell _ _ _ _ hj', hgrow.block j (by simp; omega) (fun e => by have := ownsRow_low hown5 e.symm; omega), Below.heap_alloc _ _ _ (by simp; omega), Below.heap_alloc _ _ _ (by omega), B5 j (by omega)]
          exact hsame j hj hj'
      case measure => simp [intOf]; omega
    · have hk' : k = n := by omega
      subst hk'
      have rb : wr.heap[w.heap.size]? = some (.cells #[.int .i64 0, .int .i64 0, .slice none 0 0] 24 (0, 0)) := by rw [hbr.block _ z2]; exact r2
      have rc : ∀ j, wr.cell? ⟨w.heap.size, j, none⟩ = (#[.int .i64 0, .int .i64 0, .slice none 0 0] : Array Value)[j]? := fun j => by simp [World.cell?, rb]
      have rf : ∀ j, wr.frozen? ⟨w.heap.size, j, none⟩ = false := fun j => by simp [World.frozen?, rb]
      have r0 : wr.cell? ⟨w.heap.size, 0, none⟩ = some (.int .i64 0) := rc 0
      have r1 : wr.cell? ⟨w.heap.size, 1, none⟩ = some (.int .i64 0) := rc 1
      have r3 : wr.cell? ⟨w.heap.size, 2, none⟩ = some (.slice none 0 0) := rc 2
      have hne : (T k).toList.isEmpty = true := by rw [hE, ByteArray.toList_eq]; rfl
      have zr : w.heap.size < wr.heap.size := by omega
      clear rb rc
      go_wp2
      refine bodyPost_ret (v := .tuple #[.agg #[.int .i64 V, .int .i64 F, .slice sl k cap], .int .i64 0]) (by simp [results, Tryd.results43, go_sem, r0, r1, r3]) rfl ⟨.slice sl k cap, rfl, ?_, ?_⟩
      · have hz : w.heap.size < w3.heap.size := by omega
        exact ownsRow_lower (ownsRow_setCell_below (a := ⟨w.heap.size, 2, none⟩) (ownsRow_setCell_below (a := ⟨w.heap.size, 1, none⟩) (ownsRow_setCell_below (a := ⟨w.heap.size, 0, none⟩) hown hz (.int .i64 V)) hz (.int .i64 F)) hz (.slice sl k cap)) (Nat.le_of_lt hz)
      · exact ((HR.setCell (Nat.le_refl _) _).setCell (Nat.le_refl _) _).setCell (Nat.le_refl _) _

set_option maxHeartbeats 1000000 in
set_option maxRecDepth 20000 in
theorem parseLines_bad (n : Nat) (hn : n ≤ 4001) (s H : ByteArray) (V F : Int) (T L : Nat → ByteArray) (I : Nat → Ins) (w : World) (ht : Tab w) (hm : Cap w) (hEr : ErrS w) (hs : s.size < 5000) (hT : ∀ k, (T k).size < 5000)
    (hcH : Lib.cut s.data.toList [10] = (H.data.toList, (T 0).data.toList, true))
    (hH : ∀ w, Tab w → Cap w → ErrS w → Calls Tryd.prog 69 #[.string H] w fun e w' => e = .returned (.tuple #[.agg #[.int .i64 V, .int .i64 F, .slice none 0 0], .bool true]) ∧ Below w.heap.size w w')
    (hc : ∀ k, k < n → Lib.cut (T k).data.toList [10] = ((L k).data.toList, (T (k + 1)).data.toList, true)) (h0 : ∀ k, k < n → (T k) ≠ ⟨#[]⟩) (hne0 : T n ≠ ⟨#[]⟩) (X Y : ByteArray) (en : Bool) (hX : X.size ≤ 4000) (hcX : Lib.cut (T n).data.toList [10] = (X.data.toList, Y.data.toList, en)) (hbad : (en && (insOf X.data.toList).isSome) = false)
    (hI : ∀ k, k < n → ∀ N w, ShpAt N shps w → Tab w → Cap w → ErrS w → Calls Tryd.prog 70 #[.map (some N), .string (L k)] w fun e w' => e = .returned (.tuple #[.agg #[.int .i64 (I k).k, .int .i64 (I k).to, .int .i64 (I k).a, .int .i64 (I k).b, .int .i64 (I k).n, .int .i64 (I k).g], .bool true]) ∧ Below w.heap.size w w') :
    Calls Tryd.prog 43 #[.string s] w fun e w' => ∃ V F v, e = .returned (.tuple #[.agg #[.int .i64 V, .int .i64 F, v], .int .i64 ((n : Int) + 2)]) ∧ (∃ a l c, v = .slice a l c) ∧ Below w.heap.size w w' := by
  obtain ⟨ti, hi, hz0, hz1, hz2⟩ := info_parts info_ins
  have hb0 : Below w.heap.size w (w.alloc (.cells #[.int .i64 0, .int .i64 0, .slice none 0 0] 24)) := by go_grown
  go_enter Tryd.func43, Tryd.ntmps43
  go_wp2_with (go_at_call 68; fail)
  refine (cut_line s H (T 0) _ (hm.below hb0) (by omega) hcH).mono ?_
  rintro e w1 ⟨rfl, hb1⟩
  have H1 : Below w.heap.size w w1 := hb0.trans (hb1.mono (by go_size))
  go_wp2_with (go_at_call 69; fail)
  refine (hH _ (ht.below H1) (hm.below H1) (hEr.below H1)).mono ?_
  rintro e w2 ⟨rfl, hb2⟩
  have H2 : Below w.heap.size w w2 := H1.trans (hb2.mono H1.size)
  have r2 : w2.heap[w.heap.size]? = some (.cells #[.int .i64 0, .int .i64 0, .slice none 0 0] 24 (0, 0)) := by
    have s1 := hb1.size
    rw [hb2.block _ (by simp at s1; omega), hb1.block _ (by simp)]
    exact (MapKept.heap_alloc _ _).1
  have z2 : w.heap.size < w2.heap.size := (Array.getElem?_eq_some_iff.1 r2).1
  go_wp2_with (go_at_call 29; fail)
  refine (shapes_any _).mono ?_
  rintro e w3 ⟨rfl, hsh, hb3⟩
  have q3 : PrgAt w3 w2.heap.size V F (.slice none 0 0) := by
    have hb := hb3.block w2.heap.size (by simp)
    refine PrgAt.block ⟨?_, ?_, ?_, fun j => ?_⟩ hb <;> simp [go_sem]
  have s3 : w2.heap.size < w3.heap.size := by have := hb3.size; simp at this; omega
  have H3 : Below w2.heap.size w2 w3 := (Below.alloc (Below.refl _ w2) (Nat.le_refl _) _).trans (hb3.mono (by simp))
  simp at hsh
  clear hb1 hb2
  go_wp2
  go_loopw [0, 9] (fun t l wr => ∃ k v, k ≤ n ∧ t = .string (T k) ∧ l = .int .i64 ((k : Int) + 2) ∧ PrgAt wr w2.heap.size V F v ∧ wr.ownsRow w3.heap.size 71 6 v k (flat ((List.range k).map I)) ∧ Below w2.heap.size w2 wr ∧ w3.heap.size ≤ wr.heap.size ∧ ∀ j, j < w3.heap.size → j ≠ w2.heap.size → wr.heap[j]? = w3.heap[j]?) (fun _ l _ => n + 2 - (intOf l).toNat)
  case atStart => exact ⟨0, _, Nat.zero_le _, rfl, rfl, q3, World.ownsRow_nil _ _ _ _, H3, Nat.le_refl _, fun _ _ _ => rfl⟩
  case round =>
    obtain ⟨k, v, hk, rfl, rfl, hp, hown, hbr, hsz, hsame⟩ := hrel
    obtain ⟨sl, cap, rfl, hcode⟩ : ∃ sl cap, v = .slice sl k cap ∧ CodeAt wr sl ((List.range k).map I) := by
      have := codeAt_own (c := (List.range k).map I) (by simpa using hown)
      simpa using this
    obtain ⟨p0, p1, p2, pf⟩ := hp
    have hBr : w2.heap.size < wr.heap.size := by omega
    have HR : Below w.heap.size w wr := H2.trans (hbr.mono (by omega))
    by_cases hlt : k < n
    · have hne : (T k).toList.isEmpty = false := by
        rw [ByteArray.toList_eq, List.isEmpty_eq_false_iff]
        intro e
        exact h0 k hlt (ByteArray.ext (by simpa using e))
      have n0 : (k : Int) + 2 < 5000 := by omega
      have hcut := cut_line (T k) (L k) (T (k + 1)) wr (hm.below HR) (by have := hT k; omega) (hc k hlt)
      go_wp2_with (go_at_call 68; fail)
      refine hcut.mono ?_
      rintro e w4 ⟨rfl, hb4⟩
      have H4 : Below w.heap.size w w4 := HR.trans (hb4.mono HR.size)
      have hs4 : ShpAt (w2.heap.size + 1) shps w4 := hsh.of_blocks (fun j hj hj' => by rw [hb4.block j (by omega)]; exact hsame j hj' (by omega))
      go_wp2_with (go_at_call 70; fail)
      refine (hI k hlt _ w4 hs4 (ht.below H4) (hm.below H4) (hEr.below H4)).mono ?_
      rintro e w5 ⟨rfl, hb5⟩
      have B5 : ∀ j, j < wr.heap.size → w5.heap[j]? = wr.heap[j]? := fun j hj => by rw [hb5.block j (by have := hb4.size; omega), hb4.block j hj]
      have S5 : wr.heap.size ≤ w5.heap.size := Nat.le_trans hb4.size hb5.size
      obtain ⟨P0, P1, P2, Pf⟩ : PrgAt w5 w2.heap.size V F (.slice sl k cap) := PrgAt.block ⟨p0, p1, p2, pf⟩ (B5 _ hBr)
      have hB5 : w2.heap.size < w5.heap.size := by omega
      have hown5 := ownsRow_of_block hown (fun j hj => B5 j (ownsRow_block_lt hown hj).1)
      clear hcut hs4 hsh
      have hnews : ∀ j u, (insCells (I k))[j]? = some u → ((w5.alloc (.cells #[.int .i64 (I k).k, .int .i64 (I k).to, .int .i64 (I k).a, .int .i64 (I k).b, .int .i64 (I k).n, .int .i64 (I k).g] 71)).alloc (.cells #[.int .i64 (I k).k, .int .i64 (I k).to, .int .i64 (I k).a, .int .i64 (I k).b, .int .i64 (I k).n, .int .i64 (I k).g] 71)).cell? ((⟨w5.heap.size + 1, 0, none⟩ : Addr).add j) = some u := by
        have := cells_new (w5.alloc (.cells #[.int .i64 (I k).k, .int .i64 (I k).to, .int .i64 (I k).a, .int .i64 (I k).b, .int .i64 (I k).n, .int .i64 (I k).g] 71)) (insCells (I k)) 71
        intro j u hj
        have h := this j u hj
        simp only [World.size_alloc] at h
        exact h
      have hG : ∀ w6, ((w5.alloc (.cells #[.int .i64 (I k).k, .int .i64 (I k).to, .int .i64 (I k).a, .int .i64 (I k).b, .int .i64 (I k).n, .int .i64 (I k).g] 71)).alloc (.cells #[.int .i64 (I k).k, .int .i64 (I k).to, .int .i64 (I k).a, .int .i64 (I k).b, .int .i64 (I k).n, .int .i64 (I k).g] 71)).grownBy w6 (Value.slice sl k cap).ownBlock → w6.heap[w2.heap.size]? = w5.heap[w2.heap.size]? := fun w6 hgrow => by
        rw [hgrow.block _ (by simp; omega) (fun e => by have := ownsRow_low hown5 e.symm; omega), Below.heap_alloc _ _ _ (by simp; omega), Below.heap_alloc _ _ _ (by omega)]
      have hH6 : ∀ w6, ((w5.alloc (.cells #[.int .i64 (I k).k, .int .i64 (I k).to, .int .i64 (I k).a, .int .i64 (I k).b, .int .i64 (I k).n, .int .i64 (I k).g] 71)).alloc (.cells #[.int .i64 (I k).k, .int .i64 (I k).to, .int .i64 (I k).a, .int .i64 (I k).b, .int .i64 (I k).n, .int .i64 (I k).g] 71)).grownBy w6 (Value.slice sl k cap).ownBlock → Below w2.heap.size w2 w6 := fun w6 hgrow =>
        ((((hbr.trans (hb4.mono (by omega))).trans (hb5.mono (by have := hb4.size; omega))).alloc (by omega) _).alloc (by simp; omega) _).grown hgrow (by simp; omega) (fun j hj => by have := ownsRow_low hown5 hj; omega)
      have hflat : flat ((List.range (k + 1)).map I) = flat ((List.range k).map I) ++ insCells (I k) := by
        rw [List.range_succ, List.map_append, flat, List.flatMap_append]; simp [flat]
      have hone : ∀ u ∈ insCells (I k), u.oneCell' = true := by simp [insCells, Value.oneCell']
      have hba : w3.heap.size ≤ ((w5.alloc (.cells #[.int .i64 (I k).k, .int .i64 (I k).to, .int .i64 (I k).a, .int .i64 (I k).b, .int .i64 (I k).n, .int .i64 (I k).g] 71)).alloc (.cells #[.int .i64 (I k).k, .int .i64 (I k).to, .int .i64 (I k).a, .int .i64 (I k).b, .int .i64 (I k).n, .int .i64 (I k).g] 71)).heap.size := by simp; omega
      go_wp2_with (at_builtin; refine wpList_append_own _ rfl _ _ 22 rfl w3.heap.size 71 ti (.agg #[.int .i64 0, .int .i64 0, .int .i64 0, .int .i64 0, .int .i64 0, .int .i64 0]) 6 48 Tryd.underlying22 hi hz0 hz1 hz2 rfl (by decide) _ _ _ rfl ((hown5.alloc _).alloc _) ⟨w5.heap.size + 1, 0, none⟩ 1 1 (insCells (I k)) rfl rfl hnews hone (by unfold maxLen; omega) (by omega) hba ?_; intro v' w6 hown' hgrow hnil; obtain ⟨g, cap', rfl, hg, hlt'⟩ := hown'.form (Nat.succ_pos _); obtain ⟨Q0, Q1, Q2, Qf⟩ : PrgAt w6 w2.heap.size V F (.slice sl k cap) := PrgAt.block ⟨P0, P1, P2, Pf⟩ (hG w6 hgrow))
      go_roundw
      case rel =>
        refine ⟨k + 1, _, hlt, rfl, by go_num, PrgAt.set ⟨Q0, Q1, Q2, Qf⟩ _, ownsRow_setCell_below ?_ s3 _, ?_, ?_, ?_⟩
        · rw [hflat]; exact hown'
        · exact (hH6 w6 hgrow).setCell (Nat.le_refl _) _
        · have := hgrow.size; simp at this ⊢; omega
        · intro j hj hj'
          rw [Below.heap_setCell _ _ _ _ hj', hgrow.block j (by simp; omega) (fun e => by have := ownsRow_low hown5 e.symm; omega), Below.heap_alloc _ _ _ (by simp; omega), Below.heap_alloc _ _ _ (by omega), B5 j (by omega)]
          exact hsame j hj hj'
      case measure => simp [intOf]; omega
    · have hk' : k = n := by omega
      subst hk'
      have rb : wr.heap[w.heap.size]? = some (.cells #[.int .i64 0, .int .i64 0, .slice none 0 0] 24 (0, 0)) := by rw [hbr.block _ z2]; exact r2
      have zr : w.heap.size < wr.heap.size := by omega
      have Zr : ZAt wr w.heap.size := ⟨by simp [World.cell?, rb], by simp [World.cell?, rb], by simp [World.cell?, rb], fun j => by simp [World.frozen?, rb], zr⟩
      have hne : (T k).toList.isEmpty = false := by
        rw [ByteArray.toList_eq, List.isEmpty_eq_false_iff]
        intro e
        exact hne0 (ByteArray.ext (by simpa using e))
      clear rb
      go_wp2_with (go_at_call 68; fail)
      refine (cut_gen (T k) X Y en wr (hm.below HR) (by have := hT k; omega) hcX).mono ?_
      rintro e w4 ⟨rfl, hb4⟩
      have H4 : Below w.heap.size w w4 := HR.trans (hb4.mono HR.size)
      have hs4 : ShpAt (w2.heap.size + 1) shps w4 := hsh.of_blocks (fun j hj hj' => by rw [hb4.block j (by omega)]; exact hsame j hj' (by omega))
      go_wp2_with (go_at_call 70; fail)
      refine (parseInstr_any _ X w4 hX hs4 (ht.below H4) (hm.below H4) (hEr.below H4)).mono ?_
      rintro e w5 ⟨he5, hb5⟩
      have B5 : ∀ j, j < wr.heap.size → w5.heap[j]? = wr.heap[j]? := fun j hj => by rw [hb5.block j (by have := hb4.size; omega), hb4.block j hj]
      obtain ⟨P0, P1, P2, Pf⟩ : PrgAt w5 w2.heap.size V F (.slice sl k cap) := PrgAt.block ⟨p0, p1, p2, pf⟩ (B5 _ hBr)
      have hB5 : w2.heap.size < w5.heap.size := by have := hb4.size; have := hb5.size; omega
      obtain ⟨r0, r1, r3, rf, rz⟩ := (Zr.call hb4).call hb5
      have H5 : Below w.heap.size w w5 := H4.trans (hb5.mono H4.size)
      clear Zr hs4 hsh p0 p1 p2 pf
      generalize insOf X.data.toList = o at *
      have hfin : ∀ wx, Below w.heap.size w wx → Below w.heap.size w (((wx.setCell ⟨w.heap.size, 0, none⟩ (.int .i64 V)).setCell ⟨w.heap.size, 1, none⟩ (.int .i64 F)).setCell ⟨w.heap.size, 2, none⟩ (.slice sl k cap)) := fun wx h => ((h.setCell (Nat.le_refl _) _).setCell (Nat.le_refl _) _).setCell (Nat.le_refl _) _
      cases o with
      | none =>
        simp only [insAns, insV, zeroI] at he5
        subst he5
        cases en with
        | false =>
          go_wp2
          refine bodyPost_ret (v := .tuple #[.agg #[.int .i64 V, .int .i64 F, .slice sl k cap], .int .i64 ((k : Int) + 2)]) (by simp [results, Tryd.results43, go_sem, r0, r1, r3, rz, Nat.ne_of_lt rz]) rfl ⟨V, F, _, rfl, ⟨_, _, _, rfl⟩, ?_⟩
          first | exact (hfin _ H5).alloc (by simp; omega) _ | exact hfin _ (H5.alloc H5.size _)
        | true =>
          go_wp2
          refine bodyPost_ret (v := .tuple #[.agg #[.int .i64 V, .int .i64 F, .slice sl k cap], .int .i64 ((k : Int) + 2)]) (by simp [results, Tryd.results43, go_sem, r0, r1, r3, rz, Nat.ne_of_lt rz]) rfl ⟨V, F, _, rfl, ⟨_, _, _, rfl⟩, ?_⟩
          first | exact (hfin _ H5).alloc (by simp; omega) _ | exact hfin _ (H5.alloc H5.size _)
      | some i =>
        obtain rfl : en = false := by simpa using hbad
        simp only [insAns, insV] at he5
        subst he5
        go_wp2
        refine bodyPost_ret (v := .tuple #[.agg #[.int .i64 V, .int .i64 F, .slice sl k cap], .int .i64 ((k : Int) + 2)]) (by simp [results, Tryd.results43, go_sem, r0, r1, r3, rz, Nat.ne_of_lt rz]) rfl ⟨V, F, _, rfl, ⟨_, _, _, rfl⟩, ?_⟩
        first | exact (hfin _ H5).alloc (by simp; omega) _ | exact hfin _ (H5.alloc H5.size _)

end Go.Proofs.YtmapdpcfanecdaaDoor
