/- Walks over runs: the beginning of one. -/
import Derived.Test.YtmapdpcfanecdaaDoorKlawrsp11
import Derived.Test.YtmapdpcfanecdaaDoorKlawrsp12
import Derived.Test.YtmapdpcfanecdaaDoorKlawrsp13
import Derived.Test.YtmapdpcfanecdaaDoorKlawrsp07
import Derived.Test.YtmapdpcfanecdaaDoorKlawrsp04
import Derived.Deep.RegionHeld3
import Derived.Test.YtmapdpcfanecdaaDoorKlawrsp03
import Derived.Deep.AppendLies
import Derived.Lib.SplitLaws
import Derived.Lib.AtoiTie
import Derived.Lib.ItoaNum
import Derived.OwnWalk
namespace Go.Proofs.YtmapdpcfanecdaaDoor
set_option linter.unusedVariables false
set_option linter.unusedSimpArgs false
open Go.RowKit

theorem checkInstr_any (V F : Int) (s : Option Addr) (len cap N : Nat) (i : Ins) (w : World) (hV : 1 ≤ V) (hV' : V ≤ 8) (hF : 0 ≤ F) (hF' : F ≤ 3) (hL : len ≤ 60) (hs : ShpAt N shps w) :
    Calls Tryd.prog 42 #[.agg #[.int .i64 V, .int .i64 F, .slice s len cap], .map (some N), .agg #[.int .i64 i.k, .int .i64 i.to, .int .i64 i.a, .int .i64 i.b, .int .i64 i.n, .int .i64 i.g]] w fun e w' => e = .returned (.int .i64 (ckOne V F len i)) ∧ Below w.heap.size w w' := by
  obtain ⟨k, tto, a, b, n, g⟩ := i
  by_cases h : btw k 1 19 = true
  · rcases btw_cases h with rfl | rfl | rfl | rfl | rfl | rfl | rfl | rfl | rfl | rfl | rfl | rfl | rfl | rfl | rfl | rfl | rfl | rfl | rfl
    · exact checkInstr_1 V F s len cap N tto a b n g w hV hV' hF hF' hL hs
    · exact checkInstr_2 V F s len cap N tto a b n g w hV hV' hF hF' hL hs
    · exact checkInstr_3 V F s len cap N tto a b n g w hV hV' hF hF' hL hs
    · exact checkInstr_4 V F s len cap N tto a b n g w hV hV' hF hF' hL hs
    · exact checkInstr_5 V F s len cap N tto a b n g w hV hV' hF hF' hL hs
    · exact checkInstr_6 V F s len cap N tto a b n g w hV hV' hF hF' hL hs
    · exact checkInstr_7 V F s len cap N tto a b n g w hV hV' hF hF' hL hs
    · exact checkInstr_8 V F s len cap N tto a b n g w hV hV' hF hF' hL hs
    · exact checkInstr_9 V F s len cap N tto a b n g w hV hV' hF hF' hL hs
    · exact checkInstr_10 V F s len cap N tto a b n g w hV hV' hF hF' hL hs
    · exact checkInstr_11 V F s len cap N tto a b n g w hV hV' hF hF' hL hs
    · exact checkInstr_12 V F s len cap N tto a b n g w hV hV' hF hF' hL hs
    · exact checkInstr_13 V F s len cap N tto a b n g w hV hV' hF hF' hL hs
    · exact checkInstr_14 V F s len cap N tto a b n g w hV hV' hF hF' hL hs
    · exact checkInstr_15 V F s len cap N tto a b n g w hV hV' hF hF' hL hs
    · exact checkInstr_16 V F s len cap N tto a b n g w hV hV' hF hF' hL hs
    · exact checkInstr_17 V F s len cap N tto a b n g w hV hV' hF hF' hL hs
    · exact checkInstr_18 V F s len cap N tto a b n g w hV hV' hF hF' hL hs
    · exact checkInstr_19 V F s len cap N tto a b n g w hV hV' hF hF' hL hs
  · exact checkInstr_no V F s len cap N k tto a b n g w hV hV' hF hF' hL hs (by simpa using h)

set_option maxHeartbeats 1000000 in
theorem check_loop (V F : Int) (b off cap : Nat) (c : List Ins) (w : World) (hV : 1 ≤ V) (hV' : V ≤ 8) (hF : 0 ≤ F) (hF' : F ≤ 3) (hL : c.length ≤ 60) (hb : b < w.heap.size) (hc : ∀ k (h : k < c.length), InsAt w b (off + k * 6) c[k]) :
    Calls Tryd.prog 14 #[.agg #[.int .i64 V, .int .i64 F, .slice (some ⟨b, off, none⟩) c.length cap]] w fun e w' => e = .returned (.int .i64 (ckAll V F c.length c)) ∧ Below w.heap.size w w' := by
  have hl60 : (c.length : Int) ≤ 60 := by omega
  have hbox : Below w.heap.size w (w.alloc (.cells #[.int .i64 V, .int .i64 F, .slice (some ⟨b, off, none⟩) c.length cap] 24)) := by go_grown
  go_enter Tryd.func14, Tryd.ntmps14
  go_wp2_with (go_at_call 29; refine (shapes_any _).mono ?_; rintro e w1 ⟨rfl, hs1, hb1⟩; obtain ⟨hc1, hf1⟩ := bcell hb1; have q2 : w1.cell? ⟨w.heap.size, 2, none⟩ = some (.slice (some ⟨b, off, none⟩) c.length cap) := (by rw [hb1.cell (by simp)]; simp [go_sem]))
  simp only [World.size_alloc] at hs1
  have q0 : w1.cell? ⟨w.heap.size, 0, none⟩ = some (.int .i64 V) := by rw [hb1.cell (by simp)]; simp [go_sem]
  have q1 : w1.cell? ⟨w.heap.size, 1, none⟩ = some (.int .i64 F) := by rw [hb1.cell (by simp)]; simp [go_sem]
  clear hc1 hf1
  have z1 : w.heap.size + 1 ≤ w1.heap.size := by have := hb1.size; simp at this; omega
  have hbw : Below w.heap.size w w1 := hbox.trans (hb1.mono (by simp))
  go_loopw [35] (fun i wr => ∃ k : Nat, k ≤ c.length ∧ i = .int .i64 k ∧ Below w1.heap.size w1 wr ∧ Hid (ckAll V F c.length (c.drop k) = ckAll V F c.length c)) (fun i _ => c.length - (intOf i).toNat)
  case atStart => exact ⟨0, Nat.zero_le _, rfl, Below.refl _ _, rfl⟩
  case round =>
    obtain ⟨k, hk, rfl, hbr, HR⟩ := hrel
    have r0 : wr.cell? ⟨w.heap.size, 0, none⟩ = some (.int .i64 V) := by rw [hbr.cell (by simp; omega)]; exact q0
    have r1 : wr.cell? ⟨w.heap.size, 1, none⟩ = some (.int .i64 F) := by rw [hbr.cell (by simp; omega)]; exact q1
    have r2 : wr.cell? ⟨w.heap.size, 2, none⟩ = some (.slice (some ⟨b, off, none⟩) c.length cap) := by rw [hbr.cell (by simp; omega)]; exact q2
    have s0 : w1.heap.size ≤ wr.heap.size := hbr.size
    have s1 : w.heap.size < wr.heap.size := by omega
    have s2 : b < wr.heap.size := by omega
    by_cases hlt : k < c.length
    · have hi : InsAt wr b (off + k * 6) c[k] := ((hc k hlt).below hbw hb).below hbr (by omega)
      obtain ⟨i0, i1, i2, i3, i4, i5⟩ := hi
      have n0 : (0 : Int) ≤ (k : Int) := by omega
      have n1 : (k : Int) < (c.length : Int) := by omega
      clear q0 q1 q2
      have HS := ckAll_step (V := V) (F := F) (L := c.length) hlt
      by_cases hz : ckOne V F c.length c[k] = 0
      · have HC : Hid (ckAll V F c.length (c.drop (k + 1)) = ckAll V F c.length c) := by have := HR.out; rw [HS, if_pos hz] at this; exact this
        clear HS HR
        go_wp2_with (go_at_call 42; refine (checkInstr_any V F _ _ _ _ c[k] _ hV hV' hF hF' hL ?hs).mono ?_; (case hs => exact hs1.below (hbr.alloc s0 _) (Nat.le_refl _)); rintro e w2 ⟨rfl, hb2⟩)
        go_roundw
        case rel => exact ⟨k + 1, by omega, by go_num, (hbr.alloc s0 _).trans (hb2.mono (by simp; omega)), HC⟩
        case measure => simp [intOf]; omega
      · rw [if_neg hz] at HS
        have HC : Hid (ckOne V F c.length c[k] = ckAll V F c.length c) := by have := HR.out; rw [HS] at this; exact this
        have hz' : (ckOne V F c.length c[k] != 0) = true := by simpa using hz
        clear HS HR
        go_wp2_with (go_at_call 42; refine (checkInstr_any V F _ _ _ _ c[k] _ hV hV' hF hF' hL ?hs).mono ?_; (case hs => exact hs1.below (hbr.alloc s0 _) (Nat.le_refl _)); rintro e w2 ⟨rfl, hb2⟩)
        go_ret
        exact ⟨ret_int HC.out, hbw.trans (((hbr.alloc s0 _).trans (hb2.mono (by simp; omega))).mono (by omega))⟩
    · go_wp2
      go_ret
      exact ⟨ret_int (by have := HR.out; rw [List.drop_eq_nil_of_le (by omega)] at this; exact this), hbw.trans (hbr.mono (by omega))⟩

set_option maxHeartbeats 1000000 in
theorem check_nil (V F : Int) (s : Option Addr) (cap : Nat) (w : World) (hV : 1 ≤ V) (hV' : V ≤ 8) (hF : 0 ≤ F) (hF' : F ≤ 3) :
    Calls Tryd.prog 14 #[.agg #[.int .i64 V, .int .i64 F, .slice s 0 cap]] w fun e w' => e = .returned (.int .i64 0) ∧ Below w.heap.size w w' := by
  have hbox : Below w.heap.size w (w.alloc (.cells #[.int .i64 V, .int .i64 F, .slice s 0 cap] 24)) := by go_grown
  go_enter Tryd.func14, Tryd.ntmps14
  go_wp2_with (go_at_call 29; refine (shapes_any _).mono ?_; rintro e w1 ⟨rfl, hs1, hb1⟩; have q2 : w1.cell? ⟨w.heap.size, 2, none⟩ = some (.slice s 0 cap) := (by rw [hb1.cell (by simp)]; simp [go_sem]))
  go_rounds 1
  go_ret
  exact ⟨rfl, hbox.trans (hb1.mono (by simp))⟩

set_option maxHeartbeats 1000000 in
theorem check_many (V F : Int) (s : Option Addr) (len cap : Nat) (w : World) (hV : 1 ≤ V) (hV' : V ≤ 8) (hF : 0 ≤ F) (hF' : F ≤ 3) (hl : 60 < len) :
    Calls Tryd.prog 14 #[.agg #[.int .i64 V, .int .i64 F, .slice s len cap]] w fun e w' => e = .returned (.int .i64 2) ∧ Below w.heap.size w w' := by
  have t3 : (60 : Int) < (len : Int) := by omega
  go_enter Tryd.func14, Tryd.ntmps14
  go_wp2
  go_ret
  exact ⟨rfl, by go_grown⟩

set_option maxHeartbeats 1000000 in
theorem check_range (V F : Int) (s : Option Addr) (len cap : Nat) (w : World) (h : ¬ (1 ≤ V ∧ V ≤ 8 ∧ 0 ≤ F ∧ F ≤ 3)) :
    Calls Tryd.prog 14 #[.agg #[.int .i64 V, .int .i64 F, .slice s len cap]] w fun e w' => e = .returned (.int .i64 3) ∧ Below w.heap.size w w' := by
  by_cases h1 : V < 1
  · clear h
    go_enter Tryd.func14, Tryd.ntmps14
    go_wp2
    go_ret
    exact ⟨rfl, by go_grown⟩
  by_cases h2 : 8 < V
  · clear h
    go_enter Tryd.func14, Tryd.ntmps14
    go_wp2
    go_ret
    exact ⟨rfl, by go_grown⟩
  by_cases h3 : F < 0
  · clear h
    go_enter Tryd.func14, Tryd.ntmps14
    go_wp2
    go_ret
    exact ⟨rfl, by go_grown⟩
  · have h4 : 3 < F := by omega
    clear h
    go_enter Tryd.func14, Tryd.ntmps14
    go_wp2
    go_ret
    exact ⟨rfl, by go_grown⟩

/-- The program's check of a program, whatever it is handed. -/
theorem codeCheck_any (V F : Int) (s : Option Addr) (cap : Nat) (c : List Ins) (w : World) (h : CodeAt w s c) :
    Calls Tryd.prog 14 #[.agg #[.int .i64 V, .int .i64 F, .slice s c.length cap]] w fun e w' => e = .returned (.int .i64 (ckProg V F c)) ∧ Below w.heap.size w w' := by
  unfold ckProg
  by_cases hr : 1 ≤ V ∧ V ≤ 8 ∧ 0 ≤ F ∧ F ≤ 3
  · obtain ⟨hV, hV', hF, hF'⟩ := hr
    have t1 : btw V 1 8 = true := btw_true hV hV'
    have t2 : btw F 0 3 = true := btw_true hF hF'
    by_cases hl : 60 < c.length
    · simpa [t1, t2, hl] using check_many V F s c.length cap w hV hV' hF hF' hl
    · rcases h with rfl | ⟨b, off, rfl, hb, hc⟩
      · simpa [t1, t2, ckAll] using check_nil V F s cap w hV hV' hF hF'
      · simpa [t1, t2, hl] using check_loop V F b off cap c w hV hV' hF hF' (by omega) hb hc
  · have : btw V 1 8 = false ∨ btw F 0 3 = false := by
      by_cases h1 : 1 ≤ V ∧ V ≤ 8
      · right; simp [btw]; omega
      · left; simp [btw]; omega
    rcases this with t | t
    · simpa [t] using check_range V F s c.length cap w hr
    · simpa [t] using check_range V F s c.length cap w hr
end Go.Proofs.YtmapdpcfanecdaaDoor

namespace Go.Proofs.YtmapdpcfanecdaaDoor
set_option linter.unusedVariables false
set_option linter.unusedSimpArgs false
open Go.RowKit

theorem info_str : (Tryd.prog.info? 9).map (fun i => (i.zero, i.size, i.bytes)) = some (some (.string ⟨#[]⟩), 1, 16) := by kernel_rfl

end Go.Proofs.YtmapdpcfanecdaaDoor

namespace Go.Proofs.YtmapdpcfanecdaaDoor
set_option linter.unusedVariables false
set_option linter.unusedSimpArgs false
open Go.RowKit

theorem ownsRow_lower {w : World} {B B' : Nat} {e : TypeId} {z : Nat} {v : Value} {n : Nat} {xs : List Value} (h : w.ownsRow B e z v n xs) (hb : B' ≤ B) : w.ownsRow B' e z v n xs := by
  obtain ⟨h1, h2⟩ := h
  refine ⟨h1, ?_⟩
  rcases h2 with h2 | ⟨g, cap, cur, hv, hB, r⟩
  · exact .inl h2
  · exact .inr ⟨g, cap, cur, hv, Nat.le_trans hb hB, r⟩

end Go.Proofs.YtmapdpcfanecdaaDoor

namespace Go.Proofs.YtmapdpcfanecdaaDoor
set_option linter.unusedVariables false
set_option linter.unusedSimpArgs false

theorem ckAll_each {V F L : Int} : ∀ {c : List Ins}, ckAll V F L c = 0 → ∀ i ∈ c, ckOne V F L i = 0
  | [], _, i, hi => by cases hi
  | x :: r, h, i, hi => by
    unfold ckAll at h
    split at h
    · rename_i hx
      rcases List.mem_cons.1 hi with rfl | hi
      · exact hx
      · exact ckAll_each h i hi
    · exact absurd h (by assumption)
theorem ckProg_each {V F : Int} {c : List Ins} (h : ckProg V F c = 0) : (1 ≤ V ∧ V ≤ 8) ∧ (0 ≤ F ∧ F ≤ 3) ∧ c.length ≤ 60 ∧ ∀ i ∈ c, ckOne V F c.length i = 0 := by
  unfold ckProg at h
  split at h
  · cases h
  · rename_i h3
    split at h
    · cases h
    · rename_i h60
      simp [btw] at h3
      exact ⟨⟨by omega, by omega⟩, ⟨by omega, by omega⟩, by omega, ckAll_each h⟩
end Go.Proofs.YtmapdpcfanecdaaDoor

namespace Go.Proofs.YtmapdpcfanecdaaDoor
set_option linter.unusedVariables false
set_option linter.unusedSimpArgs false
open Go.RowKit

theorem info_val : (Tryd.prog.info? 94).map (fun i => (i.zero, i.size, i.bytes)) = some (some (.agg #[.int .i64 0, .int .i64 0]), 2, 16) := by kernel_rfl
/-- A variable of type Run lies as it was made. -/
def ZRun (w : World) (b : Nat) : Prop := w.cell? ⟨b, 0, none⟩ = some (.int .i64 0) ∧ w.cell? ⟨b, 1, none⟩ = some (.slice none 0 0) ∧ w.cell? ⟨b, 2, none⟩ = some (.slice none 0 0) ∧ w.cell? ⟨b, 3, none⟩ = some (.int .i64 0) ∧ w.cell? ⟨b, 4, none⟩ = some (.slice none 0 0) ∧ w.cell? ⟨b, 5, none⟩ = some (.int .i64 0) ∧ (∀ j, w.frozen? ⟨b, j, none⟩ = false) ∧ b < w.heap.size
theorem ZRun.new (w : World) : ZRun (w.alloc (.cells #[.int .i64 0, .slice none 0 0, .slice none 0 0, .int .i64 0, .slice none 0 0, .int .i64 0] 46)) w.heap.size := by
  refine ⟨?_, ?_, ?_, ?_, ?_, ?_, fun j => ?_, ?_⟩ <;> simp [go_sem]
theorem ZRun.block {w w' : World} {b : Nat} (h : ZRun w b) (hb : w'.heap[b]? = w.heap[b]?) : ZRun w' b := by
  have hc : ∀ j, w'.cell? ⟨b, j, none⟩ = w.cell? ⟨b, j, none⟩ := fun j => World.cell?_of_block (a := ⟨b, j, none⟩) hb
  have hf : ∀ j, w'.frozen? ⟨b, j, none⟩ = w.frozen? ⟨b, j, none⟩ := fun j => World.frozen?_of_block (a := ⟨b, j, none⟩) hb
  obtain ⟨h0, h1, h2, h3, h4, h5, h6, hz⟩ := h
  refine ⟨(hc _).trans h0, (hc _).trans h1, (hc _).trans h2, (hc _).trans h3, (hc _).trans h4, (hc _).trans h5, fun j => (hf j).trans (h6 j), ?_⟩
  rw [Array.getElem?_eq_getElem hz] at hb
  exact (Array.getElem?_eq_some_iff.1 hb).1
theorem ZRun.call {w w' : World} {b : Nat} (h : ZRun w b) (hb : Below w.heap.size w w') : ZRun w' b := h.block (hb.block _ h.2.2.2.2.2.2.2)

set_option maxHeartbeats 1000000 in
set_option maxRecDepth 20000 in
theorem beginOf_any (F : Int) (s : Option Addr) (n cap : Nat) (w : World) (v : Nat) (h8 : v ≤ 8) :
    Calls Tryd.prog 22 #[.agg #[.int .i64 v, .int .i64 F, .slice s n cap]] w fun e w' => ∃ g, e = .returned (.agg #[.int .i64 0, .slice (some ⟨g, 0, none⟩) v v, .slice none 0 0, .int .i64 0, .slice none 0 0, .int .i64 0]) ∧ w'.ownsRow w.heap.size 94 2 (.slice (some ⟨g, 0, none⟩) v v) v (madeCells (Value.agg #[.int .i64 0, .int .i64 0]).cells (v * 2)).toList ∧ Below w.heap.size w w' := by
  obtain ⟨ti, hi, hz0, hz1, hz2⟩ := info_parts info_val
  have Z0 := ZRun.new (w.alloc (.cells #[.int .i64 (v : Int), .int .i64 F, .slice s n cap] 24))
  rw [World.size_alloc] at Z0
  have hb0 : Below w.heap.size w ((w.alloc (.cells #[.int .i64 (v : Int), .int .i64 F, .slice s n cap] 24)).alloc (.cells #[.int .i64 0, .slice none 0 0, .slice none 0 0, .int .i64 0, .slice none 0 0, .int .i64 0] 46)) := by go_grown
  go_enter Tryd.func22, Tryd.ntmps22
  go_wp2_with (refine wpList_make_full _ rfl _ _ 42 rfl (w.heap.size + 1 + 1) 94 ti (.agg #[.int .i64 0, .int .i64 0]) 2 Tryd.underlying42 hi hz0 hz1 .i64 .i64 (v : Int) (v : Int) v rfl rfl rfl rfl (by rw [hz2]; omega) (by unfold maxLen; omega) (by simp) ?_; intro wm hown hgrow; obtain ⟨r0, r1, r2, r3, r4, r5, rf, rz⟩ := ZRun.block Z0 (hgrow.block _ (by simp) (fun e => by cases e)))
  simp only [World.size_alloc] at hown
  have hbm : Below w.heap.size w wm := hb0.grown hgrow (by simp; omega) (fun j hj => by cases hj)
  refine bodyPost_ret (v := .agg #[.int .i64 0, .slice (some ⟨w.heap.size + 1 + 1, 0, none⟩) v v, .slice none 0 0, .int .i64 0, .slice none 0 0, .int .i64 0]) (by simp [results, Tryd.results22, go_sem, r0, r1, r2, r3, r4, r5]) rfl ⟨_, rfl, ?_, ?_⟩
  · have hz : w.heap.size + 1 < w.heap.size + 1 + 1 := by omega
    exact ownsRow_lower (ownsRow_setCell_below (a := ⟨w.heap.size + 1, 5, none⟩) (ownsRow_setCell_below (a := ⟨w.heap.size + 1, 4, none⟩) (ownsRow_setCell_below (a := ⟨w.heap.size + 1, 3, none⟩) (ownsRow_setCell_below (a := ⟨w.heap.size + 1, 2, none⟩) (ownsRow_setCell_below (a := ⟨w.heap.size + 1, 1, none⟩) (ownsRow_setCell_below (a := ⟨w.heap.size + 1, 0, none⟩) hown hz _) hz _) hz _) hz _) hz _) hz _) (show w.heap.size ≤ w.heap.size + 1 + 1 by omega)
  · exact (((((hbm.setCell (by simp) _).setCell (by simp) _).setCell (by simp) _).setCell (by simp) _).setCell (by simp) _).setCell (by simp) _
set_option maxHeartbeats 1000000 in
set_option maxRecDepth 20000 in
theorem begin_err (V F : Int) (s : Option Addr) (c : List Ins) (cap : Nat) (w : World) (hc : CodeAt w s c) (h0 : ckProg V F c ≠ 0) :
    Calls Tryd.prog 19 #[.agg #[.int .i64 V, .int .i64 F, .slice s c.length cap]] w fun e w' => e = .returned (.tuple #[.agg #[.int .i64 0, .slice none 0 0, .slice none 0 0, .int .i64 0, .slice none 0 0, .int .i64 0], .int .i64 (ckProg V F c)]) ∧ Below w.heap.size w w' := by
  have Z0 := ZRun.new (w.alloc (.cells #[.int .i64 V, .int .i64 F, .slice s c.length cap] 24))
  rw [World.size_alloc] at Z0
  have hb0 : Below w.heap.size w ((w.alloc (.cells #[.int .i64 V, .int .i64 F, .slice s c.length cap] 24)).alloc (.cells #[.int .i64 0, .slice none 0 0, .slice none 0 0, .int .i64 0, .slice none 0 0, .int .i64 0] 46)) := by go_grown
  have hk : (ckProg V F c != 0) = true := by simpa using h0
  go_enter Tryd.func19, Tryd.ntmps19
  go_wp2_with (go_at_call 14; fail)
  refine (codeCheck_any V F s cap c _ (hc.below hb0 (Nat.le_refl _))).mono ?_
  rintro e w1 ⟨rfl, hb1⟩
  have H1 := hb0.trans (hb1.mono hb0.size)
  obtain ⟨r0, r1, r2, r3, r4, r5, rf, rz⟩ := Z0.call hb1
  go_wp2
  refine bodyPost_ret (v := .tuple #[.agg #[.int .i64 0, .slice none 0 0, .slice none 0 0, .int .i64 0, .slice none 0 0, .int .i64 0], .int .i64 (ckProg V F c)]) (by simp [results, Tryd.results19, go_sem, r0, r1, r2, r3, r4, r5]) rfl ⟨rfl, ?_⟩
  exact (((((H1.setCell (by simp) _).setCell (by simp) _).setCell (by simp) _).setCell (by simp) _).setCell (by simp) _).setCell (by simp) _
set_option maxHeartbeats 1000000 in
set_option maxRecDepth 20000 in
theorem begin_ok (v : Nat) (F : Int) (s : Option Addr) (c : List Ins) (cap : Nat) (w : World) (hc : CodeAt w s c) (h0 : ckProg (v : Int) F c = 0) :
    Calls Tryd.prog 19 #[.agg #[.int .i64 v, .int .i64 F, .slice s c.length cap]] w fun e w' => ∃ g, e = .returned (.tuple #[.agg #[.int .i64 0, .slice (some ⟨g, 0, none⟩) v v, .slice none 0 0, .int .i64 0, .slice none 0 0, .int .i64 0], .int .i64 0]) ∧ w'.ownsRow w.heap.size 94 2 (.slice (some ⟨g, 0, none⟩) v v) v (madeCells (Value.agg #[.int .i64 0, .int .i64 0]).cells (v * 2)).toList ∧ Below w.heap.size w w' := by
  obtain ⟨ti, hi, hz0, hz1, hz2⟩ := info_parts info_val
  have h8 : v ≤ 8 := by have := (ckProg_each h0).1; omega
  have Z0 := ZRun.new (w.alloc (.cells #[.int .i64 (v : Int), .int .i64 F, .slice s c.length cap] 24))
  rw [World.size_alloc] at Z0
  have hb0 : Below w.heap.size w ((w.alloc (.cells #[.int .i64 (v : Int), .int .i64 F, .slice s c.length cap] 24)).alloc (.cells #[.int .i64 0, .slice none 0 0, .slice none 0 0, .int .i64 0, .slice none 0 0, .int .i64 0] 46)) := by go_grown
  have hC := codeCheck_any (v : Int) F s cap c _ (hc.below hb0 (Nat.le_refl _))
  rw [h0] at hC
  have pv : ∀ wx, Below ((w.alloc (.cells #[.int .i64 (v : Int), .int .i64 F, .slice s c.length cap] 24)).alloc (.cells #[.int .i64 0, .slice none 0 0, .slice none 0 0, .int .i64 0, .slice none 0 0, .int .i64 0] 46)).heap.size ((w.alloc (.cells #[.int .i64 (v : Int), .int .i64 F, .slice s c.length cap] 24)).alloc (.cells #[.int .i64 0, .slice none 0 0, .slice none 0 0, .int .i64 0, .slice none 0 0, .int .i64 0] 46)) wx → wx.cell? ⟨w.heap.size, 0, none⟩ = some (.int .i64 (v : Int)) := fun wx hx => by rw [hx.cell (by simp; omega)]; simp [go_sem]
  go_enter Tryd.func19, Tryd.ntmps19
  go_wp2_with (go_at_call 14; fail)
  refine hC.mono ?_
  rintro e w1 ⟨rfl, hb1⟩
  have H1 := hb0.trans (hb1.mono hb0.size)
  have p0 := pv w1 hb1
  have Z1 := Z0.call hb1
  have z1 : w.heap.size + 1 + 1 ≤ w1.heap.size := by have := hb1.size; simpa using this
  clear hC pv Z0 hb1 hb0
  go_wp2_with (refine wpList_make_full _ rfl _ _ 42 rfl (w.heap.size + 1 + 1) 94 ti (.agg #[.int .i64 0, .int .i64 0]) 2 Tryd.underlying42 hi hz0 hz1 .i64 .i64 (v : Int) (v : Int) v rfl rfl rfl rfl (by rw [hz2]; omega) (by unfold maxLen; omega) z1 ?_; intro wm hown hgrow; obtain ⟨r0, r1, r2, r3, r4, r5, rf, rz⟩ := ZRun.block Z1 (hgrow.block _ Z1.2.2.2.2.2.2.2 (fun e => by cases e)))
  have hbm : Below w.heap.size w wm := H1.grown hgrow H1.size (fun j hj => by cases hj)
  refine bodyPost_ret (v := .tuple #[.agg #[.int .i64 0, .slice (some ⟨w1.heap.size, 0, none⟩) v v, .slice none 0 0, .int .i64 0, .slice none 0 0, .int .i64 0], .int .i64 0]) (by simp [results, Tryd.results19, go_sem, r0, r1, r2, r3, r4, r5]) rfl ⟨_, rfl, ?_, ?_⟩
  · have hz : w.heap.size + 1 < w.heap.size + 1 + 1 := by omega
    exact ownsRow_lower (ownsRow_setCell_below (a := ⟨w.heap.size + 1, 5, none⟩) (ownsRow_setCell_below (a := ⟨w.heap.size + 1, 4, none⟩) (ownsRow_setCell_below (a := ⟨w.heap.size + 1, 3, none⟩) (ownsRow_setCell_below (a := ⟨w.heap.size + 1, 2, none⟩) (ownsRow_setCell_below (a := ⟨w.heap.size + 1, 1, none⟩) (ownsRow_setCell_below (a := ⟨w.heap.size + 1, 0, none⟩) hown hz _) hz _) hz _) hz _) hz _) hz _) (show w.heap.size ≤ w.heap.size + 1 + 1 by omega)
  · exact (((((hbm.setCell (by simp) _).setCell (by simp) _).setCell (by simp) _).setCell (by simp) _).setCell (by simp) _).setCell (by simp) _
end Go.Proofs.YtmapdpcfanecdaaDoor
