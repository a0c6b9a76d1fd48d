/- Walks over package run: what the machine does, kind by kind. -/
import Derived.Test.YtmapdpcfanecdaaDoorKlawrsp10
import Derived.Test.YtmapdpcfanecdaaDoorKlawrsp15
import Derived.Test.YtmapdpcfanecdaaDoorKlawrsp14
import Derived.Lib.SliceRun
import Derived.Test.YtmapdpcfanecdaaDoorKlawrsp09
import Derived.Test.YtmapdpcfanecdaaDoorKlawrsp08
import Derived.Deep.DeepCutAuto
namespace Go.Proofs.YtmapdpcfanecdaaDoor
set_option linter.unusedVariables false
set_option linter.unusedSimpArgs false
open Go.RowKit
attribute [local go_sem ↓] Go.wp_at_zero Go.wp_at_succ

set_option maxHeartbeats 2000000 in
set_option maxRecDepth 100000 in
theorem clone_vals (ss : Option Addr) (sc : Nat) (l : List Val) (w : World) (hs : ValsAt w ss l) (hbig : l.length * 16 ≤ 140737488355328) :
    Calls Tryd.prog 72 #[.slice ss l.length sc] w fun e w' => ∃ v', e = .returned v' ∧ w'.ownsRow w.heap.size 94 2 v' l.length (valCells l) ∧ Below w.heap.size w w' := by
  obtain ⟨ti, hi, hz0, hz1, hz2⟩ := info_parts info_val
  have q : ∀ (w : World) (a : Option Addr) (n c n' c' : Nat), (binOp .eql 42 (.slice a n c) (.slice none n' c')).run Tryd.prog w = .ok (.bool a.isNone) w := fun w a n c n' c' => Lib.run_eql_slice_nil w _ _ a n c n' c' Tryd.underlying42
  have HN := hideK (hs.news)
  have h0 := hs.nil
  have hle : l.length ≤ maxLen := by unfold maxLen; omega
  cases ss with
  | none =>
    have hz : l.length = 0 := h0 rfl
    have HX : Hid ((valCells l) = []) := by
      show _ = _
      apply List.eq_nil_of_length_eq_zero
      have := (valCells_length l)
      omega
    clear HN hle
    go_enter Tryd.func72, Tryd.ntmps72
    go_wp2
    go_ret
    refine ⟨_, rfl, ?_, Below.refl _ _⟩
    rw [HX.out]
    (try rw [hz])
    exact World.ownsRow_nil _ _ _ _
  | some ad =>
    have hbl : Below w.heap.size w (w.alloc (.cells #[] 94)) := by go_grown
    go_enter Tryd.func72, Tryd.ntmps72
    go_wp2_with (at_builtin; refine wpList_append_any _ rfl _ _ 42 rfl w.heap.size 94 ti (.agg #[.int .i64 0, .int .i64 0]) 2 16 Tryd.underlying42 hi hz0 hz1 hz2 rfl (by decide) _ _ _ rfl (World.ownsRow_made w #[] 0 (Nat.le_refl _) (Nat.zero_le _) rfl) (some ad) l.length sc (valCells l) rfl ?qc1 (fun h => by cases h) ?qc2 ?qc3 ?qc4 ?qc5 ?qc6 ?_)
    case qc1 => exact (valCells_length l)
    case qc2 =>
      intro ad' e j u hj
      cases e
      have := HN.out ad rfl j u hj
      exact Lib.cell?_alloc_some _ this
    case qc3 => exact (one_vals l)
    case qc4 => simpa using hle
    case qc5 => simpa using hbig
    case qc6 => simp
    intro v' w1 hown hgrow hat
    go_wp2
    go_ret
    refine ⟨v', rfl, by simpa using hown, ?_⟩
    exact ((Below.refl _ w).alloc (Nat.le_refl _) _).grown hgrow (by simp) (by intro k hk; simp [Value.ownBlock] at hk; omega)

set_option maxHeartbeats 2000000 in
set_option maxRecDepth 100000 in
theorem clone_strs (ss : Option Addr) (sc : Nat) (l : List ByteArray) (w : World) (hs : StrsAt w ss l) (hbig : l.length * 16 ≤ 140737488355328) :
    Calls Tryd.prog 73 #[.slice ss l.length sc] w fun e w' => ∃ v', e = .returned v' ∧ w'.ownsRow w.heap.size 9 1 v' l.length (l.map Value.string) ∧ Below w.heap.size w w' := by
  obtain ⟨ti, hi, hz0, hz1, hz2⟩ := info_parts info_str
  have q : ∀ (w : World) (a : Option Addr) (n c n' c' : Nat), (binOp .eql 44 (.slice a n c) (.slice none n' c')).run Tryd.prog w = .ok (.bool a.isNone) w := fun w a n c n' c' => Lib.run_eql_slice_nil w _ _ a n c n' c' Tryd.underlying44
  have HN := hideK (hs.news)
  have h0 := hs.nil
  have hle : l.length ≤ maxLen := by unfold maxLen; omega
  cases ss with
  | none =>
    have hz : l.length = 0 := h0 rfl
    have HX : Hid ((l.map Value.string) = []) := by
      show _ = _
      apply List.eq_nil_of_length_eq_zero
      have := (show (l.map Value.string).length = l.length * 1 by simp)
      omega
    clear HN hle
    go_enter Tryd.func73, Tryd.ntmps73
    go_wp2
    go_ret
    refine ⟨_, rfl, ?_, Below.refl _ _⟩
    rw [HX.out]
    (try rw [hz])
    exact World.ownsRow_nil _ _ _ _
  | some ad =>
    have hbl : Below w.heap.size w (w.alloc (.cells #[] 9)) := by go_grown
    go_enter Tryd.func73, Tryd.ntmps73
    go_wp2_with (at_builtin; refine wpList_append_any _ rfl _ _ 44 rfl w.heap.size 9 ti (.string ⟨#[]⟩) 1 16 Tryd.underlying44 hi hz0 hz1 hz2 rfl (by decide) _ _ _ rfl (World.ownsRow_made w #[] 0 (Nat.le_refl _) (Nat.zero_le _) rfl) (some ad) l.length sc (l.map Value.string) rfl ?qc1 (fun h => by cases h) ?qc2 ?qc3 ?qc4 ?qc5 ?qc6 ?_)
    case qc1 => exact (show (l.map Value.string).length = l.length * 1 by simp)
    case qc2 =>
      intro ad' e j u hj
      cases e
      have := HN.out ad rfl j u hj
      exact Lib.cell?_alloc_some _ this
    case qc3 => exact (one_strs l)
    case qc4 => simpa using hle
    case qc5 => simpa using hbig
    case qc6 => simp
    intro v' w1 hown hgrow hat
    go_wp2
    go_ret
    refine ⟨v', rfl, by simpa using hown, ?_⟩
    exact ((Below.refl _ w).alloc (Nat.le_refl _) _).grown hgrow (by simp) (by intro k hk; simp [Value.ownBlock] at hk; omega)

set_option maxHeartbeats 2000000 in
set_option maxRecDepth 100000 in
theorem clone_thgs (ss : Option Addr) (sc : Nat) (l : List Int) (fo : List Value) (w : World) (hlen : fo.length = l.length) (hnil : ss = none → l.length = 0) (hnews : ∀ ad, ss = some ad → ∀ j u, (thgCells l fo)[j]? = some u → w.cell? (ad.add j) = some u) (hone : ∀ v ∈ fo, v.oneCell' = true) (hbig : l.length * 32 ≤ 140737488355328) :
    Calls Tryd.prog 74 #[.slice ss l.length sc] w fun e w' => ∃ v', e = .returned v' ∧ w'.ownsRow w.heap.size 99 2 v' l.length (thgCells l fo) ∧ Below w.heap.size w w' := by
  obtain ⟨ti, hi, hz0, hz1, hz2⟩ := info_parts info_thg
  have q : ∀ (w : World) (a : Option Addr) (n c n' c' : Nat), (binOp .eql 43 (.slice a n c) (.slice none n' c')).run Tryd.prog w = .ok (.bool a.isNone) w := fun w a n c n' c' => Lib.run_eql_slice_nil w _ _ a n c n' c' Tryd.underlying43
  have HN := hideK (hnews)
  have h0 := hnil
  have hle : l.length ≤ maxLen := by unfold maxLen; omega
  cases ss with
  | none =>
    have hz : l.length = 0 := h0 rfl
    have HX : Hid ((thgCells l fo) = []) := by
      show _ = _
      apply List.eq_nil_of_length_eq_zero
      have := (thgCells_length l fo hlen)
      omega
    clear HN hle
    go_enter Tryd.func74, Tryd.ntmps74
    go_wp2
    go_ret
    refine ⟨_, rfl, ?_, Below.refl _ _⟩
    rw [HX.out]
    (try rw [hz])
    exact World.ownsRow_nil _ _ _ _
  | some ad =>
    have hbl : Below w.heap.size w (w.alloc (.cells #[] 99)) := by go_grown
    go_enter Tryd.func74, Tryd.ntmps74
    go_wp2_with (at_builtin; refine wpList_append_any _ rfl _ _ 43 rfl w.heap.size 99 ti (.agg #[.int .i64 0, .slice none 0 0]) 2 32 Tryd.underlying43 hi hz0 hz1 hz2 rfl (by decide) _ _ _ rfl (World.ownsRow_made w #[] 0 (Nat.le_refl _) (Nat.zero_le _) rfl) (some ad) l.length sc (thgCells l fo) rfl ?qc1 (fun h => by cases h) ?qc2 ?qc3 ?qc4 ?qc5 ?qc6 ?_)
    case qc1 => exact (thgCells_length l fo hlen)
    case qc2 =>
      intro ad' e j u hj
      cases e
      have := HN.out ad rfl j u hj
      exact Lib.cell?_alloc_some _ this
    case qc3 => exact (one_thgs l fo hone)
    case qc4 => simpa using hle
    case qc5 => simpa using hbig
    case qc6 => simp
    intro v' w1 hown hgrow hat
    go_wp2
    go_ret
    refine ⟨v', rfl, by simpa using hown, ?_⟩
    exact ((Below.refl _ w).alloc (Nat.le_refl _) _).grown hgrow (by simp) (by intro k hk; simp [Value.ownBlock] at hk; omega)
end Go.Proofs.YtmapdpcfanecdaaDoor

namespace Go.Proofs.YtmapdpcfanecdaaDoor
set_option linter.unusedVariables false
set_option linter.unusedSimpArgs false
open Go.RowKit

def R6 (w : World) (b : Nat) (x0 x1 x2 x3 x4 x5 : Value) : Prop := (w.cell? ⟨b, 0, none⟩ = some x0 ∧ w.cell? ⟨b, 1, none⟩ = some x1 ∧ w.cell? ⟨b, 2, none⟩ = some x2 ∧ w.cell? ⟨b, 3, none⟩ = some x3 ∧ w.cell? ⟨b, 4, none⟩ = some x4 ∧ w.cell? ⟨b, 5, none⟩ = some x5) ∧ b < w.heap.size ∧ ∀ j, w.frozen? ⟨b, j, none⟩ = false
abbrev set6 (w : World) (b : Nat) (y0 y1 y2 y3 y4 y5 : Value) : World := (((((w.setCell ⟨b, 0, none⟩ y0).setCell ⟨b, 1, none⟩ y1).setCell ⟨b, 2, none⟩ y2).setCell ⟨b, 3, none⟩ y3).setCell ⟨b, 4, none⟩ y4).setCell ⟨b, 5, none⟩ y5
section
variable {w w' : World} {B b : Nat} {x0 x1 x2 x3 x4 x5 : Value}
theorem R6.same (h : R6 w b x0 x1 x2 x3 x4 x5) (hb : w'.heap[b]? = w.heap[b]?) (hz : w.heap.size ≤ w'.heap.size) : R6 w' b x0 x1 x2 x3 x4 x5 := by
  have hc : ∀ j, w'.cell? ⟨b, j, none⟩ = w.cell? ⟨b, j, none⟩ := fun j => World.cell?_of_block (a := ⟨b, j, none⟩) hb
  have hf : ∀ j, w'.frozen? ⟨b, j, none⟩ = w.frozen? ⟨b, j, none⟩ := fun j => World.frozen?_of_block (a := ⟨b, j, none⟩) hb
  obtain ⟨⟨h0, h1, h2, h3, h4, h5⟩, h6, h7⟩ := h
  exact ⟨⟨(hc _).trans h0, (hc _).trans h1, (hc _).trans h2, (hc _).trans h3, (hc _).trans h4, (hc _).trans h5⟩, Nat.lt_of_lt_of_le h6 hz, fun j => (hf j).trans (h7 j)⟩
theorem R6.below (h : R6 w b x0 x1 x2 x3 x4 x5) (hb : Below B w w') (hB : b < B) : R6 w' b x0 x1 x2 x3 x4 x5 := h.same (hb.block b hB) hb.size
theorem R6.call (h : R6 w b x0 x1 x2 x3 x4 x5) (hb : Below w.heap.size w w') : R6 w' b x0 x1 x2 x3 x4 x5 := h.below hb h.2.1
theorem R6.new (w : World) (t : TypeId) (x0 x1 x2 x3 x4 x5 : Value) : R6 (w.alloc (.cells #[x0, x1, x2, x3, x4, x5] t)) w.heap.size x0 x1 x2 x3 x4 x5 := by
  refine ⟨⟨?_, ?_, ?_, ?_, ?_, ?_⟩, by simp, fun j => ?_⟩ <;> simp [go_sem]
theorem set6_far (w : World) (b : Nat) (y0 y1 y2 y3 y4 y5 : Value) (k : Nat) (hk : k ≠ b) : (set6 w b y0 y1 y2 y3 y4 y5).heap[k]? = w.heap[k]? := by
  unfold set6
  rw [Below.heap_setCell _ _ _ _ hk, Below.heap_setCell _ _ _ _ hk, Below.heap_setCell _ _ _ _ hk, Below.heap_setCell _ _ _ _ hk, Below.heap_setCell _ _ _ _ hk, Below.heap_setCell _ _ _ _ hk]
theorem set6_size (w : World) (b : Nat) (y0 y1 y2 y3 y4 y5 : Value) : (set6 w b y0 y1 y2 y3 y4 y5).heap.size = w.heap.size := by simp [set6, World.setCell]
theorem below_set6 {a : World} (h : Below B a w) (hB : B ≤ b) (y0 y1 y2 y3 y4 y5 : Value) : Below B a (set6 w b y0 y1 y2 y3 y4 y5) :=
  (((((h.setCell (p := ⟨b, 0, none⟩) hB _).setCell (p := ⟨b, 1, none⟩) hB _).setCell (p := ⟨b, 2, none⟩) hB _).setCell (p := ⟨b, 3, none⟩) hB _).setCell (p := ⟨b, 4, none⟩) hB _).setCell (p := ⟨b, 5, none⟩) hB _
theorem cell_off {w : World} {b i j : Nat} (h : i ≠ j) (y : Value) : (w.setCell ⟨b, i, none⟩ y).cell? ⟨b, j, none⟩ = w.cell? ⟨b, j, none⟩ := World.cell?_setCell_other _ _ _ _ (by intro e; cases e; exact h rfl)
theorem cell_on {w : World} {b j : Nat} {u : Value} (h : w.cell? ⟨b, j, none⟩ = some u) (y : Value) : (w.setCell ⟨b, j, none⟩ y).cell? ⟨b, j, none⟩ = some y := World.cell?_setCell_same _ _ _ h
theorem R6.put (h : R6 w b x0 x1 x2 x3 x4 x5) (y0 y1 y2 y3 y4 y5 : Value) : R6 (set6 w b y0 y1 y2 y3 y4 y5) b y0 y1 y2 y3 y4 y5 := by
  obtain ⟨⟨h0, h1, h2, h3, h4, h5⟩, h6, h7⟩ := h
  refine ⟨⟨?_, ?_, ?_, ?_, ?_, ?_⟩, by rw [set6_size]; exact h6, fun j => by simp only [set6, World.frozen?_setCell]; exact h7 j⟩
  · unfold set6
    rw [cell_off (by omega), cell_off (by omega), cell_off (by omega), cell_off (by omega), cell_off (by omega)]
    exact cell_on h0 _
  · unfold set6
    rw [cell_off (by omega), cell_off (by omega), cell_off (by omega), cell_off (by omega)]
    exact cell_on (by rw [cell_off (by omega)]; exact h1) _
  · unfold set6
    rw [cell_off (by omega), cell_off (by omega), cell_off (by omega)]
    exact cell_on (by rw [cell_off (by omega), cell_off (by omega)]; exact h2) _
  · unfold set6
    rw [cell_off (by omega), cell_off (by omega)]
    exact cell_on (by rw [cell_off (by omega), cell_off (by omega), cell_off (by omega)]; exact h3) _
  · unfold set6
    rw [cell_off (by omega)]
    exact cell_on (by rw [cell_off (by omega), cell_off (by omega), cell_off (by omega), cell_off (by omega)]; exact h4) _
  · unfold set6
    exact cell_on (by rw [cell_off (by omega), cell_off (by omega), cell_off (by omega), cell_off (by omega), cell_off (by omega)]; exact h5) _
theorem R6.cells {s : St} {vv tv lv : Value} (h : R6 w b (.int .i64 s.at_) vv tv (.int .i64 s.taken) lv (.int .i64 s.fin)) : RunCells w b s vv tv lv := ⟨h.1, h.2.2⟩
theorem OwnRun.r6 {s : St} {vv tv lv : Value} {fv : List Value} (h : OwnRun w B b s vv tv lv fv) : R6 w b (.int .i64 s.at_) vv tv (.int .i64 s.taken) lv (.int .i64 s.fin) := ⟨⟨h.at_, h.vars_, h.things_, h.taken_, h.lines_, h.fin_⟩, h.lt (by simp [ownBlocks]), h.thaw⟩
/-- Rows apart from a block that is set. -/
theorem OwnRows.set6 {s : St} {vv tv lv : Value} {fv : List Value} (h : OwnRows w B s vv tv lv fv) (hb : b < B) (y0 y1 y2 y3 y4 y5 : Value) : OwnRows (set6 w b y0 y1 y2 y3 y4 y5) B s vv tv lv fv := by
  refine h.same fun k hk => set6_far _ _ _ _ _ _ _ _ k (fun e => ?_)
  have := (h.lt hk).2
  omega
/-- A run's beginning, its row just made. -/
theorem begin_rows {v g : Nat} (h8 : v ≤ 8) (h : w.ownsRow B 94 2 (.slice (some ⟨g, 0, none⟩) v v) v (valCells (List.replicate v ⟨0, 0⟩))) : OwnRows w B (beginSt v) (.slice (some ⟨g, 0, none⟩) v v) (.slice none 0 0) (.slice none 0 0) [] := by
  refine ⟨?_, World.ownsRow_nil _ _ _ _, rfl, fun i hi => by simp [beginSt] at hi, World.ownsRow_nil _ _ _ _, by simp [Value.ownBlock]⟩
  unfold ValRow
  simpa [beginSt] using h
end
end Go.Proofs.YtmapdpcfanecdaaDoor

namespace Go.Proofs.YtmapdpcfanecdaaDoor
set_option linter.unusedVariables false
set_option linter.unusedSimpArgs false
open Go.RowKit
attribute [local go_sem ↓] Go.wp_at_zero Go.wp_at_succ

section
variable {w w' : World} {b : Nat} {x0 x1 x2 x3 x4 x5 : Value}
theorem R6.put1 (h : R6 w b x0 x1 x2 x3 x4 x5) (y : Value) : R6 (w.setCell ⟨b, 1, none⟩ y) b x0 y x2 x3 x4 x5 := by
  obtain ⟨⟨h0, h1, h2, h3, h4, h5⟩, h6, h7⟩ := h
  exact ⟨⟨by rw [cell_off (by omega)]; exact h0, cell_on h1 _, by rw [cell_off (by omega)]; exact h2, by rw [cell_off (by omega)]; exact h3, by rw [cell_off (by omega)]; exact h4, by rw [cell_off (by omega)]; exact h5⟩, by simpa [World.setCell] using h6, fun j => by rw [World.frozen?_setCell]; exact h7 j⟩
theorem R6.put2 (h : R6 w b x0 x1 x2 x3 x4 x5) (y : Value) : R6 (w.setCell ⟨b, 2, none⟩ y) b x0 x1 y x3 x4 x5 := by
  obtain ⟨⟨h0, h1, h2, h3, h4, h5⟩, h6, h7⟩ := h
  exact ⟨⟨by rw [cell_off (by omega)]; exact h0, by rw [cell_off (by omega)]; exact h1, cell_on h2 _, by rw [cell_off (by omega)]; exact h3, by rw [cell_off (by omega)]; exact h4, by rw [cell_off (by omega)]; exact h5⟩, by simpa [World.setCell] using h6, fun j => by rw [World.frozen?_setCell]; exact h7 j⟩
theorem R6.put4 (h : R6 w b x0 x1 x2 x3 x4 x5) (y : Value) : R6 (w.setCell ⟨b, 4, none⟩ y) b x0 x1 x2 x3 y x5 := by
  obtain ⟨⟨h0, h1, h2, h3, h4, h5⟩, h6, h7⟩ := h
  exact ⟨⟨by rw [cell_off (by omega)]; exact h0, by rw [cell_off (by omega)]; exact h1, by rw [cell_off (by omega)]; exact h2, by rw [cell_off (by omega)]; exact h3, cell_on h4 _, by rw [cell_off (by omega)]; exact h5⟩, by simpa [World.setCell] using h6, fun j => by rw [World.frozen?_setCell]; exact h7 j⟩
theorem R6.far (h : R6 w b x0 x1 x2 x3 x4 x5) {a : Addr} (ha : a.block ≠ b) (y : Value) : R6 (w.setCell a y) b x0 x1 x2 x3 x4 x5 := h.same (Below.heap_setCell _ _ _ _ (Ne.symm ha)) (by simp [World.setCell])
theorem ownsRow_far {B : Nat} {e : TypeId} {z : Nat} {v : Value} {n : Nat} {xs : List Value} (h : w.ownsRow B e z v n xs) {a : Addr} (ha : v.ownBlock ≠ some a.block) (y : Value) : (w.setCell a y).ownsRow B e z v n xs :=
  ownsRow_of_block h (fun k hk => Below.heap_setCell _ _ _ _ (fun e => ha (by rw [hk, e])))
theorem ownsRow_call {B : Nat} {e : TypeId} {z : Nat} {v : Value} {n : Nat} {xs : List Value} (h : w.ownsRow B e z v n xs) (hb : Below w.heap.size w w') : w'.ownsRow B e z v n xs :=
  ownsRow_of_block h (fun k hk => hb.block k (ownsRow_block_lt h hk).1)
theorem ownsRow_ge {B : Nat} {e : TypeId} {z : Nat} {v : Value} {n : Nat} {xs : List Value} (h : w.ownsRow B e z v n xs) {k : Nat} (hk : k < B) : v.ownBlock ≠ some k := fun e => by have := (ownsRow_block_lt h e).2; omega
end
/-- What is known while a run's things are copied: fn: the fields copied so far; fo: the old ones. -/
structure CpInv (w wr : World) (r : St) (fo fn : List Value) (vv tv lv : Value) : Prop where
  low : Below w.heap.size w wr
  run : R6 wr w.heap.size (.int .i64 r.at_) vv tv (.int .i64 r.taken) lv (.int .i64 r.fin)
  res : R6 wr (w.heap.size + 1) (.int .i64 0) (.slice none 0 0) (.slice none 0 0) (.int .i64 0) (.slice none 0 0) (.int .i64 0)
  vars : ValRow wr (w.heap.size + 1 + 1) vv r.vars
  lines : wr.ownsRow (w.heap.size + 1 + 1) 9 1 lv r.lines.length (r.lines.map .string)
  things : wr.ownsRow (w.heap.size + 1 + 1) 99 2 tv r.things.length (thgCells (r.things.map (·.site)) (fn ++ fo.drop fn.length))
  le : fn.length ≤ r.things.length
  old : fo.length = r.things.length
  fields : ∀ j (h : j < fn.length), ValRow wr (w.heap.size + 1 + 1) fn[j] (r.things[j]'(Nat.lt_of_lt_of_le h le)).fs
  apart : (vv.ownBlock :: tv.ownBlock :: lv.ownBlock :: fn.map Value.ownBlock).Pairwise fun a b => ∀ x, a = some x → b ≠ some x
theorem CpInv.rows {w wr : World} {r : St} {fo fn : List Value} {vv tv lv : Value} (h : CpInv w wr r fo fn vv tv lv) (hn : fn.length = r.things.length) : OwnRows wr (w.heap.size + 1 + 1) r vv tv lv fn := by
  have ht := h.things
  rw [hn, ← h.old, List.drop_length, List.append_nil] at ht
  rw [h.old] at ht
  exact ⟨h.vars, ht, hn, fun i hi => h.fields i (by omega), h.lines, h.apart⟩
theorem CpInv.step {w wr w1 : World} {r : St} {fo fn : List Value} {vv lv v' : Value} {gt tc : Nat} (h : CpInv w wr r fo fn vv (.slice (some ⟨gt, 0, none⟩) r.things.length tc) lv) (hlt : fn.length < r.things.length) (hb : Below wr.heap.size wr w1) (hv : ValRow w1 wr.heap.size v' r.things[fn.length].fs) :
    CpInv w (w1.setCell ⟨gt, fn.length * 2 + 1, none⟩ v') r fo (fn ++ [v']) vv (.slice (some ⟨gt, 0, none⟩) r.things.length tc) lv := by
  have hap := h.apart
  simp only [List.pairwise_cons] at hap
  obtain ⟨a1, a2, a3, a4⟩ := hap
  have gtl := ownsRow_block_lt h.things (k := gt) rfl
  have hz := h.low.size
  have hrz := h.run.2.1
  have hsz := h.res.2.1
  have vlt : ∀ k, vv.ownBlock = some k → k < wr.heap.size := fun k hk => (ownsRow_block_lt h.vars hk).1
  have llt : ∀ k, lv.ownBlock = some k → k < wr.heap.size := fun k hk => (ownsRow_block_lt h.lines hk).1
  have flt : ∀ k, some k ∈ fn.map Value.ownBlock → k < wr.heap.size := fun k hk => by
    obtain ⟨x, hx, hxk⟩ := List.mem_map.1 hk
    obtain ⟨i, hi, rfl⟩ := List.getElem_of_mem hx
    exact (ownsRow_block_lt (h.fields i hi) hxk).1
  have vge : ∀ k, k < wr.heap.size → v'.ownBlock ≠ some k := fun k hk => ownsRow_ge hv hk
  have ngv : vv.ownBlock ≠ some gt := fun e => a1 (some gt) (by simp [Value.ownBlock]) gt e rfl
  have ngl : lv.ownBlock ≠ some gt := fun e => a2 lv.ownBlock (by simp) gt rfl e
  have ngf : ∀ i (hi : i < fn.length), fn[i].ownBlock ≠ some gt := fun i hi e => a2 (some gt) (by simp only [List.mem_cons]; right; exact List.mem_map.2 ⟨_, List.getElem_mem hi, e⟩) gt rfl rfl
  refine ⟨(h.low.trans (hb.mono hz)).setCell (by simp only; omega) _, (h.run.call hb).far (by simp only; omega) _, (h.res.call hb).far (by simp only; omega) _, ownsRow_far (ownsRow_call h.vars hb) ngv _, ownsRow_far (ownsRow_call h.lines hb) ngl _, ?_, by simp; omega, h.old, fun j hj => ?_, ?_⟩
  · have ht := ownsRow_call h.things hb
    have hs := (ht.stored (fn.length * 2 + 1) v').1
    have hfl : (fn ++ fo.drop fn.length).length = (r.things.map (·.site)).length := by have := h.old; have := h.le; simp; omega
    rw [thgCells_set _ _ hfl fn.length (by rw [hfl]; simpa using hlt)] at hs
    have e : (fn ++ fo.drop fn.length).set fn.length v' = (fn ++ [v']) ++ fo.drop (fn ++ [v']).length := by
      have hd : fo.drop fn.length = fo[fn.length]'(by rw [h.old]; exact hlt) :: fo.drop (fn.length + 1) := List.drop_eq_getElem_cons _
      rw [List.set_append_right _ _ (Nat.le_refl _), Nat.sub_self, hd]
      simp only [List.set_cons_zero, List.length_append, List.length_cons, List.length_nil, List.append_assoc, List.cons_append, List.nil_append, Nat.zero_add]
    rw [e] at hs
    exact hs
  · by_cases hj' : j < fn.length
    · have e : (fn ++ [v'])[j] = fn[j] := List.getElem_append_left hj'
      rw [e]
      exact ownsRow_far (ownsRow_call (h.fields j hj') hb) (ngf j hj') _
    · have e : j = fn.length := by simp at hj; omega
      subst e
      have e : (fn ++ [v'])[fn.length] = v' := by simp
      rw [e]
      exact ownsRow_far (ownsRow_down hv (by omega)) (vge gt gtl.1) _
  · simp only [List.pairwise_cons]
    refine ⟨fun b hb x hx e => ?_, fun b hb x hx e => ?_, fun b hb x hx e => ?_, ?_⟩
    · simp only [List.map_append, List.map_cons, List.map_nil, List.mem_cons, List.mem_append, List.not_mem_nil, or_false] at hb
      rcases hb with hb | hb | hb | hb
      · exact a1 b (by simp [hb]) x hx e
      · exact a1 b (by simp [hb]) x hx e
      · exact a1 b (by simp only [List.mem_cons]; simp only [hb, or_true]) x hx e
      · subst hb; exact vge x (vlt x hx) e
    · simp only [List.map_append, List.map_cons, List.map_nil, List.mem_cons, List.mem_append, List.not_mem_nil, or_false] at hb
      rcases hb with hb | hb | hb
      · exact a2 b (by simp [hb]) x hx e
      · exact a2 b (by simp only [List.mem_cons]; simp only [hb, or_true]) x hx e
      · subst hb
        cases hx
        exact vge gt gtl.1 e
    · simp only [List.map_append, List.map_cons, List.map_nil, List.mem_append, List.mem_cons, List.not_mem_nil, or_false] at hb
      rcases hb with hb | hb
      · exact a3 b hb x hx e
      · subst hb; exact vge x (llt x hx) e
    · rw [List.map_append]
      refine List.pairwise_append.2 ⟨a4, by simp, fun a ha b hb x hx e => ?_⟩
      simp only [List.map_cons, List.map_nil, List.mem_singleton] at hb
      subst hb
      subst hx
      exact vge x (flt x ha) e
end Go.Proofs.YtmapdpcfanecdaaDoor

namespace Go.Proofs.YtmapdpcfanecdaaDoor
set_option linter.unusedVariables false
set_option linter.unusedSimpArgs false
open Go.RowKit
attribute [local go_sem ↓] Go.wp_at_zero Go.wp_at_succ

set_option maxHeartbeats 8000000 in
set_option maxRecDepth 20000 in
theorem copyRun_any (r : St) (vs : Option Addr) (vc : Nat) (ts : Option Addr) (tc : Nat) (ls : Option Addr) (lc : Nat) (w : World) (hr : RunAt w r vs ts ls) (hv8 : r.vars.length ≤ 100) (hf3 : ∀ t ∈ r.things, t.fs.length ≤ 100) (ht : r.things.length ≤ 100) (hls : r.lines.length * 16 ≤ 140737488355328) :
    Calls Tryd.prog 47 #[runV r vs vc ts tc ls lc] w fun e w' => ∃ vv tv lv fv, e = .returned (.agg #[.int .i64 r.at_, vv, tv, .int .i64 r.taken, lv, .int .i64 r.fin]) ∧ OwnRows w' w.heap.size r vv tv lv fv ∧ Below w.heap.size w w' := by
  unfold runV
  have hb0 : Below w.heap.size w ((w.alloc (.cells #[.int .i64 r.at_, .slice vs r.vars.length vc, .slice ts r.things.length tc, .int .i64 r.taken, .slice ls r.lines.length lc, .int .i64 r.fin] 46)).alloc (.cells #[.int .i64 0, .slice none 0 0, .slice none 0 0, .int .i64 0, .slice none 0 0, .int .i64 0] 46)) := by go_grown
  have Q0 := (R6.new w 46 (.int .i64 r.at_) (.slice vs r.vars.length vc) (.slice ts r.things.length tc) (.int .i64 r.taken) (.slice ls r.lines.length lc) (.int .i64 r.fin)).call (w' := ((w.alloc (.cells #[.int .i64 r.at_, .slice vs r.vars.length vc, .slice ts r.things.length tc, .int .i64 r.taken, .slice ls r.lines.length lc, .int .i64 r.fin] 46)).alloc (.cells #[.int .i64 0, .slice none 0 0, .slice none 0 0, .int .i64 0, .slice none 0 0, .int .i64 0] 46))) (by go_grown)
  have Z0 := R6.new (w.alloc (.cells #[.int .i64 r.at_, .slice vs r.vars.length vc, .slice ts r.things.length tc, .int .i64 r.taken, .slice ls r.lines.length lc, .int .i64 r.fin] 46)) 46 (.int .i64 0) (.slice none 0 0) (.slice none 0 0) (.int .i64 0) (.slice none 0 0) (.int .i64 0)
  rw [World.size_alloc] at Z0
  obtain ⟨fo, hfo1, hfo2, hfo3⟩ := hr.2.1.list
  have hz2 : ((w.alloc (.cells #[.int .i64 r.at_, .slice vs r.vars.length vc, .slice ts r.things.length tc, .int .i64 r.taken, .slice ls r.lines.length lc, .int .i64 r.fin] 46)).alloc (.cells #[.int .i64 0, .slice none 0 0, .slice none 0 0, .int .i64 0, .slice none 0 0, .int .i64 0] 46)).heap.size = w.heap.size + 1 + 1 := by simp
  have H1 := hideK (clone_vals vs vc r.vars ((w.alloc (.cells #[.int .i64 r.at_, .slice vs r.vars.length vc, .slice ts r.things.length tc, .int .i64 r.taken, .slice ls r.lines.length lc, .int .i64 r.fin] 46)).alloc (.cells #[.int .i64 0, .slice none 0 0, .slice none 0 0, .int .i64 0, .slice none 0 0, .int .i64 0] 46)) (hr.1.below hb0 (Nat.le_refl _)) (by omega))
  have H2 := hideK (fun (wx : World) (hx : Below w.heap.size w wx) => clone_strs ls lc r.lines wx (hr.2.2.below hx (Nat.le_refl _)) hls)
  have H3 := hideK (fun (wx : World) (hx : Below w.heap.size w wx) => clone_thgs ts tc (r.things.map (·.site)) fo wx (by simpa using hfo1) (fun e => by simpa using hr.2.1.nil e) (fun ad e j u hu => by
    obtain ⟨k, h1, h2, hk⟩ := thgCells_get _ _ (by simpa using hfo1) j u hu
    rcases hfo3 with hfo3 | ⟨b, off, es, hbz, hi⟩
    · rw [hfo3] at h1; simp at h1
    · rw [es] at e
      cases e
      have hkl : k < r.things.length := by simpa using h1
      have q := hi k hkl h2
      rcases hk with ⟨rfl, rfl⟩ | ⟨rfl, rfl⟩
      · have e : (⟨b, off, none⟩ : Addr).add (k * 2) = ⟨b, off + k * 2, none⟩ := by unfold Addr.add; split <;> simp_all
        rw [e, hx.cell (by simpa using hbz)]
        simpa using q.1
      · have e : (⟨b, off, none⟩ : Addr).add (k * 2 + 1) = ⟨b, off + k * 2 + 1, none⟩ := by unfold Addr.add; split <;> simp_all [Nat.add_assoc]
        rw [e, hx.cell (by simpa using hbz)]
        exact q.2) (fun v hv => by
    obtain ⟨i, hi, rfl⟩ := List.getElem_of_mem hv
    obtain ⟨f, fc, e, -⟩ := hfo2 i (by omega) hi
    rw [e]
    rfl) (by simp; omega))
  have H4 := hideK (fun (wx : World) (hx : Below w.heap.size w wx) (k : Nat) (hk : k < r.things.length) (f : Option Addr) (fc : Nat) (hf : ValsAt w f r.things[k].fs) => clone_vals f fc r.things[k].fs wx (hf.below hx (Nat.le_refl _)) (by have := hf3 _ (List.getElem_mem hk); omega))
  have HF := hideK hfo2
  clear hr hfo2 hfo3 hf3
  obtain ⟨⟨r0, r1, r2, r3, r4, r5⟩, rz, rf⟩ := id Q0
  have g1 := rf 1
  clear rf
  go_enter Tryd.func47, Tryd.ntmps47
  go_wp2_with (go_at_call 72; fail)
  generalize ((w.alloc (.cells #[.int .i64 r.at_, .slice vs r.vars.length vc, .slice ts r.things.length tc, .int .i64 r.taken, .slice ls r.lines.length lc, .int .i64 r.fin] 46)).alloc (.cells #[.int .i64 0, .slice none 0 0, .slice none 0 0, .int .i64 0, .slice none 0 0, .int .i64 0] 46)) = w2 at *
  refine H1.out.mono ?_
  rintro e w3 ⟨vv, rfl, ov, hb3⟩
  clear H1 r0 r1 r2 r3 r4 r5 rz g1
  obtain ⟨vs1, vc1, rfl, -⟩ := ValRow.at ov
  rw [hz2] at ov
  have QA := (Q0.call hb3).put1 (.slice vs1 r.vars.length vc1)
  have ZA := (Z0.call hb3).far (a := ⟨w.heap.size, 1, none⟩) (by simp) (.slice vs1 r.vars.length vc1)
  have BA : Below w.heap.size w (w3.setCell ⟨w.heap.size, 1, none⟩ (.slice vs1 r.vars.length vc1)) := (hb0.trans (hb3.mono hb0.size)).setCell (by simp) _
  have OA : ValRow (w3.setCell ⟨w.heap.size, 1, none⟩ (.slice vs1 r.vars.length vc1)) (w.heap.size + 1 + 1) (.slice vs1 r.vars.length vc1) r.vars := ownsRow_far ov (ownsRow_ge ov (by simp only; omega)) _
  have q1 := (Q0.call hb3).1.2.1
  have g1 := (Q0.call hb3).2.2 1
  have q4 := (Q0.call hb3).1.2.2.2.2.1
  have zA : w.heap.size + 1 + 1 ≤ (w3.setCell ⟨w.heap.size, 1, none⟩ (.slice vs1 r.vars.length vc1)).heap.size := by have := hb3.size; simp [World.setCell]; omega
  clear Q0 Z0 ov hb3
  go_wp2_with (go_at_call 73; fail)
  generalize w3.setCell ⟨w.heap.size, 1, none⟩ (.slice vs1 r.vars.length vc1) = w4 at *
  refine (H2.out w4 BA).mono ?_
  rintro e w5 ⟨lv, rfl, ol, hb5⟩
  clear H2 q1 g1 q4
  obtain ⟨ls1, lc1, rfl, -⟩ := StrRow.at ol
  have q4 := (QA.call hb5).1.2.2.2.2.1
  have g4 := (QA.call hb5).2.2 4
  have q2 := (QA.call hb5).1.2.2.1
  have QB := (QA.call hb5).put4 (.slice ls1 r.lines.length lc1)
  have ZB := (ZA.call hb5).far (a := ⟨w.heap.size, 4, none⟩) (by simp) (.slice ls1 r.lines.length lc1)
  have BB : Below w.heap.size w (w5.setCell ⟨w.heap.size, 4, none⟩ (.slice ls1 r.lines.length lc1)) := (BA.trans (hb5.mono BA.size)).setCell (by simp) _
  have OB := ownsRow_far (a := ⟨w.heap.size, 4, none⟩) (ownsRow_call OA hb5) (ownsRow_ge OA (by simp only; omega)) (.slice ls1 r.lines.length lc1)
  have LB := ownsRow_far (a := ⟨w.heap.size, 4, none⟩) ol (ownsRow_ge ol (by simp only; omega)) (.slice ls1 r.lines.length lc1)
  have apB : ∀ x, (Value.slice vs1 r.vars.length vc1).ownBlock = some x → (Value.slice ls1 r.lines.length lc1).ownBlock ≠ some x := fun x hx => ownsRow_ge ol (ownsRow_block_lt OA hx).1
  have zB : w.heap.size + 1 + 1 ≤ (w5.setCell ⟨w.heap.size, 4, none⟩ (.slice ls1 r.lines.length lc1)).heap.size := by have := hb5.size; simp [World.setCell]; omega
  have LB' := ownsRow_down LB zA
  clear QA ZA BA OA ol hb5 LB
  go_wp2_with (go_at_call 74; fail)
  generalize w5.setCell ⟨w.heap.size, 4, none⟩ (.slice ls1 r.lines.length lc1) = w6 at *
  have H3' := H3.out w6 BB
  simp only [List.length_map] at H3'
  refine H3'.mono ?_
  rintro e w7 ⟨tv, rfl, ot, hb7⟩
  clear H3 H3' q4 g4 q2
  have etv : ∃ ts1 tc1, tv = .slice ts1 r.things.length tc1 := by
    rcases ot.2 with ⟨hv, hn⟩ | ⟨g, cap, cur, hv, _⟩
    · exact ⟨none, 0, by rw [hv, hn]⟩
    · exact ⟨_, _, hv⟩
  obtain ⟨ts1, tc1, rfl⟩ := etv
  have q2 := (QB.call hb7).1.2.2.1
  have g2 := (QB.call hb7).2.2 2
  have IV : CpInv w (w7.setCell ⟨w.heap.size, 2, none⟩ (.slice ts1 r.things.length tc1)) r fo [] (.slice vs1 r.vars.length vc1) (.slice ts1 r.things.length tc1) (.slice ls1 r.lines.length lc1) := by
    refine ⟨(BB.trans (hb7.mono BB.size)).setCell (by simp) _, (QB.call hb7).put2 _, (ZB.call hb7).far (by simp) _, ownsRow_far (ownsRow_call OB hb7) (ownsRow_ge OB (by simp only; omega)) _, ownsRow_far (ownsRow_call LB' hb7) (ownsRow_ge LB' (by simp only; omega)) _, ?_, Nat.zero_le _, hfo1, fun j hj => by simp at hj, ?_⟩
    · simp only [List.nil_append, List.length_nil, List.drop_zero]
      exact ownsRow_far (ownsRow_down ot zB) (ownsRow_ge ot (by simp only; omega)) _
    · have n1 : ∀ x, (Value.slice vs1 r.vars.length vc1).ownBlock = some x → (Value.slice ts1 r.things.length tc1).ownBlock ≠ some x := fun x hx => ownsRow_ge ot (ownsRow_block_lt OB hx).1
      have n2 : ∀ x, (Value.slice ls1 r.lines.length lc1).ownBlock = some x → (Value.slice ts1 r.things.length tc1).ownBlock ≠ some x := fun x hx => ownsRow_ge ot (ownsRow_block_lt LB' hx).1
      refine List.pairwise_cons.2 ⟨fun b hb x hx e => ?_, List.pairwise_cons.2 ⟨fun b hb x hx e => ?_, List.pairwise_cons.2 ⟨fun b hb => (by cases hb), List.Pairwise.nil⟩⟩⟩
      · rcases List.mem_cons.1 hb with rfl | hb
        · exact n1 x hx e
        · rcases List.mem_cons.1 hb with rfl | hb
          · exact apB x hx e
          · cases hb
      · rcases List.mem_cons.1 hb with rfl | hb
        · exact n2 x e hx
        · cases hb
  have HIV := hideK IV
  clear QB ZB BB OB LB' apB ot hb7 IV zA zB
  go_upto_region 4 with fail
  generalize w7.setCell ⟨w.heap.size, 2, none⟩ (.slice ts1 r.things.length tc1) = w8 at *
  obtain ⟨⟨-, -, p2, -, -, -⟩, -, -⟩ := HIV.out.run
  clear q2 g2
  have hlen : (r.things.length : Int) ≤ 9223372036854775807 := by omega
  go_wp2
  go_loopw [19] (fun i wr => ∃ fn : List Value, fn.length ≤ r.things.length ∧ i = .int .i64 fn.length ∧ CpInv w wr r fo fn (.slice vs1 r.vars.length vc1) (.slice ts1 r.things.length tc1) (.slice ls1 r.lines.length lc1)) (fun i _ => r.things.length - (intOf i).toNat)
  case atStart => exact ⟨[], Nat.zero_le _, rfl, HIV.out⟩
  case round =>
    obtain ⟨fn, hle, rfl, hI⟩ := hrel
    by_cases hlt : fn.length < r.things.length
    · obtain ⟨gt, cg, egt, hgB, hgz⟩ := hI.things.form (by omega)
      cases egt
      have n0 : (0 : Int) ≤ (fn.length : Int) := by omega
      have n1 : (fn.length : Int) < (r.things.length : Int) := by omega
      obtain ⟨f, fc, efo, hff⟩ := HF.out fn.length hlt (by omega)
      have ct : wr.cell? ⟨gt, fn.length * 2 + 1, none⟩ = some (.slice f r.things[fn.length].fs.length fc) := by
        rw [hI.things.cellAt (fn.length * 2 + 1) (by omega)]
        have hfl : (fn ++ fo.drop fn.length).length = (r.things.map (·.site)).length := by have := hI.old; simp; omega
        rw [thgCells_field _ _ hfl fn.length (by rw [hfl]; simpa using hlt), ← efo]
        congr 1
        rw [List.getElem_append_right (Nat.le_refl _)]
        simp
      have fz := hI.things.frozenAt (fn.length * 2 + 1)
      have cr := hI.run.1.2.2.1
      have hrz := hI.run.2.1
      have hne : w.heap.size ≠ gt := by omega
      have KZ : ∀ wx, Below wr.heap.size wr wx → wx.cell? ⟨w.heap.size, 2, none⟩ = some (.slice (some ⟨gt, 0, none⟩) r.things.length tc1) ∧ wx.cell? ⟨gt, fn.length * 2 + 1, none⟩ = some (.slice f r.things[fn.length].fs.length fc) := fun wx hx => ⟨by rw [hx.cell (by simpa using hrz)]; exact cr, by rw [hx.cell (by simpa using hgz)]; exact ct⟩
      have HC := hideK (H4.out wr.drew hI.low.drew fn.length hlt f fc hff)
      have HN := hideK (fun (w1 : World) (v' : Value) (hb : Below wr.heap.size wr w1) (hv : ValRow w1 wr.heap.size v' r.things[fn.length].fs) => hI.step hlt hb hv)
      clear hI hff efo
      generalize hkk : fn.length = k at *
      go_wp2
      refine wp_region_z (S := (fun wx => wx.cell? ⟨w.heap.size, 2, none⟩ = some (.slice (some ⟨gt, 0, none⟩) r.things.length tc1) ∧ wx.cell? ⟨gt, k * 2 + 1, none⟩ = some (.slice f r.things[k].fs.length fc))) [12] (by kernel_rfl) (KZ _ (Below.refl _ _).drew) (fun hHeld => ?_)
      refine tkZ 0 ?_ ?_ ?_
      rotate_left
      · exact rn
      (try simp only [Act.put, List.getElem_toArray, List.getElem_cons_zero, List.getElem_cons_succ, List.setIfInBounds_toArray, List.set_cons_zero, List.set_cons_succ])
      refine tkZ 1 ?_ ?_ ?_
      rotate_left
      · exact rn
      (try simp only [Act.put, List.getElem_toArray, List.getElem_cons_zero, List.getElem_cons_succ, List.setIfInBounds_toArray, List.set_cons_zero, List.set_cons_succ])
      refine tkZ 2 ?_ ?_ ?_
      rotate_left
      · exact rn
      (try simp only [Act.put, List.getElem_toArray, List.getElem_cons_zero, List.getElem_cons_succ, List.setIfInBounds_toArray, List.set_cons_zero, List.set_cons_succ])
      refine tkZ 3 ?_ ?_ ?_
      rotate_left
      · exact rn
      (try simp only [Act.put, List.getElem_toArray, List.getElem_cons_zero, List.getElem_cons_succ, List.setIfInBounds_toArray, List.set_cons_zero, List.set_cons_succ])
      refine tkZ 4 ?_ ?_ ?_
      rotate_left
      · exact rn
      (try simp only [Act.put, List.getElem_toArray, List.getElem_cons_zero, List.getElem_cons_succ, List.setIfInBounds_toArray, List.set_cons_zero, List.set_cons_succ])
      refine tkZ 5 ?_ ?_ ?_
      rotate_left
      · exact rn
      (try simp only [Act.put, List.getElem_toArray, List.getElem_cons_zero, List.getElem_cons_succ, List.setIfInBounds_toArray, List.set_cons_zero, List.set_cons_succ])
      refine tkZ 6 ?_ ?_ ?_
      rotate_left
      · exact rn
      (try simp only [Act.put, List.getElem_toArray, List.getElem_cons_zero, List.getElem_cons_succ, List.setIfInBounds_toArray, List.set_cons_zero, List.set_cons_succ])
      refine tkZ 7 ?_ ?_ ?_
      rotate_left
      · exact rn
      (try simp only [Act.put, List.getElem_toArray, List.getElem_cons_zero, List.getElem_cons_succ, List.setIfInBounds_toArray, List.set_cons_zero, List.set_cons_succ])
      refine tkZ 8 ?_ ?_ ?_
      rotate_left
      · exact rn
      (try simp only [Act.put, List.getElem_toArray, List.getElem_cons_zero, List.getElem_cons_succ, List.setIfInBounds_toArray, List.set_cons_zero, List.set_cons_succ])
      refine wpAnyZ_one (i := 9) rfl (by kernel_rfl) (fun K hK => ?_)
      go_simp
      go_at_call 72
      refine HC.out.mono ?_
      rintro e w9 ⟨v', rfl, ov, hb9⟩
      have HB9 : Below wr.heap.size wr w9 := Below.trans (Below.refl _ _).drew hb9
      have evv : ∃ a b, v' = .slice a r.things[k].fs.length b := by
        obtain ⟨a, b, e, -⟩ := ValRow.at (w := w9) (B := wr.heap.size) ov
        exact ⟨a, b, e⟩
      obtain ⟨va, vb, rfl⟩ := evv
      go_wp2_with fail
      refine hK.out _ _ (KZ _ HB9) (fun hHeld => ?_)
      clear hK K HC
      (try simp only [Act.put, List.getElem_toArray, List.getElem_cons_zero, List.getElem_cons_succ, List.setIfInBounds_toArray, List.set_cons_zero, List.set_cons_succ])
      refine tkZ 10 ?_ ?_ ?_
      rotate_left
      · exact rn
      (try simp only [Act.put, List.getElem_toArray, List.getElem_cons_zero, List.getElem_cons_succ, List.setIfInBounds_toArray, List.set_cons_zero, List.set_cons_succ])
      refine tkZ 11 ?_ ?_ ?_
      rotate_left
      · exact rn
      (try simp only [Act.put, List.getElem_toArray, List.getElem_cons_zero, List.getElem_cons_succ, List.setIfInBounds_toArray, List.set_cons_zero, List.set_cons_succ])
      refine wpAnyZ_last (i := 12) rfl (by kernel_rfl) (by kernel_rfl) (fun K hK => ?_)
      have c9 : w9.cell? ⟨gt, k * 2 + 1, none⟩ = some (.slice f r.things[k].fs.length fc) := (KZ _ HB9).2
      have d9 : w9.frozen? ⟨gt, k * 2 + 1, none⟩ = false := by rw [HB9.frozen (by simpa using hgz)]; exact fz
      go_simp
      refine hK.out _ _ ?_
      clear hK K
      (try simp only [Act.put, List.getElem_toArray, List.getElem_cons_zero, List.getElem_cons_succ, List.setIfInBounds_toArray, List.set_cons_zero, List.set_cons_succ])
      refine wpAnyZ_done (by kernel_rfl) ?_ _
      have HI9 := hideK (HN.out w9 _ HB9 ov)
      clear HN
      go_wp2
      go_roundw
      case rel => exact ⟨fn ++ [.slice va r.things[k].fs.length vb], by simp; omega, by simp [hkk], HI9.out⟩
      case measure => simp [intOf]; omega
    · have hn : fn.length = r.things.length := by omega
      have OR := hI.rows hn
      have HL := hI.low
      obtain ⟨⟨r0, r1, r2, r3, r4, r5⟩, rz, rf⟩ := id hI.run
      obtain ⟨⟨z0, z1, z2, z3, z4, z5⟩, zz, zf⟩ := id hI.res
      have g0 := zf 0
      have g1 := zf 1
      have g2 := zf 2
      have g3 := zf 3
      have g4 := zf 4
      have g5 := zf 5
      have HY := hideK (And.intro ((OR.set6 (b := w.heap.size + 1) (by omega) (.int .i64 r.at_) (.slice vs1 r.vars.length vc1) (.slice ts1 r.things.length tc1) (.int .i64 r.taken) (.slice ls1 r.lines.length lc1) (.int .i64 r.fin)).down (show w.heap.size ≤ w.heap.size + 1 + 1 by omega)) (below_set6 HL (show w.heap.size ≤ w.heap.size + 1 by omega) (.int .i64 r.at_) (.slice vs1 r.vars.length vc1) (.slice ts1 r.things.length tc1) (.int .i64 r.taken) (.slice ls1 r.lines.length lc1) (.int .i64 r.fin)))
      clear hI OR HL rf zf HF H4 HIV
      go_wp2
      refine bodyPost_ret (v := .agg #[.int .i64 r.at_, .slice vs1 r.vars.length vc1, .slice ts1 r.things.length tc1, .int .i64 r.taken, .slice ls1 r.lines.length lc1, .int .i64 r.fin]) (by simp [results, Tryd.results47, go_sem, z0, z1, z2, z3, z4, z5]) rfl ?_
      exact ⟨_, _, _, fn, rfl, HY.out.1, HY.out.2⟩
end Go.Proofs.YtmapdpcfanecdaaDoor
