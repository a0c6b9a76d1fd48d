/- Walks over package run: what the machine does, kind by kind. -/
import Derived.Test.YtmapdpcfanecdaaDoorKlawrrp11
import Derived.Test.YtmapdpcfanecdaaDoorKlawrrp16
import Derived.Test.YtmapdpcfanecdaaDoorKlawrrp15
import Derived.Lib.SliceRun
import Derived.Test.YtmapdpcfanecdaaDoorKlawrrp10
namespace Go.Proofs.YtmapdpcfanecdaaDoor
set_option linter.unusedVariables false
set_option linter.unusedSimpArgs false
open Go.RowKit
attribute [local go_sem ↓] Go.wp_at_zero Go.wp_at_succ

set_option maxHeartbeats 2000000 in
set_option maxRecDepth 100000 in
theorem clone_vals (ss : Option Addr) (sc : Nat) (l : List Val) (w : World) (hs : ValsAt w ss l) (hbig : l.length * 16 ≤ 140737488355328) :
    Calls Tryd.prog 72 #[.slice ss l.length sc] w fun e w' => ∃ v', e = .returned v' ∧ w'.ownsRow w.heap.size 94 2 v' l.length (valCells l) ∧ Below w.heap.size w w' := by
  obtain ⟨ti, hi, hz0, hz1, hz2⟩ := info_parts info_val
  have q : ∀ (w : World) (a : Option Addr) (n c n' c' : Nat), (binOp .eql 42 (.slice a n c) (.slice none n' c')).run Tryd.prog w = .ok (.bool a.isNone) w := fun w a n c n' c' => Lib.run_eql_slice_nil w _ _ a n c n' c' Tryd.underlying42
  have HN := hideK (hs.news)
  have h0 := hs.nil
  have hle : l.length ≤ maxLen := by unfold maxLen; omega
  cases ss with
  | none =>
    have hz : l.length = 0 := h0 rfl
    have HX : Hid ((valCells l) = []) := by
      show _ = _
      apply List.eq_nil_of_length_eq_zero
      have := (valCells_length l)
      omega
    clear HN hle
    go_enter Tryd.func72, Tryd.ntmps72
    go_wp2
    go_ret
    refine ⟨_, rfl, ?_, Below.refl _ _⟩
    rw [HX.out]
    (try rw [hz])
    exact World.ownsRow_nil _ _ _ _
  | some ad =>
    have hbl : Below w.heap.size w (w.alloc (.cells #[] 94)) := by go_grown
    go_enter Tryd.func72, Tryd.ntmps72
    go_wp2_with (at_builtin; refine wpList_append_any _ rfl _ _ 42 rfl w.heap.size 94 ti (.agg #[.int .i64 0, .int .i64 0]) 2 16 Tryd.underlying42 hi hz0 hz1 hz2 rfl (by decide) _ _ _ rfl (World.ownsRow_made w #[] 0 (Nat.le_refl _) (Nat.zero_le _) rfl) (some ad) l.length sc (valCells l) rfl ?qc1 (fun h => by cases h) ?qc2 ?qc3 ?qc4 ?qc5 ?qc6 ?_)
    case qc1 => exact (valCells_length l)
    case qc2 =>
      intro ad' e j u hj
      cases e
      have := HN.out ad rfl j u hj
      exact Lib.cell?_alloc_some _ this
    case qc3 => exact (one_vals l)
    case qc4 => simpa using hle
    case qc5 => simpa using hbig
    case qc6 => simp
    intro v' w1 hown hgrow hat
    go_wp2
    go_ret
    refine ⟨v', rfl, by simpa using hown, ?_⟩
    exact ((Below.refl _ w).alloc (Nat.le_refl _) _).grown hgrow (by simp) (by intro k hk; simp [Value.ownBlock] at hk; omega)

set_option maxHeartbeats 2000000 in
set_option maxRecDepth 100000 in
theorem clone_strs (ss : Option Addr) (sc : Nat) (l : List ByteArray) (w : World) (hs : StrsAt w ss l) (hbig : l.length * 16 ≤ 140737488355328) :
    Calls Tryd.prog 73 #[.slice ss l.length sc] w fun e w' => ∃ v', e = .returned v' ∧ w'.ownsRow w.heap.size 9 1 v' l.length (l.map Value.string) ∧ Below w.heap.size w w' := by
  obtain ⟨ti, hi, hz0, hz1, hz2⟩ := info_parts info_str
  have q : ∀ (w : World) (a : Option Addr) (n c n' c' : Nat), (binOp .eql 44 (.slice a n c) (.slice none n' c')).run Tryd.prog w = .ok (.bool a.isNone) w := fun w a n c n' c' => Lib.run_eql_slice_nil w _ _ a n c n' c' Tryd.underlying44
  have HN := hideK (hs.news)
  have h0 := hs.nil
  have hle : l.length ≤ maxLen := by unfold maxLen; omega
  cases ss with
  | none =>
    have hz : l.length = 0 := h0 rfl
    have HX : Hid ((l.map Value.string) = []) := by
      show _ = _
      apply List.eq_nil_of_length_eq_zero
      have := (show (l.map Value.string).length = l.length * 1 by simp)
      omega
    clear HN hle
    go_enter Tryd.func73, Tryd.ntmps73
    go_wp2
    go_ret
    refine ⟨_, rfl, ?_, Below.refl _ _⟩
    rw [HX.out]
    (try rw [hz])
    exact World.ownsRow_nil _ _ _ _
  | some ad =>
    have hbl : Below w.heap.size w (w.alloc (.cells #[] 9)) := by go_grown
    go_enter Tryd.func73, Tryd.ntmps73
    go_wp2_with (at_builtin; refine wpList_append_any _ rfl _ _ 44 rfl w.heap.size 9 ti (.string ⟨#[]⟩) 1 16 Tryd.underlying44 hi hz0 hz1 hz2 rfl (by decide) _ _ _ rfl (World.ownsRow_made w #[] 0 (Nat.le_refl _) (Nat.zero_le _) rfl) (some ad) l.length sc (l.map Value.string) rfl ?qc1 (fun h => by cases h) ?qc2 ?qc3 ?qc4 ?qc5 ?qc6 ?_)
    case qc1 => exact (show (l.map Value.string).length = l.length * 1 by simp)
    case qc2 =>
      intro ad' e j u hj
      cases e
      have := HN.out ad rfl j u hj
      exact Lib.cell?_alloc_some _ this
    case qc3 => exact (one_strs l)
    case qc4 => simpa using hle
    case qc5 => simpa using hbig
    case qc6 => simp
    intro v' w1 hown hgrow hat
    go_wp2
    go_ret
    refine ⟨v', rfl, by simpa using hown, ?_⟩
    exact ((Below.refl _ w).alloc (Nat.le_refl _) _).grown hgrow (by simp) (by intro k hk; simp [Value.ownBlock] at hk; omega)

set_option maxHeartbeats 2000000 in
set_option maxRecDepth 100000 in
theorem clone_thgs (ss : Option Addr) (sc : Nat) (l : List Int) (fo : List Value) (w : World) (hlen : fo.length = l.length) (hnil : ss = none → l.length = 0) (hnews : ∀ ad, ss = some ad → ∀ j u, (thgCells l fo)[j]? = some u → w.cell? (ad.add j) = some u) (hone : ∀ v ∈ fo, v.oneCell' = true) (hbig : l.length * 32 ≤ 140737488355328) :
    Calls Tryd.prog 74 #[.slice ss l.length sc] w fun e w' => ∃ v', e = .returned v' ∧ w'.ownsRow w.heap.size 99 2 v' l.length (thgCells l fo) ∧ Below w.heap.size w w' := by
  obtain ⟨ti, hi, hz0, hz1, hz2⟩ := info_parts info_thg
  have q : ∀ (w : World) (a : Option Addr) (n c n' c' : Nat), (binOp .eql 43 (.slice a n c) (.slice none n' c')).run Tryd.prog w = .ok (.bool a.isNone) w := fun w a n c n' c' => Lib.run_eql_slice_nil w _ _ a n c n' c' Tryd.underlying43
  have HN := hideK (hnews)
  have h0 := hnil
  have hle : l.length ≤ maxLen := by unfold maxLen; omega
  cases ss with
  | none =>
    have hz : l.length = 0 := h0 rfl
    have HX : Hid ((thgCells l fo) = []) := by
      show _ = _
      apply List.eq_nil_of_length_eq_zero
      have := (thgCells_length l fo hlen)
      omega
    clear HN hle
    go_enter Tryd.func74, Tryd.ntmps74
    go_wp2
    go_ret
    refine ⟨_, rfl, ?_, Below.refl _ _⟩
    rw [HX.out]
    (try rw [hz])
    exact World.ownsRow_nil _ _ _ _
  | some ad =>
    have hbl : Below w.heap.size w (w.alloc (.cells #[] 99)) := by go_grown
    go_enter Tryd.func74, Tryd.ntmps74
    go_wp2_with (at_builtin; refine wpList_append_any _ rfl _ _ 43 rfl w.heap.size 99 ti (.agg #[.int .i64 0, .slice none 0 0]) 2 32 Tryd.underlying43 hi hz0 hz1 hz2 rfl (by decide) _ _ _ rfl (World.ownsRow_made w #[] 0 (Nat.le_refl _) (Nat.zero_le _) rfl) (some ad) l.length sc (thgCells l fo) rfl ?qc1 (fun h => by cases h) ?qc2 ?qc3 ?qc4 ?qc5 ?qc6 ?_)
    case qc1 => exact (thgCells_length l fo hlen)
    case qc2 =>
      intro ad' e j u hj
      cases e
      have := HN.out ad rfl j u hj
      exact Lib.cell?_alloc_some _ this
    case qc3 => exact (one_thgs l fo hone)
    case qc4 => simpa using hle
    case qc5 => simpa using hbig
    case qc6 => simp
    intro v' w1 hown hgrow hat
    go_wp2
    go_ret
    refine ⟨v', rfl, by simpa using hown, ?_⟩
    exact ((Below.refl _ w).alloc (Nat.le_refl _) _).grown hgrow (by simp) (by intro k hk; simp [Value.ownBlock] at hk; omega)
end Go.Proofs.YtmapdpcfanecdaaDoor

namespace Go.Proofs.YtmapdpcfanecdaaDoor
set_option linter.unusedVariables false
set_option linter.unusedSimpArgs false
open Go.RowKit

def R6 (w : World) (b : Nat) (x0 x1 x2 x3 x4 x5 : Value) : Prop := (w.cell? ⟨b, 0, none⟩ = some x0 ∧ w.cell? ⟨b, 1, none⟩ = some x1 ∧ w.cell? ⟨b, 2, none⟩ = some x2 ∧ w.cell? ⟨b, 3, none⟩ = some x3 ∧ w.cell? ⟨b, 4, none⟩ = some x4 ∧ w.cell? ⟨b, 5, none⟩ = some x5) ∧ b < w.heap.size ∧ ∀ j, w.frozen? ⟨b, j, none⟩ = false
abbrev set6 (w : World) (b : Nat) (y0 y1 y2 y3 y4 y5 : Value) : World := (((((w.setCell ⟨b, 0, none⟩ y0).setCell ⟨b, 1, none⟩ y1).setCell ⟨b, 2, none⟩ y2).setCell ⟨b, 3, none⟩ y3).setCell ⟨b, 4, none⟩ y4).setCell ⟨b, 5, none⟩ y5
section
variable {w w' : World} {B b : Nat} {x0 x1 x2 x3 x4 x5 : Value}
theorem R6.same (h : R6 w b x0 x1 x2 x3 x4 x5) (hb : w'.heap[b]? = w.heap[b]?) (hz : w.heap.size ≤ w'.heap.size) : R6 w' b x0 x1 x2 x3 x4 x5 := by
  have hc : ∀ j, w'.cell? ⟨b, j, none⟩ = w.cell? ⟨b, j, none⟩ := fun j => World.cell?_of_block (a := ⟨b, j, none⟩) hb
  have hf : ∀ j, w'.frozen? ⟨b, j, none⟩ = w.frozen? ⟨b, j, none⟩ := fun j => World.frozen?_of_block (a := ⟨b, j, none⟩) hb
  obtain ⟨⟨h0, h1, h2, h3, h4, h5⟩, h6, h7⟩ := h
  exact ⟨⟨(hc _).trans h0, (hc _).trans h1, (hc _).trans h2, (hc _).trans h3, (hc _).trans h4, (hc _).trans h5⟩, Nat.lt_of_lt_of_le h6 hz, fun j => (hf j).trans (h7 j)⟩
theorem R6.below (h : R6 w b x0 x1 x2 x3 x4 x5) (hb : Below B w w') (hB : b < B) : R6 w' b x0 x1 x2 x3 x4 x5 := h.same (hb.block b hB) hb.size
theorem R6.call (h : R6 w b x0 x1 x2 x3 x4 x5) (hb : Below w.heap.size w w') : R6 w' b x0 x1 x2 x3 x4 x5 := h.below hb h.2.1
theorem R6.new (w : World) (t : TypeId) (x0 x1 x2 x3 x4 x5 : Value) : R6 (w.alloc (.cells #[x0, x1, x2, x3, x4, x5] t)) w.heap.size x0 x1 x2 x3 x4 x5 := by
  refine ⟨⟨?_, ?_, ?_, ?_, ?_, ?_⟩, by simp, fun j => ?_⟩ <;> simp [go_sem]
theorem set6_far (w : World) (b : Nat) (y0 y1 y2 y3 y4 y5 : Value) (k : Nat) (hk : k ≠ b) : (set6 w b y0 y1 y2 y3 y4 y5).heap[k]? = w.heap[k]? := by
  unfold set6
  rw [Below.heap_setCell _ _ _ _ hk, Below.heap_setCell _ _ _ _ hk, Below.heap_setCell _ _ _ _ hk, Below.heap_setCell _ _ _ _ hk, Below.heap_setCell _ _ _ _ hk, Below.heap_setCell _ _ _ _ hk]
theorem set6_size (w : World) (b : Nat) (y0 y1 y2 y3 y4 y5 : Value) : (set6 w b y0 y1 y2 y3 y4 y5).heap.size = w.heap.size := by simp [set6, World.setCell]
theorem below_set6 {a : World} (h : Below B a w) (hB : B ≤ b) (y0 y1 y2 y3 y4 y5 : Value) : Below B a (set6 w b y0 y1 y2 y3 y4 y5) :=
  (((((h.setCell (p := ⟨b, 0, none⟩) hB _).setCell (p := ⟨b, 1, none⟩) hB _).setCell (p := ⟨b, 2, none⟩) hB _).setCell (p := ⟨b, 3, none⟩) hB _).setCell (p := ⟨b, 4, none⟩) hB _).setCell (p := ⟨b, 5, none⟩) hB _
theorem cell_off {w : World} {b i j : Nat} (h : i ≠ j) (y : Value) : (w.setCell ⟨b, i, none⟩ y).cell? ⟨b, j, none⟩ = w.cell? ⟨b, j, none⟩ := World.cell?_setCell_other _ _ _ _ (by intro e; cases e; exact h rfl)
theorem cell_on {w : World} {b j : Nat} {u : Value} (h : w.cell? ⟨b, j, none⟩ = some u) (y : Value) : (w.setCell ⟨b, j, none⟩ y).cell? ⟨b, j, none⟩ = some y := World.cell?_setCell_same _ _ _ h
theorem R6.put (h : R6 w b x0 x1 x2 x3 x4 x5) (y0 y1 y2 y3 y4 y5 : Value) : R6 (set6 w b y0 y1 y2 y3 y4 y5) b y0 y1 y2 y3 y4 y5 := by
  obtain ⟨⟨h0, h1, h2, h3, h4, h5⟩, h6, h7⟩ := h
  refine ⟨⟨?_, ?_, ?_, ?_, ?_, ?_⟩, by rw [set6_size]; exact h6, fun j => by simp only [set6, World.frozen?_setCell]; exact h7 j⟩
  · unfold set6
    rw [cell_off (by omega), cell_off (by omega), cell_off (by omega), cell_off (by omega), cell_off (by omega)]
    exact cell_on h0 _
  · unfold set6
    rw [cell_off (by omega), cell_off (by omega), cell_off (by omega), cell_off (by omega)]
    exact cell_on (by rw [cell_off (by omega)]; exact h1) _
  · unfold set6
    rw [cell_off (by omega), cell_off (by omega), cell_off (by omega)]
    exact cell_on (by rw [cell_off (by omega), cell_off (by omega)]; exact h2) _
  · unfold set6
    rw [cell_off (by omega), cell_off (by omega)]
    exact cell_on (by rw [cell_off (by omega), cell_off (by omega), cell_off (by omega)]; exact h3) _
  · unfold set6
    rw [cell_off (by omega)]
    exact cell_on (by rw [cell_off (by omega), cell_off (by omega), cell_off (by omega), cell_off (by omega)]; exact h4) _
  · unfold set6
    exact cell_on (by rw [cell_off (by omega), cell_off (by omega), cell_off (by omega), cell_off (by omega), cell_off (by omega)]; exact h5) _
theorem R6.cells {s : St} {vv tv lv : Value} (h : R6 w b (.int .i64 s.at_) vv tv (.int .i64 s.taken) lv (.int .i64 s.fin)) : RunCells w b s vv tv lv := ⟨h.1, h.2.2⟩
theorem OwnRun.r6 {s : St} {vv tv lv : Value} {fv : List Value} (h : OwnRun w B b s vv tv lv fv) : R6 w b (.int .i64 s.at_) vv tv (.int .i64 s.taken) lv (.int .i64 s.fin) := ⟨⟨h.at_, h.vars_, h.things_, h.taken_, h.lines_, h.fin_⟩, h.lt (by simp [ownBlocks]), h.thaw⟩
/-- Rows apart from a block that is set. -/
theorem OwnRows.set6 {s : St} {vv tv lv : Value} {fv : List Value} (h : OwnRows w B s vv tv lv fv) (hb : b < B) (y0 y1 y2 y3 y4 y5 : Value) : OwnRows (set6 w b y0 y1 y2 y3 y4 y5) B s vv tv lv fv := by
  refine h.same fun k hk => set6_far _ _ _ _ _ _ _ _ k (fun e => ?_)
  have := (h.lt hk).2
  omega
/-- A run's beginning, its row just made. -/
theorem begin_rows {v g : Nat} (h8 : v ≤ 8) (h : w.ownsRow B 94 2 (.slice (some ⟨g, 0, none⟩) v v) v (valCells (List.replicate v ⟨0, 0⟩))) : OwnRows w B (beginSt v) (.slice (some ⟨g, 0, none⟩) v v) (.slice none 0 0) (.slice none 0 0) [] := by
  refine ⟨?_, World.ownsRow_nil _ _ _ _, rfl, fun i hi => by simp [beginSt] at hi, World.ownsRow_nil _ _ _ _, by simp [Value.ownBlock]⟩
  unfold ValRow
  simpa [beginSt] using h
end
end Go.Proofs.YtmapdpcfanecdaaDoor

namespace Go.Proofs.YtmapdpcfanecdaaDoor
set_option linter.unusedVariables false
set_option linter.unusedSimpArgs false
open Go.RowKit
attribute [local go_sem ↓] Go.wp_at_zero Go.wp_at_succ

section
variable {w w' : World} {b : Nat} {x0 x1 x2 x3 x4 x5 : Value}
theorem R6.put1 (h : R6 w b x0 x1 x2 x3 x4 x5) (y : Value) : R6 (w.setCell ⟨b, 1, none⟩ y) b x0 y x2 x3 x4 x5 := by
  obtain ⟨⟨h0, h1, h2, h3, h4, h5⟩, h6, h7⟩ := h
  exact ⟨⟨by rw [cell_off (by omega)]; exact h0, cell_on h1 _, by rw [cell_off (by omega)]; exact h2, by rw [cell_off (by omega)]; exact h3, by rw [cell_off (by omega)]; exact h4, by rw [cell_off (by omega)]; exact h5⟩, by simpa [World.setCell] using h6, fun j => by rw [World.frozen?_setCell]; exact h7 j⟩
theorem R6.put2 (h : R6 w b x0 x1 x2 x3 x4 x5) (y : Value) : R6 (w.setCell ⟨b, 2, none⟩ y) b x0 x1 y x3 x4 x5 := by
  obtain ⟨⟨h0, h1, h2, h3, h4, h5⟩, h6, h7⟩ := h
  exact ⟨⟨by rw [cell_off (by omega)]; exact h0, by rw [cell_off (by omega)]; exact h1, cell_on h2 _, by rw [cell_off (by omega)]; exact h3, by rw [cell_off (by omega)]; exact h4, by rw [cell_off (by omega)]; exact h5⟩, by simpa [World.setCell] using h6, fun j => by rw [World.frozen?_setCell]; exact h7 j⟩
theorem R6.put4 (h : R6 w b x0 x1 x2 x3 x4 x5) (y : Value) : R6 (w.setCell ⟨b, 4, none⟩ y) b x0 x1 x2 x3 y x5 := by
  obtain ⟨⟨h0, h1, h2, h3, h4, h5⟩, h6, h7⟩ := h
  exact ⟨⟨by rw [cell_off (by omega)]; exact h0, by rw [cell_off (by omega)]; exact h1, by rw [cell_off (by omega)]; exact h2, by rw [cell_off (by omega)]; exact h3, cell_on h4 _, by rw [cell_off (by omega)]; exact h5⟩, by simpa [World.setCell] using h6, fun j => by rw [World.frozen?_setCell]; exact h7 j⟩
theorem R6.far (h : R6 w b x0 x1 x2 x3 x4 x5) {a : Addr} (ha : a.block ≠ b) (y : Value) : R6 (w.setCell a y) b x0 x1 x2 x3 x4 x5 := h.same (Below.heap_setCell _ _ _ _ (Ne.symm ha)) (by simp [World.setCell])
theorem ownsRow_far {B : Nat} {e : TypeId} {z : Nat} {v : Value} {n : Nat} {xs : List Value} (h : w.ownsRow B e z v n xs) {a : Addr} (ha : v.ownBlock ≠ some a.block) (y : Value) : (w.setCell a y).ownsRow B e z v n xs :=
  ownsRow_of_block h (fun k hk => Below.heap_setCell _ _ _ _ (fun e => ha (by rw [hk, e])))
theorem ownsRow_call {B : Nat} {e : TypeId} {z : Nat} {v : Value} {n : Nat} {xs : List Value} (h : w.ownsRow B e z v n xs) (hb : Below w.heap.size w w') : w'.ownsRow B e z v n xs :=
  ownsRow_of_block h (fun k hk => hb.block k (ownsRow_block_lt h hk).1)
theorem ownsRow_ge {B : Nat} {e : TypeId} {z : Nat} {v : Value} {n : Nat} {xs : List Value} (h : w.ownsRow B e z v n xs) {k : Nat} (hk : k < B) : v.ownBlock ≠ some k := fun e => by have := (ownsRow_block_lt h e).2; omega
end
/-- What is known while a run's things are copied: fn: the fields copied so far; fo: the old ones. -/
structure CpInv (w wr : World) (r : St) (fo fn : List Value) (vv tv lv : Value) : Prop where
  low : Below w.heap.size w wr
  run : R6 wr w.heap.size (.int .i64 r.at_) vv tv (.int .i64 r.taken) lv (.int .i64 r.fin)
  res : R6 wr (w.heap.size + 1) (.int .i64 0) (.slice none 0 0) (.slice none 0 0) (.int .i64 0) (.slice none 0 0) (.int .i64 0)
  vars : ValRow wr (w.heap.size + 1 + 1) vv r.vars
  lines : wr.ownsRow (w.heap.size + 1 + 1) 9 1 lv r.lines.length (r.lines.map .string)
  things : wr.ownsRow (w.heap.size + 1 + 1) 99 2 tv r.things.length (thgCells (r.things.map (·.site)) (fn ++ fo.drop fn.length))
  le : fn.length ≤ r.things.length
  old : fo.length = r.things.length
  fields : ∀ j (h : j < fn.length), ValRow wr (w.heap.size + 1 + 1) fn[j] (r.things[j]'(Nat.lt_of_lt_of_le h le)).fs
  apart : (vv.ownBlock :: tv.ownBlock :: lv.ownBlock :: fn.map Value.ownBlock).Pairwise fun a b => ∀ x, a = some x → b ≠ some x
theorem CpInv.rows {w wr : World} {r : St} {fo fn : List Value} {vv tv lv : Value} (h : CpInv w wr r fo fn vv tv lv) (hn : fn.length = r.things.length) : OwnRows wr (w.heap.size + 1 + 1) r vv tv lv fn := by
  have ht := h.things
  rw [hn, ← h.old, List.drop_length, List.append_nil] at ht
  rw [h.old] at ht
  exact ⟨h.vars, ht, hn, fun i hi => h.fields i (by omega), h.lines, h.apart⟩
theorem CpInv.step {w wr w1 : World} {r : St} {fo fn : List Value} {vv lv v' : Value} {gt tc : Nat} (h : CpInv w wr r fo fn vv (.slice (some ⟨gt, 0, none⟩) r.things.length tc) lv) (hlt : fn.length < r.things.length) (hb : Below wr.heap.size wr w1) (hv : ValRow w1 wr.heap.size v' r.things[fn.length].fs) :
    CpInv w (w1.setCell ⟨gt, fn.length * 2 + 1, none⟩ v') r fo (fn ++ [v']) vv (.slice (some ⟨gt, 0, none⟩) r.things.length tc) lv := by
  have hap := h.apart
  simp only [List.pairwise_cons] at hap
  obtain ⟨a1, a2, a3, a4⟩ := hap
  have gtl := ownsRow_block_lt h.things (k := gt) rfl
  have hz := h.low.size
  have hrz := h.run.2.1
  have hsz := h.res.2.1
  have vlt : ∀ k, vv.ownBlock = some k → k < wr.heap.size := fun k hk => (ownsRow_block_lt h.vars hk).1
  have llt : ∀ k, lv.ownBlock = some k → k < wr.heap.size := fun k hk => (ownsRow_block_lt h.lines hk).1
  have flt : ∀ k, some k ∈ fn.map Value.ownBlock → k < wr.heap.size := fun k hk => by
    obtain ⟨x, hx, hxk⟩ := List.mem_map.1 hk
    obtain ⟨i, hi, rfl⟩ := List.getElem_of_mem hx
    exact (ownsRow_block_lt (h.fields i hi) hxk).1
  have vge : ∀ k, k < wr.heap.size → v'.ownBlock ≠ some k := fun k hk => ownsRow_ge hv hk
  have ngv : vv.ownBlock ≠ some gt := fun e => a1 (some gt) (by simp [Value.ownBlock]) gt e rfl
  have ngl : lv.ownBlock ≠ some gt := fun e => a2 lv.ownBlock (by simp) gt rfl e
  have ngf : ∀ i (hi : i < fn.length), fn[i].ownBlock ≠ some gt := fun i hi e => a2 (some gt) (by simp only [List.mem_cons]; right; exact List.mem_map.2 ⟨_, List.getElem_mem hi, e⟩) gt rfl rfl
  refine ⟨(h.low.trans (hb.mono hz)).setCell (by simp only; omega) _, (h.run.call hb).far (by simp only; omega) _, (h.res.call hb).far (by simp only; omega) _, ownsRow_far (ownsRow_call h.vars hb) ngv _, ownsRow_far (ownsRow_call h.lines hb) ngl _, ?_, by simp; omega, h.old, fun j hj => ?_, ?_⟩
  · have ht := ownsRow_call h.things hb
    have hs := (ht.stored (fn.length * 2 + 1) v').1
    have hfl : (fn ++ fo.drop fn.length).length = (r.things.map (·.site)).length := by have := h.old; have := h.le; simp; omega
    rw [thgCells_set _ _ hfl fn.length (by rw [hfl]; simpa using hlt)] at hs
    have e : (fn ++ fo.drop fn.length).set fn.length v' = (fn ++ [v']) ++ fo.drop (fn ++ [v']).length := by
      have hd : fo.drop fn.length = fo[fn.length]'(by rw [h.old]; exact hlt) :: fo.drop (fn.length + 1) := List.drop_eq_getElem_cons _
      rw [List.set_append_right _ _ (Nat.le_refl _), Nat.sub_self, hd]
      simp only [List.set_cons_zero, List.length_append, List.length_cons, List.length_nil, List.append_assoc, List.cons_append, List.nil_append, Nat.zero_add]
    rw [e] at hs
    exact hs
  · by_cases hj' : j < fn.length
    · have e : (fn ++ [v'])[j] = fn[j] := List.getElem_append_left hj'
      rw [e]
      exact ownsRow_far (ownsRow_call (h.fields j hj') hb) (ngf j hj') _
    · have e : j = fn.length := by simp at hj; omega
      subst e
      have e : (fn ++ [v'])[fn.length] = v' := by simp
      rw [e]
      exact ownsRow_far (ownsRow_down hv (by omega)) (vge gt gtl.1) _
  · simp only [List.pairwise_cons]
    refine ⟨fun b hb x hx e => ?_, fun b hb x hx e => ?_, fun b hb x hx e => ?_, ?_⟩
    · simp only [List.map_append, List.map_cons, List.map_nil, List.mem_cons, List.mem_append, List.not_mem_nil, or_false] at hb
      rcases hb with hb | hb | hb | hb
      · exact a1 b (by simp [hb]) x hx e
      · exact a1 b (by simp [hb]) x hx e
      · exact a1 b (by simp only [List.mem_cons]; simp only [hb, or_true]) x hx e
      · subst hb; exact vge x (vlt x hx) e
    · simp only [List.map_append, List.map_cons, List.map_nil, List.mem_cons, List.mem_append, List.not_mem_nil, or_false] at hb
      rcases hb with hb | hb | hb
      · exact a2 b (by simp [hb]) x hx e
      · exact a2 b (by simp only [List.mem_cons]; simp only [hb, or_true]) x hx e
      · subst hb
        cases hx
        exact vge gt gtl.1 e
    · simp only [List.map_append, List.map_cons, List.map_nil, List.mem_append, List.mem_cons, List.not_mem_nil, or_false] at hb
      rcases hb with hb | hb
      · exact a3 b hb x hx e
      · subst hb; exact vge x (llt x hx) e
    · rw [List.map_append]
      refine List.pairwise_append.2 ⟨a4, by simp, fun a ha b hb x hx e => ?_⟩
      simp only [List.map_cons, List.map_nil, List.mem_singleton] at hb
      subst hb
      subst hx
      exact vge x (flt x ha) e
end Go.Proofs.YtmapdpcfanecdaaDoor

namespace Go.Proofs.YtmapdpcfanecdaaDoor
set_option linter.unusedVariables false
set_option linter.unusedSimpArgs false
open Go.RowKit
attribute [local go_sem ↓] Go.wp_at_zero Go.wp_at_succ

/-- What is known while the document's own copy of a run's things is made. -/
structure CpR (w wr : World) (r : St) (ts : Option Addr) (tc : Nat) (k : Nat) (fn : List Value) (vv tv lv : Value) : Prop where
  low : Below w.heap.size w wr
  run : R6 wr w.heap.size (.int .i64 r.at_) vv (.slice ts r.things.length tc) (.int .i64 r.taken) lv (.int .i64 r.fin)
  res : R6 wr (w.heap.size + 1) (.int .i64 0) (.slice none 0 0) (.slice none 0 0) (.int .i64 0) (.slice none 0 0) (.int .i64 0)
  vars : ValRow wr (w.heap.size + 1 + 1) vv r.vars
  lines : wr.ownsRow (w.heap.size + 1 + 1) 9 1 lv r.lines.length (r.lines.map .string)
  things : wr.ownsRow (w.heap.size + 1 + 1) 99 2 tv k (thgCells ((r.things.take k).map (·.site)) fn)
  le : k ≤ r.things.length
  len : fn.length = k
  fields : ∀ j (h : j < fn.length), ValRow wr (w.heap.size + 1 + 1) fn[j] (r.things[j]'(by rw [len] at h; exact Nat.lt_of_lt_of_le h le)).fs
  apart : (vv.ownBlock :: tv.ownBlock :: lv.ownBlock :: fn.map Value.ownBlock).Pairwise fun a b => ∀ x, a = some x → b ≠ some x
theorem ownsRow_grown {w w' : World} {row : Option Nat} {B : Nat} {e : TypeId} {z : Nat} {v : Value} {n : Nat} {xs : List Value} (h : w.ownsRow B e z v n xs) (hg : w.grownBy w' row) (hr : ∀ k, v.ownBlock = some k → some k ≠ row) : w'.ownsRow B e z v n xs :=
  ownsRow_of_block h (fun k hk => hg.block k (ownsRow_block_lt h hk).1 (hr k hk))
theorem CpR.step {w wr w1 w2 : World} {r : St} {ts : Option Addr} {tc k : Nat} {fn : List Value} {vv tv lv v' : Value} {g cap : Nat} (h : CpR w wr r ts tc k fn vv tv lv) (hlt : k < r.things.length) (hb : Below wr.heap.size wr w1) (hv : ValRow w1 wr.heap.size v' r.things[k].fs)
    (hown : w2.ownsRow (w.heap.size + 1 + 1) 99 2 (.slice (some ⟨g, 0, none⟩) (k + 1) cap) (k + 1) (thgCells ((r.things.take k).map (·.site)) fn ++ [.int .i64 r.things[k].site, v'])) (hgrow : w1.grownBy w2 tv.ownBlock) (hat : tv.ownBlock = some g ∨ g = w1.heap.size) :
    CpR w w2 r ts tc (k + 1) (fn ++ [v']) vv (.slice (some ⟨g, 0, none⟩) (k + 1) cap) lv := by
  have hap := h.apart
  simp only [List.pairwise_cons] at hap
  obtain ⟨a1, a2, a3, a4⟩ := hap
  have hz := h.low.size
  have hbz := hb.size
  have hrz := h.run.2.1
  have hsz := h.res.2.1
  have tge : ∀ x, tv.ownBlock = some x → x < wr.heap.size ∧ w.heap.size + 1 + 1 ≤ x := fun x hx => ownsRow_block_lt h.things hx
  have vlt : ∀ x, vv.ownBlock = some x → x < wr.heap.size := fun x hx => (ownsRow_block_lt h.vars hx).1
  have llt : ∀ x, lv.ownBlock = some x → x < wr.heap.size := fun x hx => (ownsRow_block_lt h.lines hx).1
  have flt : ∀ x, some x ∈ fn.map Value.ownBlock → x < wr.heap.size := fun x hx => by
    obtain ⟨y, hy, hyk⟩ := List.mem_map.1 hx
    obtain ⟨i, hi, rfl⟩ := List.getElem_of_mem hy
    exact (ownsRow_block_lt (h.fields i hi) hyk).1
  have vge : ∀ x, x < wr.heap.size → v'.ownBlock ≠ some x := fun x hx => ownsRow_ge hv hx
  have nlow : ∀ x, x < w.heap.size + 1 + 1 → some x ≠ tv.ownBlock := fun x hx e => by have := (tge x e.symm).2; omega
  have ntv : ∀ x, vv.ownBlock = some x → some x ≠ tv.ownBlock := fun x hx e => a1 tv.ownBlock (List.mem_cons_self ..) x hx e.symm
  have ntl : ∀ x, lv.ownBlock = some x → some x ≠ tv.ownBlock := fun x hx e => a2 _ (List.mem_cons_self ..) x e.symm hx
  have ntf : ∀ x, some x ∈ fn.map Value.ownBlock → some x ≠ tv.ownBlock := fun x hx e => a2 _ (List.mem_cons_of_mem _ hx) x e.symm rfl
  have ntn : ∀ x, v'.ownBlock = some x → some x ≠ tv.ownBlock := fun x hx e => vge x (tge x e.symm).1 hx
  have hg : ∀ x, x < w1.heap.size → some x ≠ tv.ownBlock → x ≠ g := fun x h1 h2 e => by
    rcases hat with e' | e'
    · exact h2 (by rw [e', e])
    · omega
  have b1 : Below w.heap.size w w1 := h.low.trans (hb.mono hz)
  refine ⟨b1.grown hgrow b1.size (fun x hx => by have := (tge x hx).2; omega), (h.run.call hb).same (hgrow.block _ (by omega) (nlow _ (by omega))) hgrow.size, (h.res.call hb).same (hgrow.block _ (by omega) (nlow _ (by omega))) hgrow.size, ownsRow_grown (ownsRow_call h.vars hb) hgrow ntv, ownsRow_grown (ownsRow_call h.lines hb) hgrow ntl, ?_, hlt, by simp [h.len], fun j hj => ?_, ?_⟩
  · rw [List.take_succ_eq_append_getElem hlt, List.map_append, List.map_cons, List.map_nil, thgCells_snoc _ _ (by have := h.len; simp; omega)]
    exact hown
  · have hl := h.len
    by_cases hj' : j < fn.length
    · have e : (fn ++ [v'])[j] = fn[j] := List.getElem_append_left hj'
      rw [e]
      exact ownsRow_grown (ownsRow_call (h.fields j hj') hb) hgrow (fun x hx => ntf x (List.mem_map.2 ⟨_, List.getElem_mem hj', hx⟩))
    · have e : j = fn.length := by simp at hj; omega
      subst e
      have e : (fn ++ [v'])[fn.length] = v' := by simp
      rw [e]
      have e2 : r.things[fn.length]'(by omega) = r.things[k] := by simp only [hl]
      rw [e2]
      exact ownsRow_grown (ownsRow_down hv (by omega)) hgrow ntn
  · refine List.pairwise_cons.2 ⟨fun b hb' x hx e => ?_, List.pairwise_cons.2 ⟨fun b hb' x hx e => ?_, List.pairwise_cons.2 ⟨fun b hb' x hx e => ?_, ?_⟩⟩⟩
    · rw [List.map_append] at hb'
      rcases List.mem_cons.1 hb' with rfl | hb'
      · cases e
        exact hg g (Nat.lt_of_lt_of_le (vlt g hx) hbz) (ntv g hx) rfl
      · rcases List.mem_cons.1 hb' with rfl | hb'
        · exact a1 lv.ownBlock (List.mem_cons_of_mem _ (List.mem_cons_self ..)) x hx e
        · rcases List.mem_append.1 hb' with hb' | hb'
          · exact a1 b (List.mem_cons_of_mem _ (List.mem_cons_of_mem _ hb')) x hx e
          · simp only [List.map_cons, List.map_nil, List.mem_singleton] at hb'
            subst hb'
            exact vge x (vlt x hx) e
    · cases hx
      rw [List.map_append] at hb'
      rcases List.mem_cons.1 hb' with rfl | hb'
      · exact hg g (Nat.lt_of_lt_of_le (llt g e) hbz) (ntl g e) rfl
      · rcases List.mem_append.1 hb' with hb' | hb'
        · subst e
          exact hg g (Nat.lt_of_lt_of_le (flt g hb') hbz) (ntf g hb') rfl
        · simp only [List.map_cons, List.map_nil, List.mem_singleton] at hb'
          subst hb'
          exact hg g (ownsRow_block_lt hv e).1 (ntn g e) rfl
    · rw [List.map_append] at hb'
      rcases List.mem_append.1 hb' with hb' | hb'
      · exact a3 b hb' x hx e
      · simp only [List.map_cons, List.map_nil, List.mem_singleton] at hb'
        subst hb'
        exact vge x (llt x hx) e
    · rw [List.map_append]
      refine List.pairwise_append.2 ⟨a4, by simp, fun a ha b hb' x hx e => ?_⟩
      simp only [List.map_cons, List.map_nil, List.mem_singleton] at hb'
      subst hb'
      subst hx
      exact vge x (flt x ha) e
theorem CpR.rows {w wr : World} {r : St} {ts : Option Addr} {tc k : Nat} {fn : List Value} {vv tv lv : Value} (h : CpR w wr r ts tc k fn vv tv lv) (hk : k = r.things.length) : OwnRows wr (w.heap.size + 1 + 1) r vv tv lv fn := by
  subst hk
  have ht := h.things
  rw [List.take_length] at ht
  exact ⟨h.vars, ht, h.len, fun i hi => h.fields i (by rw [h.len]; exact hi), h.lines, h.apart⟩
end Go.Proofs.YtmapdpcfanecdaaDoor
