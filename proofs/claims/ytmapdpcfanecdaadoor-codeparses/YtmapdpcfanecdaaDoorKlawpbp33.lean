/- Walks over package code: Print. -/
import Derived.Test.YtmapdpcfanecdaaDoorKlawpbp30
import Derived.Test.YtmapdpcfanecdaaDoorKlawpbp32
namespace Go.Proofs.YtmapdpcfanecdaaDoor
set_option linter.unusedVariables false
set_option linter.unusedSimpArgs false
open Go.RowKit

abbrev BuildAt (B b : Nat) (s : ByteArray) (w : World) : Prop := Lib.BuilderAt 65 5 B b (.pointer (some ⟨b, 0, none⟩)) (Lib.strCells s) w

theorem builder_below {B b : Nat} {p : Value} {bs : List Value} {w w' : World} (h : Lib.BuilderAt 65 5 B b p bs w) (hb : Below w.heap.size w w') : Lib.BuilderAt 65 5 B b p bs w' := by
  have hlt := h.lt
  obtain ⟨h1, v, h2, h3, h4⟩ := h
  exact ⟨h1, v, by rw [hb.block b hlt]; exact h2, ownsRow_of_block h3 (fun k hk => hb.block k (ownsRow_block_lt h3 hk).1), h4⟩

theorem strCells_append (a b : ByteArray) : Lib.strCells (a ++ b) = Lib.strCells a ++ Lib.strCells b := by
  simp [Lib.strCells]

theorem ckAll_kinds {V F L : Int} : ∀ {c : List Ins}, ckAll V F L c = 0 → ∀ i ∈ c, btw i.k 1 19 = true := by
  intro c
  induction c with
  | nil => intro _ i hi; cases hi
  | cons x r ih =>
    intro h i hi
    have hx : ckOne V F L x = 0 ∧ ckAll V F L r = 0 := by
      unfold ckAll at h
      split at h
      · exact ⟨by assumption, h⟩
      · exact absurd h (by assumption)
    rcases List.mem_cons.1 hi with rfl | hi
    · have := hx.1
      unfold ckOne at this
      split at this
      · cases this
      · rename_i hne
        cases hb : btw i.k 1 19 with
        | true => rfl
        | false => exact absurd hb hne
    · exact ih hx.2 i hi

theorem ckProg_ok {V F : Int} {c : List Ins} (h : ckProg V F c = 0) : (1 ≤ V ∧ V ≤ 8) ∧ (0 ≤ F ∧ F ≤ 3) ∧ c.length ≤ 60 ∧ (∀ i ∈ c, btw i.k 1 19 = true) ∧ ckAll V F c.length c = 0 := by
  unfold ckProg at h
  split at h
  · cases h
  · rename_i h1
    split at h
    · cases h
    · have h1' : ¬ (btw V 1 8 = false) ∧ ¬ (btw F 0 3 = false) := by simpa using h1
      have hv : btw V 1 8 = true := by simpa using h1'.1
      have hf : btw F 0 3 = true := by simpa using h1'.2
      exact ⟨by simpa [btw] using hv, by simpa [btw] using hf, by omega, ckAll_kinds h, h⟩

set_option maxHeartbeats 1000000 in
set_option maxRecDepth 20000 in
theorem print_loop (V F : Int) (b off cap : Nat) (c : List Ins) (w : World) (h0 : ckProg V F c = 0) (hf : ∀ i ∈ c, i.Fits) (ht : Tab w) (hb : b < w.heap.size) (hc : ∀ k (h : k < c.length), InsAt w b (off + k * 6) c[k]) :
    Calls Tryd.prog 8 #[.agg #[.int .i64 V, .int .i64 F, .slice (some ⟨b, off, none⟩) c.length cap]] w fun e w' => e = .returned (.tuple #[.string (textB V F c), .int .i64 0]) ∧ Below w.heap.size w w' := by
  obtain ⟨hV, hF, hL, hk, _⟩ := ckProg_ok h0
  have fV : fits V := ⟨by omega, by omega⟩
  have fF : fits F := ⟨by omega, by omega⟩
  have hcode : CodeAt w (some ⟨b, off, none⟩) c := .inr ⟨b, off, rfl, hb, hc⟩
  have hbox : Below w.heap.size w (w.alloc (.cells #[.int .i64 V, .int .i64 F, .slice (some ⟨b, off, none⟩) c.length cap] 24)) := by go_grown
  have hhs := headB_size V F fV fF
  go_enter Tryd.func8, Tryd.ntmps8
  go_wp2_with (first
    | (go_at_call 14; refine (codeCheck_any V F _ _ c _ (hcode.below hbox (Nat.le_refl _))).mono ?_; rintro e w1 ⟨rfl, hb1⟩)
    | (go_at_call 29; refine (shapes_any _).mono ?_; rintro e w2 ⟨rfl, hs2, hb2⟩; have HB2 : Below (w.heap.size + 1) (w.alloc (.cells #[.int .i64 V, .int .i64 F, .slice (some ⟨b, off, none⟩) c.length cap] 24)) w2 := (hb1.mono (by simp)).trans (hb2.mono (by have := hb1.size; simp at this; omega)); have HS2 : w.heap.size < w2.heap.size := (by have := HB2.size; simp at this; omega); have q0 : w2.cell? ⟨w.heap.size, 0, none⟩ = some (.int .i64 V) := (by rw [HB2.cell (by simp)]; simp [go_sem]); have q1 : w2.cell? ⟨w.heap.size, 1, none⟩ = some (.int .i64 F) := (by rw [HB2.cell (by simp)]; simp [go_sem]); have q2 : w2.cell? ⟨w.heap.size, 2, none⟩ = some (.slice (some ⟨b, off, none⟩) c.length cap) := (by rw [HB2.cell (by simp)]; simp [go_sem]))
    | (go_at_call 31; refine (printHead_any V F _ _ _ _ fV fF ?tb).mono ?_; (case tb => exact ht.below ((hbox.trans (HB2.mono (by omega))).alloc (by omega) _)); rintro e w3 ⟨rfl, hb3⟩; have fresh : Lib.BuilderAt 65 5 w2.heap.size w2.heap.size (.pointer none) [] w3 := builder_below ⟨Nat.le_refl _, _, (MapKept.heap_alloc w2 _).1, ⟨rfl, .inl ⟨rfl, rfl⟩⟩, (by intro h; cases h)⟩ hb3; have HB3 : Below w2.heap.size w2 w3 := Below.trans (by go_grown) (hb3.mono (by go_size)))
    | (go_at_call 30; refine (writeString_any w2.heap.size w2.heap.size [] (headB V F) _ (.inl fresh) (by simp; omega) HB3.size).mono ?_; rintro e w4 ⟨rfl, ha4, hb4⟩; have HB4 : Below w2.heap.size w2 w4 := HB3.trans hb4; have q2 : w4.cell? ⟨w.heap.size, 2, none⟩ = some (.slice (some ⟨b, off, none⟩) c.length cap) := (by rw [HB4.cell HS2]; exact q2)))
  have HW2 : Below w.heap.size w w2 := hbox.trans (HB2.mono (by omega))
  go_loopw [21] (fun i wr => ∃ k : Nat, k ≤ c.length ∧ i = .int .i64 k ∧ BuildAt w2.heap.size w2.heap.size (textB V F (c.take k)) wr ∧ Below w2.heap.size w2 wr) (fun i _ => c.length - (intOf i).toNat)
  case atStart => exact ⟨0, Nat.zero_le _, rfl, ha4, HB4⟩
  case round =>
    obtain ⟨k, hk', rfl, hbd, hbr⟩ := hrel
    have q3 : wr.cell? ⟨w.heap.size, 2, none⟩ = some (.slice (some ⟨b, off, none⟩) c.length cap) := by rw [hbr.cell HS2, ← HB4.cell HS2]; exact q2
    have s1 := hbr.size
    by_cases hlt : k < c.length
    · obtain ⟨i0, i1, i2, i3, i4, i5⟩ : InsAt wr b (off + k * 6) c[k] := ((hc k hlt).below HW2 hb).below hbr (by omega)
      have n0 : (0 : Int) ≤ (k : Int) := by omega
      have n1 : (k : Int) < (c.length : Int) := by omega
      have hs := lineB_size c[k] (hf _ (List.getElem_mem _))
      have ht' := textB_size V F fV fF (c.take k) (fun i hi => hf i (List.mem_of_mem_take hi))
      have hl : (c.take k).length = k := by simp; omega
      rw [hl] at ht'
      have HT : Hid (textB V F (c.take (k + 1)) = textB V F (c.take k) ++ (lineB c[k] ++ ⟨#[10]⟩)) := textB_snoc V F c k hlt
      have hsz : (Lib.strCells (textB V F (c.take k))).length + (lineB c[k] ++ ⟨#[10]⟩).size ≤ 140737488355328 := by
        have s10 : (⟨#[10]⟩ : ByteArray).size = 1 := rfl
        rw [Lib.strCells_length, ByteArray.size_append, s10]
        omega
      have hkk := hk c[k] (List.getElem_mem hlt)
      have hff := hf c[k] (List.getElem_mem hlt)
      have hba : Below wr.heap.size wr (wr.alloc (.cells #[.int .i64 c[k].k, .int .i64 c[k].to, .int .i64 c[k].a, .int .i64 c[k].b, .int .i64 c[k].n, .int .i64 c[k].g] 71)) := Below.alloc (Below.refl _ _) (Nat.le_refl _) _
      have SH : ShpAt w1.heap.size shps (wr.alloc (.cells #[.int .i64 c[k].k, .int .i64 c[k].to, .int .i64 c[k].a, .int .i64 c[k].b, .int .i64 c[k].n, .int .i64 c[k].g] 71)) := (hs2.below hbr (Nat.le_refl _)).below hba (Nat.le_refl _)
      have TB : Tab (wr.alloc (.cells #[.int .i64 c[k].k, .int .i64 c[k].to, .int .i64 c[k].a, .int .i64 c[k].b, .int .i64 c[k].n, .int .i64 c[k].g] 71)) := (ht.below (HW2.trans (hbr.mono HW2.size))).below hba
      have BA : BuildAt w2.heap.size w2.heap.size (textB V F (c.take k)) (wr.alloc (.cells #[.int .i64 c[k].k, .int .i64 c[k].to, .int .i64 c[k].a, .int .i64 c[k].b, .int .i64 c[k].n, .int .i64 c[k].g] 71)) := builder_below hbd hba
      have HA : Below w2.heap.size w2 (wr.alloc (.cells #[.int .i64 c[k].k, .int .i64 c[k].to, .int .i64 c[k].a, .int .i64 c[k].b, .int .i64 c[k].n, .int .i64 c[k].g] 71)) := hbr.trans (hba.mono s1)
      clear hl ht' q2 q0 q1
      go_wp2_with (first
        | (go_at_call 32; refine (printInstr_any w1.heap.size c[k] _ SH TB hkk hff).mono ?_; rintro e w5 ⟨rfl, hb5⟩; have hbd5 := builder_below BA hb5; have HB5 : Below w2.heap.size w2 w5 := HA.trans (hb5.mono HA.size))
        | (go_at_call 30; fail))
      have hW := writeString_any w2.heap.size w2.heap.size _ (lineB c[k] ++ ⟨#[10]⟩) w5 (.inr hbd5) hsz HB5.size
      refine hW.mono ?_
      rintro e w6 ⟨rfl, ha6, hb6⟩
      go_wp2
      have HBD : BuildAt w2.heap.size w2.heap.size (textB V F (c.take (k + 1))) w6 := by
        rw [HT.out]
        show Lib.BuilderAt _ _ _ _ _ (Lib.strCells _) _
        rw [strCells_append]
        exact ha6
      go_roundw
      case rel => exact ⟨k + 1, by omega, by go_num, HBD, HB5.trans hb6⟩
      case measure => simp [intOf]; omega
    · have htk : c.take k = c := List.take_of_length_le (by omega)
      rw [htk] at hbd
      clear htk
      have hbd' : Lib.IsBuilder 65 5 w2.heap.size w2.heap.size (Lib.byteCells (textB V F c).data.toList) wr := .inr hbd
      have hS : Calls Tryd.prog 33 #[.pointer (some ⟨w2.heap.size, 0, none⟩)] wr fun e w' => e = .returned (.string (textB V F c)) ∧ Below w2.heap.size wr w' := Tryd.Builder_String_any w2.heap.size w2.heap.size _ wr hbd' s1
      go_wp2_with (go_at_call 33; refine hS.mono ?_; rintro e w7 ⟨rfl, hb7⟩)
      go_ret2
      exact ⟨rfl, HW2.trans ((hbr.trans hb7).mono HW2.size)⟩

set_option maxHeartbeats 1000000 in
set_option maxRecDepth 20000 in
theorem print_nil (V F : Int) (s : Option Addr) (cap : Nat) (w : World) (h0 : ckProg V F [] = 0) (ht : Tab w) :
    Calls Tryd.prog 8 #[.agg #[.int .i64 V, .int .i64 F, .slice s 0 cap]] w fun e w' => e = .returned (.tuple #[.string (textB V F []), .int .i64 0]) ∧ Below w.heap.size w w' := by
  obtain ⟨hV, hF, _, _, _⟩ := ckProg_ok h0
  have fV : fits V := ⟨by omega, by omega⟩
  have fF : fits F := ⟨by omega, by omega⟩
  have hbox : Below w.heap.size w (w.alloc (.cells #[.int .i64 V, .int .i64 F, .slice s 0 cap] 24)) := by go_grown
  have hhs := headB_size V F fV fF
  go_enter Tryd.func8, Tryd.ntmps8
  go_wp2_with (first
    | (go_at_call 14; refine (codeCheck_any V F s cap [] _ (.inl rfl)).mono ?_; rintro e w1 ⟨rfl, hb1⟩)
    | (go_at_call 29; refine (shapes_any _).mono ?_; rintro e w2 ⟨rfl, hs2, hb2⟩; have HB2 : Below (w.heap.size + 1) (w.alloc (.cells #[.int .i64 V, .int .i64 F, .slice s 0 cap] 24)) w2 := (hb1.mono (by simp)).trans (hb2.mono (by have := hb1.size; simp at this; omega)); have HS2 : w.heap.size < w2.heap.size := (by have := HB2.size; simp at this; omega); have q0 : w2.cell? ⟨w.heap.size, 0, none⟩ = some (.int .i64 V) := (by rw [HB2.cell (by simp)]; simp [go_sem]); have q1 : w2.cell? ⟨w.heap.size, 1, none⟩ = some (.int .i64 F) := (by rw [HB2.cell (by simp)]; simp [go_sem]); have q2 : w2.cell? ⟨w.heap.size, 2, none⟩ = some (.slice s 0 cap) := (by rw [HB2.cell (by simp)]; simp [go_sem]))
    | (go_at_call 31; refine (printHead_any V F _ _ _ _ fV fF ?tb).mono ?_; (case tb => exact ht.below ((hbox.trans (HB2.mono (by omega))).alloc (by omega) _)); rintro e w3 ⟨rfl, hb3⟩; have fresh : Lib.BuilderAt 65 5 w2.heap.size w2.heap.size (.pointer none) [] w3 := builder_below ⟨Nat.le_refl _, _, (MapKept.heap_alloc w2 _).1, ⟨rfl, .inl ⟨rfl, rfl⟩⟩, (by intro h; cases h)⟩ hb3; have HB3 : Below w2.heap.size w2 w3 := Below.trans (by go_grown) (hb3.mono (by go_size)))
    | (go_at_call 30; refine (writeString_any w2.heap.size w2.heap.size [] (headB V F) _ (.inl fresh) (by simp; omega) HB3.size).mono ?_; rintro e w4 ⟨rfl, ha4, hb4⟩; have HB4 : Below w2.heap.size w2 w4 := HB3.trans hb4; have q2 : w4.cell? ⟨w.heap.size, 2, none⟩ = some (.slice s 0 cap) := (by rw [HB4.cell HS2]; exact q2)))
  have HW2 : Below w.heap.size w w2 := hbox.trans (HB2.mono (by omega))
  have hbd' : Lib.IsBuilder 65 5 w2.heap.size w2.heap.size (Lib.byteCells (textB V F []).data.toList) w4 := .inr ha4
  have hS : Calls Tryd.prog 33 #[.pointer (some ⟨w2.heap.size, 0, none⟩)] w4 fun e w' => e = .returned (.string (textB V F [])) ∧ Below w2.heap.size w4 w' := Tryd.Builder_String_any w2.heap.size w2.heap.size _ w4 hbd' HB4.size
  refine wp_loop_rounds 1 ?_
  rw [rounds_succ]
  go_wp2_with (go_at_call 33; refine hS.mono ?_; rintro e w7 ⟨rfl, hb7⟩)
  go_ret2
  exact ⟨rfl, HW2.trans ((HB4.trans hb7).mono HW2.size)⟩

set_option maxHeartbeats 1000000 in
theorem print_err (V F : Int) (s : Option Addr) (cap : Nat) (c : List Ins) (w : World) (h : CodeAt w s c) (h0 : ckProg V F c ≠ 0) :
    Calls Tryd.prog 8 #[.agg #[.int .i64 V, .int .i64 F, .slice s c.length cap]] w fun e w' => e = .returned (.tuple #[.string ⟨#[]⟩, .int .i64 (ckProg V F c)]) ∧ Below w.heap.size w w' := by
  have hbox : Below w.heap.size w (w.alloc (.cells #[.int .i64 V, .int .i64 F, .slice s c.length cap] 24)) := by go_grown
  have hne : (ckProg V F c != 0) = true := by simpa using h0
  go_enter Tryd.func8, Tryd.ntmps8
  go_wp2_with (go_at_call 14; refine (codeCheck_any V F s cap c _ (h.below hbox (Nat.le_refl _))).mono ?_; rintro e w1 ⟨rfl, hb1⟩)
  go_ret2
  exact ⟨rfl, hbox.trans (hb1.mono (by simp))⟩

/-- What is printed of a program. -/
def textAll (V F : Int) (c : List Ins) : ByteArray := if ckProg V F c = 0 then textB V F c else ⟨#[]⟩

/-- The program's text of a program, whatever it is handed. -/
theorem print_any (V F : Int) (s : Option Addr) (cap : Nat) (c : List Ins) (w : World) (hf : ∀ i ∈ c, i.Fits) (ht : Tab w) (h : CodeAt w s c) :
    Calls Tryd.prog 8 #[.agg #[.int .i64 V, .int .i64 F, .slice s c.length cap]] w fun e w' => e = .returned (.tuple #[.string (textAll V F c), .int .i64 (ckProg V F c)]) ∧ Below w.heap.size w w' := by
  by_cases h0 : ckProg V F c = 0
  · unfold textAll
    rw [if_pos h0, h0]
    rcases h with rfl | ⟨b, off, rfl, hb, hc⟩
    · exact print_nil V F s cap w h0 ht
    · exact print_loop V F b off cap c w h0 hf ht hb hc
  · unfold textAll
    rw [if_neg h0]
    exact print_err V F s cap c w h h0
end Go.Proofs.YtmapdpcfanecdaaDoor
