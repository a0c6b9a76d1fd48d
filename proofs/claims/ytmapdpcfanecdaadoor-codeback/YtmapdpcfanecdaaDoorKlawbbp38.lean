/- Walks over package code: a number's word, and a first line that is right. -/
import Derived.Test.YtmapdpcfanecdaaDoorKlawbbp23
import Derived.Test.YtmapdpcfanecdaaDoorKlawbbp37
namespace Go.Proofs.YtmapdpcfanecdaaDoor
set_option linter.unusedVariables false
set_option linter.unusedSimpArgs false
open Go.RowKit

/-- The library's bound lies in its variable, whatever it is. -/
def Cap (w : World) : Prop := ∃ m, w.cell? ⟨0, 0, none⟩ = some (.int .i64 m)
theorem Cap.below {w w' : World} (h : Cap w) (hb : Below w.heap.size w w') : Cap w' := by
  obtain ⟨m, hm⟩ := h
  exact ⟨m, by rw [hb.cell (World.block_lt_of_cell? w _ hm)]; exact hm⟩

set_option maxHeartbeats 1000000 in
set_option maxRecDepth 20000 in
theorem parseNumber_ok (s : ByteArray) (v : Int) (w : World) (h : Lib.atoiAll s.data.toList = .ok v) (hf : fits v) (hi : itoaB v = s) (hs : s.size ≤ 11) (ht : Tab w) :
    Calls Tryd.prog 92 #[.string s] w fun e w' => e = .returned (.tuple #[.int .i64 v, .bool true]) ∧ Below w.heap.size w w' := by
  have n1 : ¬ (11 : Int) < (s.size : Int) := by omega
  have hA : ∀ w, Calls Tryd.prog 109 #[.string s] w fun e w' => e = .returned (.tuple #[.int .i64 v, .nilIface]) ∧ Below w.heap.size w w' := by
    intro w
    refine (Tryd.strconv_Atoi_ok s (by omega) v h w).mono ?_
    rintro e w' ⟨rfl, rfl | ⟨t, rfl⟩⟩
    · exact ⟨rfl, Below.refl _ _⟩
    · exact ⟨rfl, Lib.bytesWorld_below _ _ _⟩
  go_enter Tryd.func92, Tryd.ntmps92
  go_wp2_with (first
    | (go_at_call 109; refine (hA _).mono ?_; rintro e w1 ⟨rfl, hb1⟩)
    | (go_at_call 62; refine (itoa_any v _ hf (ht.below hb1)).mono ?_; rintro e w2 ⟨rfl, hb2⟩))
  go_ret2
  exact ⟨rfl, hb1.trans (hb2.mono hb1.size)⟩

/-- A line cut at its blanks, in a row of the call's own. -/
theorem split_words (s : ByteArray) (xs : List ByteArray) (w : World) (hm : Cap w) (hs : s.size < 4294967281) (hc : Lib.countB s ⟨#[32]⟩ + 1 = xs.length) (hx : Lib.splitB ⟨#[32]⟩ 0 (Lib.countB s ⟨#[32]⟩) s = xs) :
    Calls Tryd.prog 91 #[.string s, .string ⟨#[32]⟩] w fun e w' => e = .returned (.slice (some ⟨w.heap.size, 0, none⟩) xs.length xs.length) ∧ w' = w.alloc (.cells (xs.map Value.string).toArray 9) := by
  obtain ⟨m, hm⟩ := hm
  refine (Tryd.strings_Split s ⟨#[32]⟩ m w hs hm (by decide)).mono ?_
  rintro e w' ⟨rfl, rfl⟩
  rw [hc, hx]
  exact ⟨rfl, rfl⟩

def lineHead : ByteArray := ⟨#[118, 97, 114, 115, 32, 49, 32, 102, 105, 101, 108, 100, 115, 32, 48]⟩
theorem head_count : Lib.countB lineHead ⟨#[32]⟩ + 1 = 4 := by decide +kernel
theorem head_split : Lib.splitB ⟨#[32]⟩ 0 (Lib.countB lineHead ⟨#[32]⟩) lineHead = [⟨#[118, 97, 114, 115]⟩, ⟨#[49]⟩, ⟨#[102, 105, 101, 108, 100, 115]⟩, ⟨#[48]⟩] := by decide +kernel

set_option maxHeartbeats 1000000 in
set_option maxRecDepth 20000 in
theorem parseHead_small (w : World) (ht : Tab w) (hm : Cap w) :
    Calls Tryd.prog 69 #[.string lineHead] w fun e w' => e = .returned (.tuple #[.agg #[.int .i64 1, .int .i64 0, .slice none 0 0], .bool true]) ∧ Below w.heap.size w w' := by
  have hb1 : Below w.heap.size w (w.alloc (.cells #[.int .i64 0, .int .i64 0, .slice none 0 0] 24)) := by go_grown
  have hsp := split_words lineHead [⟨#[118, 97, 114, 115]⟩, ⟨#[49]⟩, ⟨#[102, 105, 101, 108, 100, 115]⟩, ⟨#[48]⟩] _ (hm.below hb1) (by decide) head_count head_split
  have ha1 : Lib.atoiAll (⟨#[49]⟩ : ByteArray).data.toList = .ok 1 := by decide +kernel
  have ha0 : Lib.atoiAll (⟨#[48]⟩ : ByteArray).data.toList = .ok 0 := by decide +kernel
  have hi1 : itoaB 1 = ⟨#[49]⟩ := by decide +kernel
  have hi0 : itoaB 0 = ⟨#[48]⟩ := by decide +kernel
  have hb2 : Below w.heap.size w ((w.alloc (.cells #[.int .i64 0, .int .i64 0, .slice none 0 0] 24)).alloc (.cells #[.string ⟨#[118, 97, 114, 115]⟩, .string ⟨#[49]⟩, .string ⟨#[102, 105, 101, 108, 100, 115]⟩, .string ⟨#[48]⟩] 9)) := by go_grown
  go_enter Tryd.func69, Tryd.ntmps69
  go_wp2_with (first | (go_at_call 91; refine hsp.mono ?_; rintro e w1 ⟨rfl, rfl⟩) | (go_at_call 92; fail))
  refine (parseNumber_ok ⟨#[49]⟩ 1 _ ha1 ⟨by decide, by decide⟩ hi1 (by decide) (ht.below hb2)).mono ?_
  rintro e w3 ⟨rfl, hb3⟩
  have HB3 : Below w.heap.size w w3 := hb2.trans (hb3.mono (by go_size))
  have q3 : w3.cell? ⟨w.heap.size + 1, 3, none⟩ = some (.string ⟨#[48]⟩) := by rw [hb3.cell (by simp)]; simp [go_sem]
  have hs3 : w.heap.size < w3.heap.size := by have := hb3.size; simp at this; omega
  have f3 : ∀ j, w3.frozen? ⟨w.heap.size, j, none⟩ = false := fun j => by rw [hb3.frozen (by simp; omega)]; simp [go_sem]
  have d0 : w3.cell? ⟨w.heap.size, 0, none⟩ = some (.int .i64 0) := by rw [hb3.cell (by simp; omega)]; simp [go_sem]
  have d1 : w3.cell? ⟨w.heap.size, 1, none⟩ = some (.int .i64 0) := by rw [hb3.cell (by simp; omega)]; simp [go_sem]
  have d2 : w3.cell? ⟨w.heap.size, 2, none⟩ = some (.slice none 0 0) := by rw [hb3.cell (by simp; omega)]; simp [go_sem]
  clear hsp
  go_wp2_with (go_at_call 92; fail)
  refine (parseNumber_ok ⟨#[48]⟩ 0 _ ha0 ⟨by decide, by decide⟩ hi0 (by decide) (ht.below HB3)).mono ?_
  rintro e w4 ⟨rfl, hb4⟩
  have HB4 : Below w.heap.size w w4 := HB3.trans (hb4.mono (by omega))
  have f4 : ∀ j, w4.frozen? ⟨w.heap.size, j, none⟩ = false := fun j => by rw [hb4.frozen hs3]; exact f3 j
  have e0 : w4.cell? ⟨w.heap.size, 0, none⟩ = some (.int .i64 0) := by rw [hb4.cell hs3]; exact d0
  have e1 : w4.cell? ⟨w.heap.size, 1, none⟩ = some (.int .i64 0) := by rw [hb4.cell hs3]; exact d1
  have e2 : w4.cell? ⟨w.heap.size, 2, none⟩ = some (.slice none 0 0) := by rw [hb4.cell hs3]; exact d2
  clear d0 d1 d2 f3 q3
  go_wp2
  refine bodyPost_ret (v := .tuple #[.agg #[.int .i64 1, .int .i64 0, .slice none 0 0], .bool true]) (by simp [results, Tryd.results69, go_sem, e0, e1, e2]) rfl ⟨rfl, ?_⟩
  exact ((HB4.setCell (Nat.le_refl _) _).setCell (Nat.le_refl _) _).setCell (Nat.le_refl _) _
end Go.Proofs.YtmapdpcfanecdaaDoor
