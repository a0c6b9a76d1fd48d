/- Walks over package code: the kind whose line it is. -/
import Derived.Test.YtmapdpcfanecdaaDoorKlawpbp20
import Derived.Test.YtmapdpcfanecdaaDoorKlawpbp33
namespace Go.Proofs.YtmapdpcfanecdaaDoor
set_option linter.unusedVariables false
set_option linter.unusedSimpArgs false
open Go.RowKit

/-- The library's bound lies in its variable, whatever it is. -/
def Cap (w : World) : Prop := ∃ m, w.cell? ⟨0, 0, none⟩ = some (.int .i64 m)
theorem Cap.below {w w' : World} (h : Cap w) (hb : Below w.heap.size w w') : Cap w' := by
  obtain ⟨m, hm⟩ := h
  exact ⟨m, by rw [hb.cell (World.block_lt_of_cell? w _ hm)]; exact hm⟩

set_option maxHeartbeats 1000000 in
set_option maxRecDepth 20000 in
theorem parseNumber_ok (s : ByteArray) (v : Int) (w : World) (h : Lib.atoiAll s.data.toList = .ok v) (hf : fits v) (hi : itoaB v = s) (hs : s.size ≤ 11) (ht : Tab w) :
    Calls Tryd.prog 92 #[.string s] w fun e w' => e = .returned (.tuple #[.int .i64 v, .bool true]) ∧ Below w.heap.size w w' := by
  have n1 : ¬ (11 : Int) < (s.size : Int) := by omega
  have hA : ∀ w, Calls Tryd.prog 109 #[.string s] w fun e w' => e = .returned (.tuple #[.int .i64 v, .nilIface]) ∧ Below w.heap.size w w' := by
    intro w
    refine (Tryd.strconv_Atoi_ok s (by omega) v h w).mono ?_
    rintro e w' ⟨rfl, rfl | ⟨t, rfl⟩⟩
    · exact ⟨rfl, Below.refl _ _⟩
    · exact ⟨rfl, Lib.bytesWorld_below _ _ _⟩
  go_enter Tryd.func92, Tryd.ntmps92
  go_wp2_with (first
    | (go_at_call 109; refine (hA _).mono ?_; rintro e w1 ⟨rfl, hb1⟩)
    | (go_at_call 62; refine (itoa_any v _ hf (ht.below hb1)).mono ?_; rintro e w2 ⟨rfl, hb2⟩))
  go_ret2
  exact ⟨rfl, hb1.trans (hb2.mono hb1.size)⟩

/-- A line cut at its blanks, in a row of the call's own. -/
theorem split_words (s : ByteArray) (xs : List ByteArray) (w : World) (hm : Cap w) (hs : s.size < 4294967281) (hc : Lib.countB s ⟨#[32]⟩ + 1 = xs.length) (hx : Lib.splitB ⟨#[32]⟩ 0 (Lib.countB s ⟨#[32]⟩) s = xs) :
    Calls Tryd.prog 91 #[.string s, .string ⟨#[32]⟩] w fun e w' => e = .returned (.slice (some ⟨w.heap.size, 0, none⟩) xs.length xs.length) ∧ w' = w.alloc (.cells (xs.map Value.string).toArray 9) := by
  obtain ⟨m, hm⟩ := hm
  refine (Tryd.strings_Split s ⟨#[32]⟩ m w hs hm (by decide)).mono ?_
  rintro e w' ⟨rfl, rfl⟩
  rw [hc, hx]
  exact ⟨rfl, rfl⟩

def lineHead : ByteArray := ⟨#[118, 97, 114, 115, 32, 49, 32, 102, 105, 101, 108, 100, 115, 32, 48]⟩
theorem head_count : Lib.countB lineHead ⟨#[32]⟩ + 1 = 4 := by decide +kernel
theorem head_split : Lib.splitB ⟨#[32]⟩ 0 (Lib.countB lineHead ⟨#[32]⟩) lineHead = [⟨#[118, 97, 114, 115]⟩, ⟨#[49]⟩, ⟨#[102, 105, 101, 108, 100, 115]⟩, ⟨#[48]⟩] := by decide +kernel

set_option maxHeartbeats 1000000 in
set_option maxRecDepth 20000 in
theorem parseHead_small (w : World) (ht : Tab w) (hm : Cap w) :
    Calls Tryd.prog 69 #[.string lineHead] w fun e w' => e = .returned (.tuple #[.agg #[.int .i64 1, .int .i64 0, .slice none 0 0], .bool true]) ∧ Below w.heap.size w w' := by
  have hb1 : Below w.heap.size w (w.alloc (.cells #[.int .i64 0, .int .i64 0, .slice none 0 0] 24)) := by go_grown
  have hsp := split_words lineHead [⟨#[118, 97, 114, 115]⟩, ⟨#[49]⟩, ⟨#[102, 105, 101, 108, 100, 115]⟩, ⟨#[48]⟩] _ (hm.below hb1) (by decide) head_count head_split
  have ha1 : Lib.atoiAll (⟨#[49]⟩ : ByteArray).data.toList = .ok 1 := by decide +kernel
  have ha0 : Lib.atoiAll (⟨#[48]⟩ : ByteArray).data.toList = .ok 0 := by decide +kernel
  have hi1 : itoaB 1 = ⟨#[49]⟩ := by decide +kernel
  have hi0 : itoaB 0 = ⟨#[48]⟩ := by decide +kernel
  have hb2 : Below w.heap.size w ((w.alloc (.cells #[.int .i64 0, .int .i64 0, .slice none 0 0] 24)).alloc (.cells #[.string ⟨#[118, 97, 114, 115]⟩, .string ⟨#[49]⟩, .string ⟨#[102, 105, 101, 108, 100, 115]⟩, .string ⟨#[48]⟩] 9)) := by go_grown
  go_enter Tryd.func69, Tryd.ntmps69
  go_wp2_with (first | (go_at_call 91; refine hsp.mono ?_; rintro e w1 ⟨rfl, rfl⟩) | (go_at_call 92; fail))
  refine (parseNumber_ok ⟨#[49]⟩ 1 _ ha1 ⟨by decide, by decide⟩ hi1 (by decide) (ht.below hb2)).mono ?_
  rintro e w3 ⟨rfl, hb3⟩
  have HB3 : Below w.heap.size w w3 := hb2.trans (hb3.mono (by go_size))
  have q3 : w3.cell? ⟨w.heap.size + 1, 3, none⟩ = some (.string ⟨#[48]⟩) := by rw [hb3.cell (by simp)]; simp [go_sem]
  have hs3 : w.heap.size < w3.heap.size := by have := hb3.size; simp at this; omega
  have f3 : ∀ j, w3.frozen? ⟨w.heap.size, j, none⟩ = false := fun j => by rw [hb3.frozen (by simp; omega)]; simp [go_sem]
  have d0 : w3.cell? ⟨w.heap.size, 0, none⟩ = some (.int .i64 0) := by rw [hb3.cell (by simp; omega)]; simp [go_sem]
  have d1 : w3.cell? ⟨w.heap.size, 1, none⟩ = some (.int .i64 0) := by rw [hb3.cell (by simp; omega)]; simp [go_sem]
  have d2 : w3.cell? ⟨w.heap.size, 2, none⟩ = some (.slice none 0 0) := by rw [hb3.cell (by simp; omega)]; simp [go_sem]
  clear hsp
  go_wp2_with (go_at_call 92; fail)
  refine (parseNumber_ok ⟨#[48]⟩ 0 _ ha0 ⟨by decide, by decide⟩ hi0 (by decide) (ht.below HB3)).mono ?_
  rintro e w4 ⟨rfl, hb4⟩
  have HB4 : Below w.heap.size w w4 := HB3.trans (hb4.mono (by omega))
  have f4 : ∀ j, w4.frozen? ⟨w.heap.size, j, none⟩ = false := fun j => by rw [hb4.frozen hs3]; exact f3 j
  have e0 : w4.cell? ⟨w.heap.size, 0, none⟩ = some (.int .i64 0) := by rw [hb4.cell hs3]; exact d0
  have e1 : w4.cell? ⟨w.heap.size, 1, none⟩ = some (.int .i64 0) := by rw [hb4.cell hs3]; exact d1
  have e2 : w4.cell? ⟨w.heap.size, 2, none⟩ = some (.slice none 0 0) := by rw [hb4.cell hs3]; exact d2
  clear d0 d1 d2 f3 q3
  go_wp2
  refine bodyPost_ret (v := .tuple #[.agg #[.int .i64 1, .int .i64 0, .slice none 0 0], .bool true]) (by simp [results, Tryd.results69, go_sem, e0, e1, e2]) rfl ⟨rfl, ?_⟩
  exact ((HB4.setCell (Nat.le_refl _) _).setCell (Nat.le_refl _) _).setCell (Nat.le_refl _) _
end Go.Proofs.YtmapdpcfanecdaaDoor

namespace Go.Proofs.YtmapdpcfanecdaaDoor
set_option linter.unusedVariables false
set_option linter.unusedSimpArgs false
open Go.RowKit

set_option maxHeartbeats 1000000 in
set_option maxRecDepth 20000 in
theorem wanted_yes (x : ByteArray) (sa : Option Addr) (np p g n c : Nat) (w : World) (h0 : 0 < n) (hn : n ≤ 100) (hp : p < w.heap.size) (hg : g < w.heap.size) (hc : w.cell? ⟨p, 0, none⟩ = some (.slice (some ⟨g, 0, none⟩) n c)) (hx : w.cell? ⟨g, 0, none⟩ = some (.string x)) (he : np + 1 = n) :
    Calls Tryd.prog 94 #[.agg #[.string x, .slice sa np np], .pointer (some ⟨p, 0, none⟩)] w fun e w' => e = .returned (.bool true) ∧ Below w.heap.size w w' := by
  have n0 : (0 : Int) < (n : Int) := by omega
  have e1 : ((np : Int) == (n : Int) - 1) = true := by simp; omega
  have z1 : p < w.heap.size + 1 := by omega
  have z2 : g < w.heap.size + 1 := by omega
  clear he
  go_enter Tryd.func94, Tryd.ntmps94
  go_wp2
  go_quiet (fail)
  go_wp2
  go_ret
  exact ⟨rfl, below_drewN (by go_grown) _⟩

set_option maxHeartbeats 1000000 in
set_option maxRecDepth 20000 in
theorem wanted_no (x y : ByteArray) (sa : Option Addr) (np p g n c : Nat) (w : World) (h0 : 0 < n) (hn : n ≤ 100) (hp : p < w.heap.size) (hg : g < w.heap.size) (hc : w.cell? ⟨p, 0, none⟩ = some (.slice (some ⟨g, 0, none⟩) n c)) (hx : w.cell? ⟨g, 0, none⟩ = some (.string x)) (hne : (y.toList == x.toList) = false) :
    Calls Tryd.prog 94 #[.agg #[.string y, .slice sa np np], .pointer (some ⟨p, 0, none⟩)] w fun e w' => e = .returned (.bool false) ∧ Below w.heap.size w w' := by
  have n0 : (0 : Int) < (n : Int) := by omega
  have z1 : p < w.heap.size + 1 := by omega
  have z2 : g < w.heap.size + 1 := by omega
  go_enter Tryd.func94, Tryd.ntmps94
  go_wp2
  go_quiet (fail)
  go_wp2
  go_ret
  exact ⟨rfl, below_drewN (by go_grown) _⟩

/-- How many parts a kind names. -/
def npt (k : Nat) : Nat := match k with
  | 1 => 2 | 2 => 2 | 3 => 1 | 4 => 2 | 5 => 3 | 6 => 3 | 7 => 3 | 8 => 3 | 9 => 3 | 10 => 2 | 11 => 1 | 12 => 3 | 13 => 3 | 14 => 2 | 15 => 2 | 16 => 1 | 17 => 1 | 18 => 1 | _ => 0

theorem nat_cases {k : Nat} (h1 : 1 ≤ k) (h : k ≤ 19) : k = 1 ∨ k = 2 ∨ k = 3 ∨ k = 4 ∨ k = 5 ∨ k = 6 ∨ k = 7 ∨ k = 8 ∨ k = 9 ∨ k = 10 ∨ k = 11 ∨ k = 12 ∨ k = 13 ∨ k = 14 ∨ k = 15 ∨ k = 16 ∨ k = 17 ∨ k = 18 ∨ k = 19 := by omega

theorem look_gen {N : Nat} {w : World} (h : ShpAt N shps w) (k : Nat) (h1 : 1 ≤ k) (h19 : k ≤ 19) : ∃ sa, (Instr.lookup 60 (.map (some N)) (.int .i64 (k : Int)) false).run Tryd.prog w = .ok (.agg #[.string (wordB k), .slice sa (npt k) (npt k)]) w := by
  rcases nat_cases h1 h19 with rfl | rfl | rfl | rfl | rfl | rfl | rfl | rfl | rfl | rfl | rfl | rfl | rfl | rfl | rfl | rfl | rfl | rfl | rfl
  · exact ⟨_, look_val h 1 0 _ rfl⟩
  · exact ⟨_, look_val h 2 1 _ rfl⟩
  · exact ⟨_, look_val h 3 2 _ rfl⟩
  · exact ⟨_, look_val h 4 3 _ rfl⟩
  · exact ⟨_, look_val h 5 4 _ rfl⟩
  · exact ⟨_, look_val h 6 5 _ rfl⟩
  · exact ⟨_, look_val h 7 6 _ rfl⟩
  · exact ⟨_, look_val h 8 7 _ rfl⟩
  · exact ⟨_, look_val h 9 8 _ rfl⟩
  · exact ⟨_, look_val h 10 9 _ rfl⟩
  · exact ⟨_, look_val h 11 10 _ rfl⟩
  · exact ⟨_, look_val h 12 11 _ rfl⟩
  · exact ⟨_, look_val h 13 12 _ rfl⟩
  · exact ⟨_, look_val h 14 13 _ rfl⟩
  · exact ⟨_, look_val h 15 14 _ rfl⟩
  · exact ⟨_, look_val h 16 15 _ rfl⟩
  · exact ⟨_, look_val h 17 16 _ rfl⟩
  · exact ⟨_, look_val h 18 17 _ rfl⟩
  · exact ⟨_, look_val h 19 18 _ rfl⟩

theorem words_differ : ∀ j : Fin 20, ∀ k : Fin 20, 1 ≤ j.val → j.val < k.val → ((wordB j.val).data.toList == (wordB k.val).data.toList) = false := by decide +kernel

set_option maxHeartbeats 1000000 in
set_option maxRecDepth 20000 in
theorem find_at (K N p g n c : Nat) (w : World) (hK1 : 1 ≤ K) (hK : K ≤ 19) (hs : ShpAt N shps w) (hn : n ≤ 100) (hp : p < w.heap.size) (hg : g < w.heap.size) (hc : w.cell? ⟨p, 0, none⟩ = some (.slice (some ⟨g, 0, none⟩) n c)) (hx : w.cell? ⟨g, 0, none⟩ = some (.string (wordB K))) (he : npt K + 1 = n) :
    Calls Tryd.prog 93 #[.map (some N), .func (.func 94) #[] #[.pointer (some ⟨p, 0, none⟩)]] w fun e w' => e = .returned (.tuple #[.int .i64 K, .bool true]) ∧ Below w.heap.size w w' := by
  go_enter Tryd.func93, Tryd.ntmps93
  go_wp2
  go_loopw [6] (fun i wr => ∃ k : Nat, 1 ≤ k ∧ k ≤ K ∧ i = .int .i64 k ∧ Below w.heap.size w wr) (fun i _ => K - (intOf i).toNat)
  case atStart => exact ⟨1, Nat.le_refl _, hK1, rfl, Below.refl _ _⟩
  case round =>
    obtain ⟨k, hk1, hk, rfl, hbr⟩ := hrel
    obtain ⟨sa, hl⟩ := look_gen (hs.below hbr (Nat.le_refl _)) k hk1 (by omega)
    have hc' : wr.cell? ⟨p, 0, none⟩ = some (.slice (some ⟨g, 0, none⟩) n c) := by rw [hbr.cell hp]; exact hc
    have hx' : wr.cell? ⟨g, 0, none⟩ = some (.string (wordB K)) := by rw [hbr.cell hg]; exact hx
    have s0 := hbr.size
    have m1 : (k : Int) ≤ 19 := by omega
    by_cases hkK : k = K
    · subst hkK
      have hW := wanted_yes (wordB k) sa (npt k) p g n c wr (by omega) hn (by omega) (by omega) hc' hx' he
      clear hc' hx' hc hx he hs
      go_wp2_with (go_at_call 94; refine hW.mono ?_; rintro e w1 ⟨rfl, hb1⟩)
      go_ret2
      exact ⟨rfl, hbr.trans (hb1.mono s0)⟩
    · have hd := words_differ ⟨k, by omega⟩ ⟨K, by omega⟩ hk1 (by show k < K; omega)
      have hW := wanted_no (wordB K) (wordB k) sa (npt k) p g n c wr (by omega) hn (by omega) (by omega) hc' hx' (by rw [ByteArray.toList_eq, ByteArray.toList_eq]; exact hd)
      clear hc' hx' hc hx he hs hd
      go_wp2_with (go_at_call 94; refine hW.mono ?_; rintro e w1 ⟨rfl, hb1⟩)
      go_roundw
      case rel => exact ⟨k + 1, by omega, by omega, by go_num, hbr.trans (hb1.mono s0)⟩
      case measure => simp [intOf]; omega
end Go.Proofs.YtmapdpcfanecdaaDoor
