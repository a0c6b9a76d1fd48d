/- Walks over package code: the check of a program. -/
import Derived.Test.YtmapdpcfanecdaaDoorKlawpbp25
import Derived.Test.YtmapdpcfanecdaaDoorKlawpbp26
import Derived.Test.YtmapdpcfanecdaaDoorKlawpbp27
import Derived.Test.YtmapdpcfanecdaaDoorKlawpbp28
namespace Go.Proofs.YtmapdpcfanecdaaDoor
set_option linter.unusedVariables false
set_option linter.unusedSimpArgs false
open Go.RowKit

theorem checkInstr_any (V F : Int) (s : Option Addr) (len cap N : Nat) (i : Ins) (w : World) (hV : 1 ≤ V) (hV' : V ≤ 8) (hF : 0 ≤ F) (hF' : F ≤ 3) (hL : len ≤ 60) (hs : ShpAt N shps w) :
    Calls Tryd.prog 42 #[.agg #[.int .i64 V, .int .i64 F, .slice s len cap], .map (some N), .agg #[.int .i64 i.k, .int .i64 i.to, .int .i64 i.a, .int .i64 i.b, .int .i64 i.n, .int .i64 i.g]] w fun e w' => e = .returned (.int .i64 (ckOne V F len i)) ∧ Below w.heap.size w w' := by
  obtain ⟨k, to, a, b, n, g⟩ := i
  by_cases h : btw k 1 19 = true
  · rcases btw_cases h with rfl | rfl | rfl | rfl | rfl | rfl | rfl | rfl | rfl | rfl | rfl | rfl | rfl | rfl | rfl | rfl | rfl | rfl | rfl
    · exact checkInstr_1 V F s len cap N to a b n g w hV hV' hF hF' hL hs
    · exact checkInstr_2 V F s len cap N to a b n g w hV hV' hF hF' hL hs
    · exact checkInstr_3 V F s len cap N to a b n g w hV hV' hF hF' hL hs
    · exact checkInstr_4 V F s len cap N to a b n g w hV hV' hF hF' hL hs
    · exact checkInstr_5 V F s len cap N to a b n g w hV hV' hF hF' hL hs
    · exact checkInstr_6 V F s len cap N to a b n g w hV hV' hF hF' hL hs
    · exact checkInstr_7 V F s len cap N to a b n g w hV hV' hF hF' hL hs
    · exact checkInstr_8 V F s len cap N to a b n g w hV hV' hF hF' hL hs
    · exact checkInstr_9 V F s len cap N to a b n g w hV hV' hF hF' hL hs
    · exact checkInstr_10 V F s len cap N to a b n g w hV hV' hF hF' hL hs
    · exact checkInstr_11 V F s len cap N to a b n g w hV hV' hF hF' hL hs
    · exact checkInstr_12 V F s len cap N to a b n g w hV hV' hF hF' hL hs
    · exact checkInstr_13 V F s len cap N to a b n g w hV hV' hF hF' hL hs
    · exact checkInstr_14 V F s len cap N to a b n g w hV hV' hF hF' hL hs
    · exact checkInstr_15 V F s len cap N to a b n g w hV hV' hF hF' hL hs
    · exact checkInstr_16 V F s len cap N to a b n g w hV hV' hF hF' hL hs
    · exact checkInstr_17 V F s len cap N to a b n g w hV hV' hF hF' hL hs
    · exact checkInstr_18 V F s len cap N to a b n g w hV hV' hF hF' hL hs
    · exact checkInstr_19 V F s len cap N to a b n g w hV hV' hF hF' hL hs
  · exact checkInstr_no V F s len cap N k to a b n g w hV hV' hF hF' hL hs (by simpa using h)

set_option maxHeartbeats 1000000 in
theorem check_loop (V F : Int) (b off cap : Nat) (c : List Ins) (w : World) (hV : 1 ≤ V) (hV' : V ≤ 8) (hF : 0 ≤ F) (hF' : F ≤ 3) (hL : c.length ≤ 60) (hb : b < w.heap.size) (hc : ∀ k (h : k < c.length), InsAt w b (off + k * 6) c[k]) :
    Calls Tryd.prog 14 #[.agg #[.int .i64 V, .int .i64 F, .slice (some ⟨b, off, none⟩) c.length cap]] w fun e w' => e = .returned (.int .i64 (ckAll V F c.length c)) ∧ Below w.heap.size w w' := by
  have hl60 : (c.length : Int) ≤ 60 := by omega
  have hbox : Below w.heap.size w (w.alloc (.cells #[.int .i64 V, .int .i64 F, .slice (some ⟨b, off, none⟩) c.length cap] 24)) := by go_grown
  go_enter Tryd.func14, Tryd.ntmps14
  go_wp2_with (go_at_call 29; refine (shapes_any _).mono ?_; rintro e w1 ⟨rfl, hs1, hb1⟩; obtain ⟨hc1, hf1⟩ := bcell hb1; have q2 : w1.cell? ⟨w.heap.size, 2, none⟩ = some (.slice (some ⟨b, off, none⟩) c.length cap) := (by rw [hb1.cell (by simp)]; simp [go_sem]))
  simp only [World.size_alloc] at hs1
  have q0 : w1.cell? ⟨w.heap.size, 0, none⟩ = some (.int .i64 V) := by rw [hb1.cell (by simp)]; simp [go_sem]
  have q1 : w1.cell? ⟨w.heap.size, 1, none⟩ = some (.int .i64 F) := by rw [hb1.cell (by simp)]; simp [go_sem]
  clear hc1 hf1
  have z1 : w.heap.size + 1 ≤ w1.heap.size := by have := hb1.size; simp at this; omega
  have hbw : Below w.heap.size w w1 := hbox.trans (hb1.mono (by simp))
  go_loopw [35] (fun i wr => ∃ k : Nat, k ≤ c.length ∧ i = .int .i64 k ∧ Below w1.heap.size w1 wr ∧ Hid (ckAll V F c.length (c.drop k) = ckAll V F c.length c)) (fun i _ => c.length - (intOf i).toNat)
  case atStart => exact ⟨0, Nat.zero_le _, rfl, Below.refl _ _, rfl⟩
  case round =>
    obtain ⟨k, hk, rfl, hbr, HR⟩ := hrel
    have r0 : wr.cell? ⟨w.heap.size, 0, none⟩ = some (.int .i64 V) := by rw [hbr.cell (by simp; omega)]; exact q0
    have r1 : wr.cell? ⟨w.heap.size, 1, none⟩ = some (.int .i64 F) := by rw [hbr.cell (by simp; omega)]; exact q1
    have r2 : wr.cell? ⟨w.heap.size, 2, none⟩ = some (.slice (some ⟨b, off, none⟩) c.length cap) := by rw [hbr.cell (by simp; omega)]; exact q2
    have s0 : w1.heap.size ≤ wr.heap.size := hbr.size
    have s1 : w.heap.size < wr.heap.size := by omega
    have s2 : b < wr.heap.size := by omega
    by_cases hlt : k < c.length
    · have hi : InsAt wr b (off + k * 6) c[k] := ((hc k hlt).below hbw hb).below hbr (by omega)
      obtain ⟨i0, i1, i2, i3, i4, i5⟩ := hi
      have n0 : (0 : Int) ≤ (k : Int) := by omega
      have n1 : (k : Int) < (c.length : Int) := by omega
      clear q0 q1 q2
      have HS := ckAll_step (V := V) (F := F) (L := c.length) hlt
      by_cases hz : ckOne V F c.length c[k] = 0
      · have HC : Hid (ckAll V F c.length (c.drop (k + 1)) = ckAll V F c.length c) := by have := HR.out; rw [HS, if_pos hz] at this; exact this
        clear HS HR
        go_wp2_with (go_at_call 42; refine (checkInstr_any V F _ _ _ _ c[k] _ hV hV' hF hF' hL ?hs).mono ?_; (case hs => exact hs1.below (hbr.alloc s0 _) (Nat.le_refl _)); rintro e w2 ⟨rfl, hb2⟩)
        go_roundw
        case rel => exact ⟨k + 1, by omega, by go_num, (hbr.alloc s0 _).trans (hb2.mono (by simp; omega)), HC⟩
        case measure => simp [intOf]; omega
      · rw [if_neg hz] at HS
        have HC : Hid (ckOne V F c.length c[k] = ckAll V F c.length c) := by have := HR.out; rw [HS] at this; exact this
        have hz' : (ckOne V F c.length c[k] != 0) = true := by simpa using hz
        clear HS HR
        go_wp2_with (go_at_call 42; refine (checkInstr_any V F _ _ _ _ c[k] _ hV hV' hF hF' hL ?hs).mono ?_; (case hs => exact hs1.below (hbr.alloc s0 _) (Nat.le_refl _)); rintro e w2 ⟨rfl, hb2⟩)
        go_ret
        exact ⟨ret_int HC.out, hbw.trans (((hbr.alloc s0 _).trans (hb2.mono (by simp; omega))).mono (by omega))⟩
    · go_wp2
      go_ret
      exact ⟨ret_int (by have := HR.out; rw [List.drop_eq_nil_of_le (by omega)] at this; exact this), hbw.trans (hbr.mono (by omega))⟩

set_option maxHeartbeats 1000000 in
theorem check_nil (V F : Int) (s : Option Addr) (cap : Nat) (w : World) (hV : 1 ≤ V) (hV' : V ≤ 8) (hF : 0 ≤ F) (hF' : F ≤ 3) :
    Calls Tryd.prog 14 #[.agg #[.int .i64 V, .int .i64 F, .slice s 0 cap]] w fun e w' => e = .returned (.int .i64 0) ∧ Below w.heap.size w w' := by
  have hbox : Below w.heap.size w (w.alloc (.cells #[.int .i64 V, .int .i64 F, .slice s 0 cap] 24)) := by go_grown
  go_enter Tryd.func14, Tryd.ntmps14
  go_wp2_with (go_at_call 29; refine (shapes_any _).mono ?_; rintro e w1 ⟨rfl, hs1, hb1⟩; have q2 : w1.cell? ⟨w.heap.size, 2, none⟩ = some (.slice s 0 cap) := (by rw [hb1.cell (by simp)]; simp [go_sem]))
  go_rounds 1
  go_ret
  exact ⟨rfl, hbox.trans (hb1.mono (by simp))⟩

set_option maxHeartbeats 1000000 in
theorem check_many (V F : Int) (s : Option Addr) (len cap : Nat) (w : World) (hV : 1 ≤ V) (hV' : V ≤ 8) (hF : 0 ≤ F) (hF' : F ≤ 3) (hl : 60 < len) :
    Calls Tryd.prog 14 #[.agg #[.int .i64 V, .int .i64 F, .slice s len cap]] w fun e w' => e = .returned (.int .i64 2) ∧ Below w.heap.size w w' := by
  have t3 : (60 : Int) < (len : Int) := by omega
  go_enter Tryd.func14, Tryd.ntmps14
  go_wp2
  go_ret
  exact ⟨rfl, by go_grown⟩

set_option maxHeartbeats 1000000 in
theorem check_range (V F : Int) (s : Option Addr) (len cap : Nat) (w : World) (h : ¬ (1 ≤ V ∧ V ≤ 8 ∧ 0 ≤ F ∧ F ≤ 3)) :
    Calls Tryd.prog 14 #[.agg #[.int .i64 V, .int .i64 F, .slice s len cap]] w fun e w' => e = .returned (.int .i64 3) ∧ Below w.heap.size w w' := by
  by_cases h1 : V < 1
  · clear h
    go_enter Tryd.func14, Tryd.ntmps14
    go_wp2
    go_ret
    exact ⟨rfl, by go_grown⟩
  by_cases h2 : 8 < V
  · clear h
    go_enter Tryd.func14, Tryd.ntmps14
    go_wp2
    go_ret
    exact ⟨rfl, by go_grown⟩
  by_cases h3 : F < 0
  · clear h
    go_enter Tryd.func14, Tryd.ntmps14
    go_wp2
    go_ret
    exact ⟨rfl, by go_grown⟩
  · have h4 : 3 < F := by omega
    clear h
    go_enter Tryd.func14, Tryd.ntmps14
    go_wp2
    go_ret
    exact ⟨rfl, by go_grown⟩

/-- The program's check of a program, whatever it is handed. -/
theorem codeCheck_any (V F : Int) (s : Option Addr) (cap : Nat) (c : List Ins) (w : World) (h : CodeAt w s c) :
    Calls Tryd.prog 14 #[.agg #[.int .i64 V, .int .i64 F, .slice s c.length cap]] w fun e w' => e = .returned (.int .i64 (ckProg V F c)) ∧ Below w.heap.size w w' := by
  unfold ckProg
  by_cases hr : 1 ≤ V ∧ V ≤ 8 ∧ 0 ≤ F ∧ F ≤ 3
  · obtain ⟨hV, hV', hF, hF'⟩ := hr
    have t1 : btw V 1 8 = true := btw_true hV hV'
    have t2 : btw F 0 3 = true := btw_true hF hF'
    by_cases hl : 60 < c.length
    · simpa [t1, t2, hl] using check_many V F s c.length cap w hV hV' hF hF' hl
    · rcases h with rfl | ⟨b, off, rfl, hb, hc⟩
      · simpa [t1, t2, ckAll] using check_nil V F s cap w hV hV' hF hF'
      · simpa [t1, t2, hl] using check_loop V F b off cap c w hV hV' hF hF' (by omega) hb hc
  · have : btw V 1 8 = false ∨ btw F 0 3 = false := by
      by_cases h1 : 1 ≤ V ∧ V ≤ 8
      · right; simp [btw]; omega
      · left; simp [btw]; omega
    rcases this with t | t
    · simpa [t] using check_range V F s c.length cap w hr
    · simpa [t] using check_range V F s c.length cap w hr
end Go.Proofs.YtmapdpcfanecdaaDoor
