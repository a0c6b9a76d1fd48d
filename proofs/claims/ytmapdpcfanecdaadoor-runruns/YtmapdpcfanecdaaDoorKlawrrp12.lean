/- Walks over package code: the check of an instruction, kind by kind. -/
import Derived.Test.YtmapdpcfanecdaaDoorKlawrrp09
import Derived.Test.YtmapdpcfanecdaaDoorKlawrrp10
import Derived.Test.YtmapdpcfanecdaaDoorKlawrrp11
import Derived.Test.YtmapdpcfanecdaaDoorKlawrrp08
import Derived.Deep.RegionHeld3
import Derived.Deep.RegionHeldLaw
import Derived.Test.YtmapdpcfanecdaaDoorKlawrrp06
namespace Go.Proofs.YtmapdpcfanecdaaDoor
set_option linter.unusedVariables false
set_option linter.unusedSimpArgs false
open Go.RowKit

set_option maxHeartbeats 4000000 in
set_option maxRecDepth 20000 in
theorem sameRun_any (r : St) (vs1 : Option Addr) (vc1 : Nat) (ts1 : Option Addr) (tc1 : Nat) (ls1 : Option Addr) (lc1 : Nat) (vs2 : Option Addr) (vc2 : Nat) (ts2 : Option Addr) (tc2 : Nat) (ls2 : Option Addr) (lc2 : Nat) (w : World) (hl : LenSt r) (h1 : RunAt w r vs1 ts1 ls1) (h2 : RunAt w r vs2 ts2 ls2) :
    Calls Tryd.prog 59 #[runV r vs1 vc1 ts1 tc1 ls1 lc1, runV r vs2 vc2 ts2 tc2 ls2 lc2] w fun e w' => e = .returned (.bool true) ∧ Below w.heap.size w w' := by
  obtain ⟨hl1, hl2, hl3, hl4⟩ := hl
  have hm : maxLen ≤ 9223372036854775807 := by decide
  have hb0 : Below w.heap.size w ((w.alloc (.cells #[.int .i64 r.at_, .slice vs1 r.vars.length vc1, .slice ts1 r.things.length tc1, .int .i64 r.taken, .slice ls1 r.lines.length lc1, .int .i64 r.fin] 46)).alloc (.cells #[.int .i64 r.at_, .slice vs2 r.vars.length vc2, .slice ts2 r.things.length tc2, .int .i64 r.taken, .slice ls2 r.lines.length lc2, .int .i64 r.fin] 46)) := by go_grown
  have hA : ∀ wx, Below ((w.alloc (.cells #[.int .i64 r.at_, .slice vs1 r.vars.length vc1, .slice ts1 r.things.length tc1, .int .i64 r.taken, .slice ls1 r.lines.length lc1, .int .i64 r.fin] 46)).alloc (.cells #[.int .i64 r.at_, .slice vs2 r.vars.length vc2, .slice ts2 r.things.length tc2, .int .i64 r.taken, .slice ls2 r.lines.length lc2, .int .i64 r.fin] 46)).heap.size ((w.alloc (.cells #[.int .i64 r.at_, .slice vs1 r.vars.length vc1, .slice ts1 r.things.length tc1, .int .i64 r.taken, .slice ls1 r.lines.length lc1, .int .i64 r.fin] 46)).alloc (.cells #[.int .i64 r.at_, .slice vs2 r.vars.length vc2, .slice ts2 r.things.length tc2, .int .i64 r.taken, .slice ls2 r.lines.length lc2, .int .i64 r.fin] 46)) wx → (wx.cell? ⟨w.heap.size, 2, none⟩ = some (.slice ts1 r.things.length tc1) ∧ wx.cell? ⟨w.heap.size + 1, 2, none⟩ = some (.slice ts2 r.things.length tc2)) ∧ (wx.cell? ⟨w.heap.size, 4, none⟩ = some (.slice ls1 r.lines.length lc1) ∧ wx.cell? ⟨w.heap.size + 1, 4, none⟩ = some (.slice ls2 r.lines.length lc2)) := by
    intro wx hx
    rw [hx.cell (by simp; omega), hx.cell (by simp), hx.cell (by simp; omega), hx.cell (by simp)]
    refine ⟨⟨?_, ?_⟩, ?_, ?_⟩ <;> simp [go_sem]
  have hR1 := h1.below hb0 (Nat.le_refl _)
  have hR2 := h2.below hb0 (Nat.le_refl _)
  clear h1 h2
  unfold runV
  go_enter Tryd.func59, Tryd.ntmps59
  go_wp2_with (go_at_call 86; fail)
  have hS := sameValues_any vs1 vs2 vc1 vc2 r.vars _ hl1 hR1.1 hR2.1
  refine hS.mono ?_
  rintro e w1 ⟨rfl, hb1⟩
  clear hS
  have T1 := hR1.2.1.below hb1 (Nat.le_refl _)
  have T2 := hR2.2.1.below hb1 (Nat.le_refl _)
  have L1 := hR1.2.2.below hb1 (Nat.le_refl _)
  have L2 := hR2.2.2.below hb1 (Nat.le_refl _)
  have H1 := hb0.trans (hb1.mono hb0.size)
  have z1 : w.heap.size + 1 < w1.heap.size := by have := hb1.size; simp at this; omega
  obtain ⟨⟨a2, b2⟩, a4, b4⟩ := hA w1 hb1
  clear hA hR1 hR2 hb1 hb0
  go_wp2
  go_loopw [5] (fun i wr => ∃ k : Nat, k ≤ r.things.length ∧ i = .int .i64 k ∧ Below w1.heap.size w1 wr) (fun i _ => r.things.length - (intOf i).toNat)
  case atStart => exact ⟨0, Nat.zero_le _, rfl, Below.refl _ _⟩
  case round =>
    obtain ⟨k, hk, rfl, hbr⟩ := hrel
    have a2r : wr.cell? ⟨w.heap.size, 2, none⟩ = some (.slice ts1 r.things.length tc1) := by rw [hbr.cell (by simp; omega)]; exact a2
    have b2r : wr.cell? ⟨w.heap.size + 1, 2, none⟩ = some (.slice ts2 r.things.length tc2) := by rw [hbr.cell (by simpa using z1)]; exact b2
    by_cases hlt : k < r.things.length
    · have n0 : (0 : Int) ≤ (k : Int) := by omega
      have n1 : (k : Int) < (r.things.length : Int) := by omega
      rcases T1 with T1 | ⟨p1, q1, rfl, hp1, hT1⟩
      · rw [T1] at hlt; simp at hlt
      rcases T2 with T2 | ⟨p2, q2, rfl, hp2, hT2⟩
      · rw [T2] at hlt; simp at hlt
      obtain ⟨s1, f1, fc1, g1, V1⟩ := hT1 k hlt
      obtain ⟨s2, f2, fc2, g2, V2⟩ := hT2 k hlt
      have hfl := hl4 _ (List.getElem_mem hlt)
      generalize r.things[k].site = st at *
      generalize r.things[k].fs = fl at *
      have KS : ∀ wx, Below w1.heap.size w1 wx → (fun wx => wx.cell? ⟨w.heap.size, 2, none⟩ = some (.slice (some ⟨p1, q1, none⟩) r.things.length tc1) ∧ wx.cell? ⟨w.heap.size + 1, 2, none⟩ = some (.slice (some ⟨p2, q2, none⟩) r.things.length tc2) ∧ wx.cell? ⟨p1, q1 + k * 2, none⟩ = some (.int .i64 st) ∧ wx.cell? ⟨p2, q2 + k * 2, none⟩ = some (.int .i64 st) ∧ wx.cell? ⟨p1, q1 + k * 2 + 1, none⟩ = some (.slice f1 fl.length fc1) ∧ wx.cell? ⟨p2, q2 + k * 2 + 1, none⟩ = some (.slice f2 fl.length fc2)) wx := fun wx hx => ⟨by rw [hx.cell (by simp; omega)]; exact a2, by rw [hx.cell (by simpa using z1)]; exact b2, by rw [hx.cell (by simpa using hp1)]; exact s1, by rw [hx.cell (by simpa using hp2)]; exact s2, by rw [hx.cell (by simpa using hp1)]; exact g1, by rw [hx.cell (by simpa using hp2)]; exact g2⟩
      clear hT1 hT2 s1 s2 g1 g2
      go_wp2
      refine wp_region_held_drew (S := fun wx => wx.cell? ⟨w.heap.size, 2, none⟩ = some (.slice (some ⟨p1, q1, none⟩) r.things.length tc1) ∧ wx.cell? ⟨w.heap.size + 1, 2, none⟩ = some (.slice (some ⟨p2, q2, none⟩) r.things.length tc2) ∧ wx.cell? ⟨p1, q1 + k * 2, none⟩ = some (.int .i64 st) ∧ wx.cell? ⟨p2, q2 + k * 2, none⟩ = some (.int .i64 st) ∧ wx.cell? ⟨p1, q1 + k * 2 + 1, none⟩ = some (.slice f1 fl.length fc1) ∧ wx.cell? ⟨p2, q2 + k * 2 + 1, none⟩ = some (.slice f2 fl.length fc2)) (by kernel_rfl) (KS _ hbr.drew) (fun hHeld => ?_)
      have hbd := hbr.drew
      clear hbr a2r b2r
      generalize wr.drew = wd at *
      refine tkH 0 ?_ ?_ ?_
      rotate_left
      · exact rn
      (try simp only [Act.put, List.getElem_toArray, List.getElem_cons_zero, List.getElem_cons_succ, List.setIfInBounds_toArray, List.set_cons_zero, List.set_cons_succ])
      refine tkH 1 ?_ ?_ ?_
      rotate_left
      · exact rn
      (try simp only [Act.put, List.getElem_toArray, List.getElem_cons_zero, List.getElem_cons_succ, List.setIfInBounds_toArray, List.set_cons_zero, List.set_cons_succ])
      refine tkH 2 ?_ ?_ ?_
      rotate_left
      · exact rn
      (try simp only [Act.put, List.getElem_toArray, List.getElem_cons_zero, List.getElem_cons_succ, List.setIfInBounds_toArray, List.set_cons_zero, List.set_cons_succ])
      refine tkH 3 ?_ ?_ ?_
      rotate_left
      · exact rn
      (try simp only [Act.put, List.getElem_toArray, List.getElem_cons_zero, List.getElem_cons_succ, List.setIfInBounds_toArray, List.set_cons_zero, List.set_cons_succ])
      refine tkH 4 ?_ ?_ ?_
      rotate_left
      · exact rn
      (try simp only [Act.put, List.getElem_toArray, List.getElem_cons_zero, List.getElem_cons_succ, List.setIfInBounds_toArray, List.set_cons_zero, List.set_cons_succ])
      refine tkH 5 ?_ ?_ ?_
      rotate_left
      · exact rn
      (try simp only [Act.put, List.getElem_toArray, List.getElem_cons_zero, List.getElem_cons_succ, List.setIfInBounds_toArray, List.set_cons_zero, List.set_cons_succ])
      refine tkH 6 ?_ ?_ ?_
      rotate_left
      · exact rn
      (try simp only [Act.put, List.getElem_toArray, List.getElem_cons_zero, List.getElem_cons_succ, List.setIfInBounds_toArray, List.set_cons_zero, List.set_cons_succ])
      refine tkH 7 ?_ ?_ ?_
      rotate_left
      · exact rn
      (try simp only [Act.put, List.getElem_toArray, List.getElem_cons_zero, List.getElem_cons_succ, List.setIfInBounds_toArray, List.set_cons_zero, List.set_cons_succ])
      refine tkH 8 ?_ ?_ ?_
      rotate_left
      · exact rn
      (try simp only [Act.put, List.getElem_toArray, List.getElem_cons_zero, List.getElem_cons_succ, List.setIfInBounds_toArray, List.set_cons_zero, List.set_cons_succ])
      refine tkH 9 ?_ ?_ ?_
      rotate_left
      · exact rn
      (try simp only [Act.put, List.getElem_toArray, List.getElem_cons_zero, List.getElem_cons_succ, List.setIfInBounds_toArray, List.set_cons_zero, List.set_cons_succ])
      refine tkH 10 ?_ ?_ ?_
      rotate_left
      · exact rn
      (try simp only [Act.put, List.getElem_toArray, List.getElem_cons_zero, List.getElem_cons_succ, List.setIfInBounds_toArray, List.set_cons_zero, List.set_cons_succ])
      refine tkH 11 ?_ ?_ ?_
      rotate_left
      · exact rn
      (try simp only [Act.put, List.getElem_toArray, List.getElem_cons_zero, List.getElem_cons_succ, List.setIfInBounds_toArray, List.set_cons_zero, List.set_cons_succ])
      refine tkH 12 ?_ ?_ ?_
      rotate_left
      · exact rn
      (try simp only [Act.put, List.getElem_toArray, List.getElem_cons_zero, List.getElem_cons_succ, List.setIfInBounds_toArray, List.set_cons_zero, List.set_cons_succ])
      refine tkH 13 ?_ ?_ ?_
      rotate_left
      · exact rn
      (try simp only [Act.put, List.getElem_toArray, List.getElem_cons_zero, List.getElem_cons_succ, List.setIfInBounds_toArray, List.set_cons_zero, List.set_cons_succ])
      refine tkH 14 ?_ ?_ ?_
      rotate_left
      · exact rn
      (try simp only [Act.put, List.getElem_toArray, List.getElem_cons_zero, List.getElem_cons_succ, List.setIfInBounds_toArray, List.set_cons_zero, List.set_cons_succ])
      refine tkH 15 ?_ ?_ ?_
      rotate_left
      · exact rn
      (try simp only [Act.put, List.getElem_toArray, List.getElem_cons_zero, List.getElem_cons_succ, List.setIfInBounds_toArray, List.set_cons_zero, List.set_cons_succ])
      refine tkH 16 ?_ ?_ ?_
      rotate_left
      · exact rn
      (try simp only [Act.put, List.getElem_toArray, List.getElem_cons_zero, List.getElem_cons_succ, List.setIfInBounds_toArray, List.set_cons_zero, List.set_cons_succ])
      refine tkH 17 ?_ ?_ ?_
      rotate_left
      · exact rn
      (try simp only [Act.put, List.getElem_toArray, List.getElem_cons_zero, List.getElem_cons_succ, List.setIfInBounds_toArray, List.set_cons_zero, List.set_cons_succ])
      refine tkH 18 ?_ ?_ ?_
      rotate_left
      · exact rn
      (try simp only [Act.put, List.getElem_toArray, List.getElem_cons_zero, List.getElem_cons_succ, List.setIfInBounds_toArray, List.set_cons_zero, List.set_cons_succ])
      refine tkH 19 ?_ ?_ ?_
      rotate_left
      · exact rn
      (try simp only [Act.put, List.getElem_toArray, List.getElem_cons_zero, List.getElem_cons_succ, List.setIfInBounds_toArray, List.set_cons_zero, List.set_cons_succ])
      refine tkH 20 ?_ ?_ ?_
      rotate_left
      · exact rn
      (try simp only [Act.put, List.getElem_toArray, List.getElem_cons_zero, List.getElem_cons_succ, List.setIfInBounds_toArray, List.set_cons_zero, List.set_cons_succ])
      refine tkH 21 ?_ ?_ ?_
      rotate_left
      · exact rn
      (try simp only [Act.put, List.getElem_toArray, List.getElem_cons_zero, List.getElem_cons_succ, List.setIfInBounds_toArray, List.set_cons_zero, List.set_cons_succ])
      refine tkH 22 ?_ ?_ ?_
      rotate_left
      · exact rn
      (try simp only [Act.put, List.getElem_toArray, List.getElem_cons_zero, List.getElem_cons_succ, List.setIfInBounds_toArray, List.set_cons_zero, List.set_cons_succ])
      refine tkH 23 ?_ ?_ ?_
      rotate_left
      · exact rn
      (try simp only [Act.put, List.getElem_toArray, List.getElem_cons_zero, List.getElem_cons_succ, List.setIfInBounds_toArray, List.set_cons_zero, List.set_cons_succ])
      refine tkH 24 ?_ ?_ ?_
      rotate_left
      · exact rn
      (try simp only [Act.put, List.getElem_toArray, List.getElem_cons_zero, List.getElem_cons_succ, List.setIfInBounds_toArray, List.set_cons_zero, List.set_cons_succ])
      refine tkH 25 ?_ ?_ ?_
      rotate_left
      · exact rn
      (try simp only [Act.put, List.getElem_toArray, List.getElem_cons_zero, List.getElem_cons_succ, List.setIfInBounds_toArray, List.set_cons_zero, List.set_cons_succ])
      refine wpAnyH_ready (rs := [26]) (by kernel_rfl) (by simp) ?_
      refine AllReadyH.cons rfl (fun K hK => ?_) AllReadyH.nil
      go_simp
      refine (sameValues_any f1 f2 fc1 fc2 fl _ hfl (V1.below hbd (Nat.le_refl _)) (V2.below hbd (Nat.le_refl _))).mono ?_
      rintro e we ⟨rfl, hbe⟩
      have hbf := hbd.trans (hbe.mono hbd.size)
      refine hK.out _ _ (KS _ hbf) (fun hHeld2 => ?_)
      clear hK K hbe hbd
      (try simp only [Act.put, List.getElem_toArray, List.getElem_cons_zero, List.getElem_cons_succ, List.setIfInBounds_toArray, List.set_cons_zero, List.set_cons_succ])
      refine tkH 27 ?_ ?_ ?_
      rotate_left
      · exact rn
      (try simp only [Act.put, List.getElem_toArray, List.getElem_cons_zero, List.getElem_cons_succ, List.setIfInBounds_toArray, List.set_cons_zero, List.set_cons_succ])
      refine tkH 28 ?_ ?_ ?_
      rotate_left
      · exact rn
      (try simp only [Act.put, List.getElem_toArray, List.getElem_cons_zero, List.getElem_cons_succ, List.setIfInBounds_toArray, List.set_cons_zero, List.set_cons_succ])
      refine wpAnyH_done (by kernel_rfl) ?_ _
      go_wp2
      go_roundw
      case rel => exact ⟨k + 1, by omega, by go_num, hbf⟩
      case measure => simp [intOf]; omega
    · have H2 := H1.trans (hbr.mono H1.size)
      have L1r := L1.below hbr (Nat.le_refl _)
      have L2r := L2.below hbr (Nat.le_refl _)
      have a4r : wr.cell? ⟨w.heap.size, 4, none⟩ = some (.slice ls1 r.lines.length lc1) := by rw [hbr.cell (by simp; omega)]; exact a4
      have b4r : wr.cell? ⟨w.heap.size + 1, 4, none⟩ = some (.slice ls2 r.lines.length lc2) := by rw [hbr.cell (by simpa using z1)]; exact b4
      have z2 : w.heap.size + 1 < wr.heap.size := Nat.lt_of_lt_of_le z1 hbr.size
      have m0 : ¬ (k : Int) < (r.things.length : Int) := by omega
      clear L1 L2 a4 b4 T1 T2 a2 b2 z1 H1
      generalize wr = wp at *
      go_wp2
      go_loopw [6] (fun i wr => ∃ k : Nat, k ≤ r.lines.length ∧ i = .int .i64 k ∧ Below wp.heap.size wp wr) (fun i _ => r.lines.length - (intOf i).toNat)
      case atStart => exact ⟨0, Nat.zero_le _, rfl, Below.refl _ _⟩
      case round =>
        clear hk m0
        obtain ⟨k, hk, rfl, hbq⟩ := hrel
        have a4q : wr.cell? ⟨w.heap.size, 4, none⟩ = some (.slice ls1 r.lines.length lc1) := by rw [hbq.cell (by simp; omega)]; exact a4r
        have b4q : wr.cell? ⟨w.heap.size + 1, 4, none⟩ = some (.slice ls2 r.lines.length lc2) := by rw [hbq.cell (by simpa using z2)]; exact b4r
        by_cases hlt2 : k < r.lines.length
        · have n0 : (0 : Int) ≤ (k : Int) := by omega
          have n1 : (k : Int) < (r.lines.length : Int) := by omega
          rcases L1r with T1 | ⟨p1, q1, rfl, hp1, hT1⟩
          · rw [T1] at hlt2; simp at hlt2
          rcases L2r with T2 | ⟨p2, q2, rfl, hp2, hT2⟩
          · rw [T2] at hlt2; simp at hlt2
          have s1 := hT1 k hlt2
          have s2 := hT2 k hlt2
          generalize r.lines[k] = y at *
          have s1q : wr.cell? ⟨p1, q1 + k, none⟩ = some (.string y) := by rw [hbq.cell (by simpa using hp1)]; exact s1
          have s2q : wr.cell? ⟨p2, q2 + k, none⟩ = some (.string y) := by rw [hbq.cell (by simpa using hp2)]; exact s2
          clear hT1 hT2 s1 s2
          go_wp2
          go_quiet (fail)
          go_wp2
          go_roundw
          case rel => exact ⟨k + 1, by omega, by go_num, below_drewN hbq _⟩
          case measure => simp [intOf]; omega
        · have m0 : ¬ (k : Int) < (r.lines.length : Int) := by omega
          go_wp2
          go_ret
          exact ⟨rfl, H2.trans (hbq.mono H2.size)⟩
end Go.Proofs.YtmapdpcfanecdaaDoor

namespace Go.Proofs.YtmapdpcfanecdaaDoor
set_option linter.unusedVariables false
set_option linter.unusedSimpArgs false
open Go.RowKit

set_option maxHeartbeats 2000000 in
set_option maxRecDepth 20000 in
theorem checkInstr_1 (V F : Int) (s : Option Addr) (len cap N : Nat) (tto a b n g : Int) (w : World) (hV : 1 ≤ V) (hV' : V ≤ 8) (hF : 0 ≤ F) (hF' : F ≤ 3) (hL : len ≤ 60) (hs : ShpAt N shps w) :
    Calls Tryd.prog 42 #[.agg #[.int .i64 V, .int .i64 F, .slice s len cap], .map (some N), .agg #[.int .i64 1, .int .i64 tto, .int .i64 a, .int .i64 b, .int .i64 n, .int .i64 g]] w fun e w' => e = .returned (.int .i64 (ckOne V F len ⟨1, tto, a, b, n, g⟩)) ∧ Below w.heap.size w w' := by
  have hb0 : Below w.heap.size w ((w.alloc (.cells #[.int .i64 V, .int .i64 F, .slice s len cap] 24)).alloc (.cells #[.int .i64 1, .int .i64 tto, .int .i64 a, .int .i64 b, .int .i64 n, .int .i64 g] 71)) := by go_grown
  have hl : (Instr.lookup 60 (.map (some N)) (.int .i64 1) true).run Tryd.prog _ = .ok (.tuple #[.agg #[.string (wordB 1), .slice (some ⟨N + 1, 0, none⟩) 2 2], .bool true]) _ := look_at (hs.below hb0 (Nat.le_refl _)) 1 0 _ rfl
  have hz : N + 1 < w.heap.size := (part_cell hs 0 0 (by decide) (by decide) (.int .i64 0) rfl).2
  have p0 : w.cell? ⟨N + 1, 0, none⟩ = some (.int .i64 0) := (part_cell hs 0 0 (by decide) (by decide) (.int .i64 0) rfl).1
  have p1 : w.cell? ⟨N + 1, 1, none⟩ = some (.int .i64 4) := (part_cell hs 0 1 (by decide) (by decide) (.int .i64 4) rfl).1
  have l0 : lo 0 = 0 := rfl
  have m0 : hi V F len 0 = V - 1 := rfl
  have e0 : er 0 = 5 := rfl
  have l4 : lo 4 = -2147483648 := rfl
  have m4 : hi V F len 4 = 2147483647 := rfl
  have e4 : er 4 = 3 := rfl
  have z1 : N + 1 < w.heap.size + 1 := by omega
  have z2 : N + 1 < w.heap.size + 1 + 1 := by omega
  have z3 : N + 1 < w.heap.size + 1 + 1 + 1 := by omega
  have z4 : N + 1 < w.heap.size + 1 + 1 + 1 + 1 := by omega
  have x3 : ¬ N + 1 = w.heap.size + 1 + 1 + 1 := by omega
  clear hb0 hs
  go_enter Tryd.func42, Tryd.ntmps42
  go_wp2
  refine wp_loop_rounds 3 ?_
  rw [rounds_succ]
  go_wp2_with (first | (go_at_call 67; refine (bounds_any V F _ _ _ _ _ hV hV' hF hF' hL ?hq).mono ?_; (case hq => decide); rintro e w1 ⟨rfl, hb1⟩; obtain ⟨hc1, hf1⟩ := bcell hb1; have hz1 : w.heap.size + 3 < w1.heap.size := (by have := hb1.size; simp at this; omega); have hz2 : w.heap.size < w1.heap.size := (by omega); have hz3 : w.heap.size + 1 < w1.heap.size := (by omega); have hz4 : w.heap.size + 1 + 1 < w1.heap.size := (by omega); have hz5 : w.heap.size + 1 + 1 + 1 < w1.heap.size := (by omega); have hz6 : N + 1 < w1.heap.size := (by omega); have HB : Below w.heap.size w w1 := Below.trans (by go_grown) (hb1.mono (by go_size))) | go_in)
  any_goals (rw [rounds_succ]; go_wp2_with (first | (go_at_call 67; refine (bounds_any V F _ _ _ _ _ hV hV' hF hF' hL ?hq).mono ?_; (case hq => decide); rintro e w1 ⟨rfl, hb1⟩; obtain ⟨hc1, hf1⟩ := bcell hb1; have hz1 : w.heap.size + 3 < w1.heap.size := (by have := hb1.size; simp at this; omega); have hz2 : w.heap.size < w1.heap.size := (by omega); have hz3 : w.heap.size + 1 < w1.heap.size := (by omega); have hz4 : w.heap.size + 1 + 1 < w1.heap.size := (by omega); have hz5 : w.heap.size + 1 + 1 + 1 < w1.heap.size := (by omega); have hz6 : N + 1 < w1.heap.size := (by omega); have HB : Below w.heap.size w w1 := Below.trans (by go_grown) (hb1.mono (by go_size))) | go_in))
  any_goals (rw [rounds_succ]; go_wp2_with (first | (go_at_call 67; refine (bounds_any V F _ _ _ _ _ hV hV' hF hF' hL ?hq).mono ?_; (case hq => decide); rintro e w1 ⟨rfl, hb1⟩; obtain ⟨hc1, hf1⟩ := bcell hb1; have hz1 : w.heap.size + 3 < w1.heap.size := (by have := hb1.size; simp at this; omega); have hz2 : w.heap.size < w1.heap.size := (by omega); have hz3 : w.heap.size + 1 < w1.heap.size := (by omega); have hz4 : w.heap.size + 1 + 1 < w1.heap.size := (by omega); have hz5 : w.heap.size + 1 + 1 + 1 < w1.heap.size := (by omega); have hz6 : N + 1 < w1.heap.size := (by omega); have HB : Below w.heap.size w w1 := Below.trans (by go_grown) (hb1.mono (by go_size))) | go_in))
  all_goals go_ret
  all_goals refine ⟨ret_int ?_, by go_grown⟩
  all_goals clear hl p0 p1
  all_goals simp [ckOne, nTo, nA, nB, nN, nG, btw]
  all_goals omega

set_option maxHeartbeats 2000000 in
set_option maxRecDepth 20000 in
theorem checkInstr_2 (V F : Int) (s : Option Addr) (len cap N : Nat) (tto a b n g : Int) (w : World) (hV : 1 ≤ V) (hV' : V ≤ 8) (hF : 0 ≤ F) (hF' : F ≤ 3) (hL : len ≤ 60) (hs : ShpAt N shps w) :
    Calls Tryd.prog 42 #[.agg #[.int .i64 V, .int .i64 F, .slice s len cap], .map (some N), .agg #[.int .i64 2, .int .i64 tto, .int .i64 a, .int .i64 b, .int .i64 n, .int .i64 g]] w fun e w' => e = .returned (.int .i64 (ckOne V F len ⟨2, tto, a, b, n, g⟩)) ∧ Below w.heap.size w w' := by
  have hb0 : Below w.heap.size w ((w.alloc (.cells #[.int .i64 V, .int .i64 F, .slice s len cap] 24)).alloc (.cells #[.int .i64 2, .int .i64 tto, .int .i64 a, .int .i64 b, .int .i64 n, .int .i64 g] 71)) := by go_grown
  have hl : (Instr.lookup 60 (.map (some N)) (.int .i64 2) true).run Tryd.prog _ = .ok (.tuple #[.agg #[.string (wordB 2), .slice (some ⟨N + 2, 0, none⟩) 2 2], .bool true]) _ := look_at (hs.below hb0 (Nat.le_refl _)) 2 1 _ rfl
  have hz : N + 2 < w.heap.size := (part_cell hs 1 0 (by decide) (by decide) (.int .i64 0) rfl).2
  have p0 : w.cell? ⟨N + 2, 0, none⟩ = some (.int .i64 0) := (part_cell hs 1 0 (by decide) (by decide) (.int .i64 0) rfl).1
  have p1 : w.cell? ⟨N + 2, 1, none⟩ = some (.int .i64 5) := (part_cell hs 1 1 (by decide) (by decide) (.int .i64 5) rfl).1
  have l0 : lo 0 = 0 := rfl
  have m0 : hi V F len 0 = V - 1 := rfl
  have e0 : er 0 = 5 := rfl
  have l5 : lo 5 = 0 := rfl
  have m5 : hi V F len 5 = 1 := rfl
  have e5 : er 5 = 3 := rfl
  have z1 : N + 2 < w.heap.size + 1 := by omega
  have z2 : N + 2 < w.heap.size + 1 + 1 := by omega
  have z3 : N + 2 < w.heap.size + 1 + 1 + 1 := by omega
  have z4 : N + 2 < w.heap.size + 1 + 1 + 1 + 1 := by omega
  have x3 : ¬ N + 2 = w.heap.size + 1 + 1 + 1 := by omega
  clear hb0 hs
  go_enter Tryd.func42, Tryd.ntmps42
  go_wp2
  refine wp_loop_rounds 3 ?_
  rw [rounds_succ]
  go_wp2_with (first | (go_at_call 67; refine (bounds_any V F _ _ _ _ _ hV hV' hF hF' hL ?hq).mono ?_; (case hq => decide); rintro e w1 ⟨rfl, hb1⟩; obtain ⟨hc1, hf1⟩ := bcell hb1; have hz1 : w.heap.size + 3 < w1.heap.size := (by have := hb1.size; simp at this; omega); have hz2 : w.heap.size < w1.heap.size := (by omega); have hz3 : w.heap.size + 1 < w1.heap.size := (by omega); have hz4 : w.heap.size + 1 + 1 < w1.heap.size := (by omega); have hz5 : w.heap.size + 1 + 1 + 1 < w1.heap.size := (by omega); have hz6 : N + 2 < w1.heap.size := (by omega); have HB : Below w.heap.size w w1 := Below.trans (by go_grown) (hb1.mono (by go_size))) | go_in)
  any_goals (rw [rounds_succ]; go_wp2_with (first | (go_at_call 67; refine (bounds_any V F _ _ _ _ _ hV hV' hF hF' hL ?hq).mono ?_; (case hq => decide); rintro e w1 ⟨rfl, hb1⟩; obtain ⟨hc1, hf1⟩ := bcell hb1; have hz1 : w.heap.size + 3 < w1.heap.size := (by have := hb1.size; simp at this; omega); have hz2 : w.heap.size < w1.heap.size := (by omega); have hz3 : w.heap.size + 1 < w1.heap.size := (by omega); have hz4 : w.heap.size + 1 + 1 < w1.heap.size := (by omega); have hz5 : w.heap.size + 1 + 1 + 1 < w1.heap.size := (by omega); have hz6 : N + 2 < w1.heap.size := (by omega); have HB : Below w.heap.size w w1 := Below.trans (by go_grown) (hb1.mono (by go_size))) | go_in))
  any_goals (rw [rounds_succ]; go_wp2_with (first | (go_at_call 67; refine (bounds_any V F _ _ _ _ _ hV hV' hF hF' hL ?hq).mono ?_; (case hq => decide); rintro e w1 ⟨rfl, hb1⟩; obtain ⟨hc1, hf1⟩ := bcell hb1; have hz1 : w.heap.size + 3 < w1.heap.size := (by have := hb1.size; simp at this; omega); have hz2 : w.heap.size < w1.heap.size := (by omega); have hz3 : w.heap.size + 1 < w1.heap.size := (by omega); have hz4 : w.heap.size + 1 + 1 < w1.heap.size := (by omega); have hz5 : w.heap.size + 1 + 1 + 1 < w1.heap.size := (by omega); have hz6 : N + 2 < w1.heap.size := (by omega); have HB : Below w.heap.size w w1 := Below.trans (by go_grown) (hb1.mono (by go_size))) | go_in))
  all_goals go_ret
  all_goals refine ⟨ret_int ?_, by go_grown⟩
  all_goals clear hl p0 p1
  all_goals simp [ckOne, nTo, nA, nB, nN, nG, btw]
  all_goals omega

set_option maxHeartbeats 2000000 in
set_option maxRecDepth 20000 in
theorem checkInstr_3 (V F : Int) (s : Option Addr) (len cap N : Nat) (tto a b n g : Int) (w : World) (hV : 1 ≤ V) (hV' : V ≤ 8) (hF : 0 ≤ F) (hF' : F ≤ 3) (hL : len ≤ 60) (hs : ShpAt N shps w) :
    Calls Tryd.prog 42 #[.agg #[.int .i64 V, .int .i64 F, .slice s len cap], .map (some N), .agg #[.int .i64 3, .int .i64 tto, .int .i64 a, .int .i64 b, .int .i64 n, .int .i64 g]] w fun e w' => e = .returned (.int .i64 (ckOne V F len ⟨3, tto, a, b, n, g⟩)) ∧ Below w.heap.size w w' := by
  have hb0 : Below w.heap.size w ((w.alloc (.cells #[.int .i64 V, .int .i64 F, .slice s len cap] 24)).alloc (.cells #[.int .i64 3, .int .i64 tto, .int .i64 a, .int .i64 b, .int .i64 n, .int .i64 g] 71)) := by go_grown
  have hl : (Instr.lookup 60 (.map (some N)) (.int .i64 3) true).run Tryd.prog _ = .ok (.tuple #[.agg #[.string (wordB 3), .slice (some ⟨N + 3, 0, none⟩) 1 1], .bool true]) _ := look_at (hs.below hb0 (Nat.le_refl _)) 3 2 _ rfl
  have hz : N + 3 < w.heap.size := (part_cell hs 2 0 (by decide) (by decide) (.int .i64 0) rfl).2
  have p0 : w.cell? ⟨N + 3, 0, none⟩ = some (.int .i64 0) := (part_cell hs 2 0 (by decide) (by decide) (.int .i64 0) rfl).1
  have l0 : lo 0 = 0 := rfl
  have m0 : hi V F len 0 = V - 1 := rfl
  have e0 : er 0 = 5 := rfl
  have z1 : N + 3 < w.heap.size + 1 := by omega
  have z2 : N + 3 < w.heap.size + 1 + 1 := by omega
  have z3 : N + 3 < w.heap.size + 1 + 1 + 1 := by omega
  have z4 : N + 3 < w.heap.size + 1 + 1 + 1 + 1 := by omega
  have x3 : ¬ N + 3 = w.heap.size + 1 + 1 + 1 := by omega
  clear hb0 hs
  go_enter Tryd.func42, Tryd.ntmps42
  go_wp2
  refine wp_loop_rounds 2 ?_
  rw [rounds_succ]
  go_wp2_with (first | (go_at_call 67; refine (bounds_any V F _ _ _ _ _ hV hV' hF hF' hL ?hq).mono ?_; (case hq => decide); rintro e w1 ⟨rfl, hb1⟩; obtain ⟨hc1, hf1⟩ := bcell hb1; have hz1 : w.heap.size + 3 < w1.heap.size := (by have := hb1.size; simp at this; omega); have hz2 : w.heap.size < w1.heap.size := (by omega); have hz3 : w.heap.size + 1 < w1.heap.size := (by omega); have hz4 : w.heap.size + 1 + 1 < w1.heap.size := (by omega); have hz5 : w.heap.size + 1 + 1 + 1 < w1.heap.size := (by omega); have hz6 : N + 3 < w1.heap.size := (by omega); have HB : Below w.heap.size w w1 := Below.trans (by go_grown) (hb1.mono (by go_size))) | go_in)
  any_goals (rw [rounds_succ]; go_wp2_with (first | (go_at_call 67; refine (bounds_any V F _ _ _ _ _ hV hV' hF hF' hL ?hq).mono ?_; (case hq => decide); rintro e w1 ⟨rfl, hb1⟩; obtain ⟨hc1, hf1⟩ := bcell hb1; have hz1 : w.heap.size + 3 < w1.heap.size := (by have := hb1.size; simp at this; omega); have hz2 : w.heap.size < w1.heap.size := (by omega); have hz3 : w.heap.size + 1 < w1.heap.size := (by omega); have hz4 : w.heap.size + 1 + 1 < w1.heap.size := (by omega); have hz5 : w.heap.size + 1 + 1 + 1 < w1.heap.size := (by omega); have hz6 : N + 3 < w1.heap.size := (by omega); have HB : Below w.heap.size w w1 := Below.trans (by go_grown) (hb1.mono (by go_size))) | go_in))
  all_goals go_ret
  all_goals refine ⟨ret_int ?_, by go_grown⟩
  all_goals clear hl p0
  all_goals simp [ckOne, nTo, nA, nB, nN, nG, btw]
  all_goals omega

set_option maxHeartbeats 2000000 in
set_option maxRecDepth 20000 in
theorem checkInstr_4 (V F : Int) (s : Option Addr) (len cap N : Nat) (tto a b n g : Int) (w : World) (hV : 1 ≤ V) (hV' : V ≤ 8) (hF : 0 ≤ F) (hF' : F ≤ 3) (hL : len ≤ 60) (hs : ShpAt N shps w) :
    Calls Tryd.prog 42 #[.agg #[.int .i64 V, .int .i64 F, .slice s len cap], .map (some N), .agg #[.int .i64 4, .int .i64 tto, .int .i64 a, .int .i64 b, .int .i64 n, .int .i64 g]] w fun e w' => e = .returned (.int .i64 (ckOne V F len ⟨4, tto, a, b, n, g⟩)) ∧ Below w.heap.size w w' := by
  have hb0 : Below w.heap.size w ((w.alloc (.cells #[.int .i64 V, .int .i64 F, .slice s len cap] 24)).alloc (.cells #[.int .i64 4, .int .i64 tto, .int .i64 a, .int .i64 b, .int .i64 n, .int .i64 g] 71)) := by go_grown
  have hl : (Instr.lookup 60 (.map (some N)) (.int .i64 4) true).run Tryd.prog _ = .ok (.tuple #[.agg #[.string (wordB 4), .slice (some ⟨N + 4, 0, none⟩) 2 2], .bool true]) _ := look_at (hs.below hb0 (Nat.le_refl _)) 4 3 _ rfl
  have hz : N + 4 < w.heap.size := (part_cell hs 3 0 (by decide) (by decide) (.int .i64 0) rfl).2
  have p0 : w.cell? ⟨N + 4, 0, none⟩ = some (.int .i64 0) := (part_cell hs 3 0 (by decide) (by decide) (.int .i64 0) rfl).1
  have p1 : w.cell? ⟨N + 4, 1, none⟩ = some (.int .i64 1) := (part_cell hs 3 1 (by decide) (by decide) (.int .i64 1) rfl).1
  have l0 : lo 0 = 0 := rfl
  have m0 : hi V F len 0 = V - 1 := rfl
  have e0 : er 0 = 5 := rfl
  have l1 : lo 1 = 0 := rfl
  have m1 : hi V F len 1 = V - 1 := rfl
  have e1 : er 1 = 5 := rfl
  have z1 : N + 4 < w.heap.size + 1 := by omega
  have z2 : N + 4 < w.heap.size + 1 + 1 := by omega
  have z3 : N + 4 < w.heap.size + 1 + 1 + 1 := by omega
  have z4 : N + 4 < w.heap.size + 1 + 1 + 1 + 1 := by omega
  have x3 : ¬ N + 4 = w.heap.size + 1 + 1 + 1 := by omega
  clear hb0 hs
  go_enter Tryd.func42, Tryd.ntmps42
  go_wp2
  refine wp_loop_rounds 3 ?_
  rw [rounds_succ]
  go_wp2_with (first | (go_at_call 67; refine (bounds_any V F _ _ _ _ _ hV hV' hF hF' hL ?hq).mono ?_; (case hq => decide); rintro e w1 ⟨rfl, hb1⟩; obtain ⟨hc1, hf1⟩ := bcell hb1; have hz1 : w.heap.size + 3 < w1.heap.size := (by have := hb1.size; simp at this; omega); have hz2 : w.heap.size < w1.heap.size := (by omega); have hz3 : w.heap.size + 1 < w1.heap.size := (by omega); have hz4 : w.heap.size + 1 + 1 < w1.heap.size := (by omega); have hz5 : w.heap.size + 1 + 1 + 1 < w1.heap.size := (by omega); have hz6 : N + 4 < w1.heap.size := (by omega); have HB : Below w.heap.size w w1 := Below.trans (by go_grown) (hb1.mono (by go_size))) | go_in)
  any_goals (rw [rounds_succ]; go_wp2_with (first | (go_at_call 67; refine (bounds_any V F _ _ _ _ _ hV hV' hF hF' hL ?hq).mono ?_; (case hq => decide); rintro e w1 ⟨rfl, hb1⟩; obtain ⟨hc1, hf1⟩ := bcell hb1; have hz1 : w.heap.size + 3 < w1.heap.size := (by have := hb1.size; simp at this; omega); have hz2 : w.heap.size < w1.heap.size := (by omega); have hz3 : w.heap.size + 1 < w1.heap.size := (by omega); have hz4 : w.heap.size + 1 + 1 < w1.heap.size := (by omega); have hz5 : w.heap.size + 1 + 1 + 1 < w1.heap.size := (by omega); have hz6 : N + 4 < w1.heap.size := (by omega); have HB : Below w.heap.size w w1 := Below.trans (by go_grown) (hb1.mono (by go_size))) | go_in))
  any_goals (rw [rounds_succ]; go_wp2_with (first | (go_at_call 67; refine (bounds_any V F _ _ _ _ _ hV hV' hF hF' hL ?hq).mono ?_; (case hq => decide); rintro e w1 ⟨rfl, hb1⟩; obtain ⟨hc1, hf1⟩ := bcell hb1; have hz1 : w.heap.size + 3 < w1.heap.size := (by have := hb1.size; simp at this; omega); have hz2 : w.heap.size < w1.heap.size := (by omega); have hz3 : w.heap.size + 1 < w1.heap.size := (by omega); have hz4 : w.heap.size + 1 + 1 < w1.heap.size := (by omega); have hz5 : w.heap.size + 1 + 1 + 1 < w1.heap.size := (by omega); have hz6 : N + 4 < w1.heap.size := (by omega); have HB : Below w.heap.size w w1 := Below.trans (by go_grown) (hb1.mono (by go_size))) | go_in))
  all_goals go_ret
  all_goals refine ⟨ret_int ?_, by go_grown⟩
  all_goals clear hl p0 p1
  all_goals simp [ckOne, nTo, nA, nB, nN, nG, btw]
  all_goals omega

set_option maxHeartbeats 2000000 in
set_option maxRecDepth 20000 in
theorem checkInstr_19 (V F : Int) (s : Option Addr) (len cap N : Nat) (tto a b n g : Int) (w : World) (_hV : 1 ≤ V) (_hV' : V ≤ 8) (_hF : 0 ≤ F) (_hF' : F ≤ 3) (_hL : len ≤ 60) (hs : ShpAt N shps w) :
    Calls Tryd.prog 42 #[.agg #[.int .i64 V, .int .i64 F, .slice s len cap], .map (some N), .agg #[.int .i64 19, .int .i64 tto, .int .i64 a, .int .i64 b, .int .i64 n, .int .i64 g]] w fun e w' => e = .returned (.int .i64 (ckOne V F len ⟨19, tto, a, b, n, g⟩)) ∧ Below w.heap.size w w' := by
  have hb0 : Below w.heap.size w ((w.alloc (.cells #[.int .i64 V, .int .i64 F, .slice s len cap] 24)).alloc (.cells #[.int .i64 19, .int .i64 tto, .int .i64 a, .int .i64 b, .int .i64 n, .int .i64 g] 71)) := by go_grown
  have hl : (Instr.lookup 60 (.map (some N)) (.int .i64 19) true).run Tryd.prog _ = .ok (.tuple #[.agg #[.string (wordB 19), .slice none 0 0], .bool true]) _ := look_at (hs.below hb0 (Nat.le_refl _)) 19 18 _ rfl
  clear hb0 hs
  go_enter Tryd.func42, Tryd.ntmps42
  go_wp2
  refine wp_loop_rounds 1 ?_
  rw [rounds_succ]
  go_wp2
  all_goals go_ret
  all_goals refine ⟨ret_int ?_, by go_grown⟩
  all_goals clear hl 
  all_goals simp [ckOne, nTo, nA, nB, nN, nG, btw]
  all_goals omega

set_option maxHeartbeats 2000000 in
set_option maxRecDepth 20000 in
theorem checkInstr_no (V F : Int) (s : Option Addr) (len cap N : Nat) (k tto a b n g : Int) (w : World) (_hV : 1 ≤ V) (_hV' : V ≤ 8) (_hF : 0 ≤ F) (_hF' : F ≤ 3) (_hL : len ≤ 60) (hs : ShpAt N shps w) (hk : btw k 1 19 = false) :
    Calls Tryd.prog 42 #[.agg #[.int .i64 V, .int .i64 F, .slice s len cap], .map (some N), .agg #[.int .i64 k, .int .i64 tto, .int .i64 a, .int .i64 b, .int .i64 n, .int .i64 g]] w fun e w' => e = .returned (.int .i64 (ckOne V F len ⟨k, tto, a, b, n, g⟩)) ∧ Below w.heap.size w w' := by
  have hb0 : Below w.heap.size w ((w.alloc (.cells #[.int .i64 V, .int .i64 F, .slice s len cap] 24)).alloc (.cells #[.int .i64 k, .int .i64 tto, .int .i64 a, .int .i64 b, .int .i64 n, .int .i64 g] 71)) := by go_grown
  have hl := look_no (hs.below hb0 (Nat.le_refl _)) k hk
  have hr : ckOne V F len ⟨k, tto, a, b, n, g⟩ = 6 := by simp [ckOne, hk]
  clear hb0 hs
  go_enter Tryd.func42, Tryd.ntmps42
  go_wp2
  go_ret
  exact ⟨ret_int hr.symm, by go_grown⟩

set_option maxHeartbeats 2000000 in
set_option maxRecDepth 20000 in
theorem checkInstr_11 (V F : Int) (s : Option Addr) (len cap N : Nat) (tto a b n g : Int) (w : World) (hV : 1 ≤ V) (hV' : V ≤ 8) (hF : 0 ≤ F) (hF' : F ≤ 3) (hL : len ≤ 60) (hs : ShpAt N shps w) :
    Calls Tryd.prog 42 #[.agg #[.int .i64 V, .int .i64 F, .slice s len cap], .map (some N), .agg #[.int .i64 11, .int .i64 tto, .int .i64 a, .int .i64 b, .int .i64 n, .int .i64 g]] w fun e w' => e = .returned (.int .i64 (ckOne V F len ⟨11, tto, a, b, n, g⟩)) ∧ Below w.heap.size w w' := by
  have hb0 : Below w.heap.size w ((w.alloc (.cells #[.int .i64 V, .int .i64 F, .slice s len cap] 24)).alloc (.cells #[.int .i64 11, .int .i64 tto, .int .i64 a, .int .i64 b, .int .i64 n, .int .i64 g] 71)) := by go_grown
  have hl : (Instr.lookup 60 (.map (some N)) (.int .i64 11) true).run Tryd.prog _ = .ok (.tuple #[.agg #[.string (wordB 11), .slice (some ⟨N + 11, 0, none⟩) 1 1], .bool true]) _ := look_at (hs.below hb0 (Nat.le_refl _)) 11 10 _ rfl
  have hz : N + 11 < w.heap.size := (part_cell hs 10 0 (by decide) (by decide) (.int .i64 0) rfl).2
  have p0 : w.cell? ⟨N + 11, 0, none⟩ = some (.int .i64 0) := (part_cell hs 10 0 (by decide) (by decide) (.int .i64 0) rfl).1
  have l0 : lo 0 = 0 := rfl
  have m0 : hi V F len 0 = V - 1 := rfl
  have e0 : er 0 = 5 := rfl
  have z1 : N + 11 < w.heap.size + 1 := by omega
  have z2 : N + 11 < w.heap.size + 1 + 1 := by omega
  have z3 : N + 11 < w.heap.size + 1 + 1 + 1 := by omega
  have z4 : N + 11 < w.heap.size + 1 + 1 + 1 + 1 := by omega
  have x3 : ¬ N + 11 = w.heap.size + 1 + 1 + 1 := by omega
  clear hb0 hs
  go_enter Tryd.func42, Tryd.ntmps42
  go_wp2
  refine wp_loop_rounds 2 ?_
  rw [rounds_succ]
  go_wp2_with (first | (go_at_call 67; refine (bounds_any V F _ _ _ _ _ hV hV' hF hF' hL ?hq).mono ?_; (case hq => decide); rintro e w1 ⟨rfl, hb1⟩; obtain ⟨hc1, hf1⟩ := bcell hb1; have hz1 : w.heap.size + 3 < w1.heap.size := (by have := hb1.size; simp at this; omega); have hz2 : w.heap.size < w1.heap.size := (by omega); have hz3 : w.heap.size + 1 < w1.heap.size := (by omega); have hz4 : w.heap.size + 1 + 1 < w1.heap.size := (by omega); have hz5 : w.heap.size + 1 + 1 + 1 < w1.heap.size := (by omega); have hz6 : N + 11 < w1.heap.size := (by omega); have HB : Below w.heap.size w w1 := Below.trans (by go_grown) (hb1.mono (by go_size))) | go_in)
  any_goals (rw [rounds_succ]; go_wp2_with (first | (go_at_call 67; refine (bounds_any V F _ _ _ _ _ hV hV' hF hF' hL ?hq).mono ?_; (case hq => decide); rintro e w1 ⟨rfl, hb1⟩; obtain ⟨hc1, hf1⟩ := bcell hb1; have hz1 : w.heap.size + 3 < w1.heap.size := (by have := hb1.size; simp at this; omega); have hz2 : w.heap.size < w1.heap.size := (by omega); have hz3 : w.heap.size + 1 < w1.heap.size := (by omega); have hz4 : w.heap.size + 1 + 1 < w1.heap.size := (by omega); have hz5 : w.heap.size + 1 + 1 + 1 < w1.heap.size := (by omega); have hz6 : N + 11 < w1.heap.size := (by omega); have HB : Below w.heap.size w w1 := Below.trans (by go_grown) (hb1.mono (by go_size))) | go_in))
  all_goals go_ret
  all_goals refine ⟨ret_int ?_, by go_grown⟩
  all_goals clear hl p0
  all_goals simp [ckOne, nTo, nA, nB, nN, nG, btw]
  all_goals omega
end Go.Proofs.YtmapdpcfanecdaaDoor
