/- Walks over package run: what the machine does, kind by kind. -/
import Derived.Test.YtmapdpcfanecdaaDoorKlawrsp08
import Derived.Test.YtmapdpcfanecdaaDoorKlawrsp16
import Derived.Test.YtmapdpcfanecdaaDoorKlawrsp18
import Derived.Test.YtmapdpcfanecdaaDoorKlawrsp25
import Derived.Deep.DeepCutAuto
namespace Go.Proofs.YtmapdpcfanecdaaDoor
set_option linter.unusedVariables false
set_option linter.unusedSimpArgs false
open Go.RowKit
attribute [local go_sem ↓] Go.wp_at_zero Go.wp_at_succ

set_option maxHeartbeats 2000000 in
set_option maxRecDepth 20000 in
theorem runStep_err (V F : Int) (s : Option Addr) (c : List Ins) (cap : Nat) (r : St) (vs : Option Addr) (vc : Nat) (ts : Option Addr) (tc : Nat) (ls : Option Addr) (lc : Nat) (is : Option Addr) (ic : Nat) (ins : List Int) (w : World) (hc : CodeAt w s c) (hl : LenSt r) (hr : RunAt w r vs ts ls) (h0 : ckBoth V F c r ≠ 0) :
    Calls Tryd.prog 20 #[.agg #[.int .i64 V, .int .i64 F, .slice s c.length cap], runV r vs vc ts tc ls lc, .slice is ins.length ic] w fun e w' => e = .returned (.tuple #[.agg #[.int .i64 0, .slice none 0 0, .slice none 0 0, .int .i64 0, .slice none 0 0, .int .i64 0], .int .i64 (ckBoth V F c r)]) ∧ Below w.heap.size w w' := by
  have hb0 : Below w.heap.size w (((w.alloc (.cells #[.int .i64 V, .int .i64 F, .slice s c.length cap] 24)).alloc (.cells #[.int .i64 r.at_, .slice vs r.vars.length vc, .slice ts r.things.length tc, .int .i64 r.taken, .slice ls r.lines.length lc, .int .i64 r.fin] 46)).alloc (.cells #[.int .i64 0, .slice none 0 0, .slice none 0 0, .int .i64 0, .slice none 0 0, .int .i64 0] 46)) := by go_grown
  have P0 := (P3.new w V F s c.length cap).call (w' := (((w.alloc (.cells #[.int .i64 V, .int .i64 F, .slice s c.length cap] 24)).alloc (.cells #[.int .i64 r.at_, .slice vs r.vars.length vc, .slice ts r.things.length tc, .int .i64 r.taken, .slice ls r.lines.length lc, .int .i64 r.fin] 46)).alloc (.cells #[.int .i64 0, .slice none 0 0, .slice none 0 0, .int .i64 0, .slice none 0 0, .int .i64 0] 46))) (by go_grown)
  have Q0 := (R6.new (w.alloc (.cells #[.int .i64 V, .int .i64 F, .slice s c.length cap] 24)) 46 (.int .i64 r.at_) (.slice vs r.vars.length vc) (.slice ts r.things.length tc) (.int .i64 r.taken) (.slice ls r.lines.length lc) (.int .i64 r.fin)).call (w' := (((w.alloc (.cells #[.int .i64 V, .int .i64 F, .slice s c.length cap] 24)).alloc (.cells #[.int .i64 r.at_, .slice vs r.vars.length vc, .slice ts r.things.length tc, .int .i64 r.taken, .slice ls r.lines.length lc, .int .i64 r.fin] 46)).alloc (.cells #[.int .i64 0, .slice none 0 0, .slice none 0 0, .int .i64 0, .slice none 0 0, .int .i64 0] 46))) (by go_grown)
  have Z0 := R6.new ((w.alloc (.cells #[.int .i64 V, .int .i64 F, .slice s c.length cap] 24)).alloc (.cells #[.int .i64 r.at_, .slice vs r.vars.length vc, .slice ts r.things.length tc, .int .i64 r.taken, .slice ls r.lines.length lc, .int .i64 r.fin] 46)) 46 (.int .i64 0) (.slice none 0 0) (.slice none 0 0) (.int .i64 0) (.slice none 0 0) (.int .i64 0)
  rw [World.size_alloc] at Q0
  rw [World.size_alloc, World.size_alloc] at Z0
  have HC := hideK (runCheck_any V F s c cap r vs vc ts tc ls lc (((w.alloc (.cells #[.int .i64 V, .int .i64 F, .slice s c.length cap] 24)).alloc (.cells #[.int .i64 r.at_, .slice vs r.vars.length vc, .slice ts r.things.length tc, .int .i64 r.taken, .slice ls r.lines.length lc, .int .i64 r.fin] 46)).alloc (.cells #[.int .i64 0, .slice none 0 0, .slice none 0 0, .int .i64 0, .slice none 0 0, .int .i64 0] 46)) (hc.below hb0 (Nat.le_refl _)) hl (hr.below hb0 (Nat.le_refl _)))
  have hk : (ckBoth V F c r != 0) = true := by simpa using h0
  unfold runV at HC ⊢
  clear hc hl hr h0 P0 Q0
  go_enter Tryd.func20, Tryd.ntmps20
  go_wp2_with (go_at_call 25; fail)
  generalize (((w.alloc (.cells #[.int .i64 V, .int .i64 F, .slice s c.length cap] 24)).alloc (.cells #[.int .i64 r.at_, .slice vs r.vars.length vc, .slice ts r.things.length tc, .int .i64 r.taken, .slice ls r.lines.length lc, .int .i64 r.fin] 46)).alloc (.cells #[.int .i64 0, .slice none 0 0, .slice none 0 0, .int .i64 0, .slice none 0 0, .int .i64 0] 46)) = w3 at *
  refine HC.out.mono ?_
  rintro e w4 ⟨rfl, hb4⟩
  clear HC
  have H4 := hb0.trans (hb4.mono hb0.size)
  obtain ⟨⟨r0, r1, r2, r3, r4, r5⟩, rz, rf⟩ := id (Z0.call hb4)
  have g0 := rf 0
  have g1 := rf 1
  have g2 := rf 2
  have g3 := rf 3
  have g4 := rf 4
  have g5 := rf 5
  clear rf Z0
  go_wp2
  refine bodyPost_ret (v := .tuple #[.agg #[.int .i64 0, .slice none 0 0, .slice none 0 0, .int .i64 0, .slice none 0 0, .int .i64 0], .int .i64 (ckBoth V F c r)]) (by simp [results, Tryd.results20, go_sem, r0, r1, r2, r3, r4, r5]) rfl ⟨rfl, ?_⟩
  exact below_set6 H4 (by omega) _ _ _ _ _ _

set_option maxHeartbeats 8000000 in
set_option maxRecDepth 20000 in
theorem runStep_ok (v f : Nat) (s : Option Addr) (c : List Ins) (cap : Nat) (r : St) (vs : Option Addr) (vc : Nat) (ts : Option Addr) (tc : Nat) (ls : Option Addr) (lc : Nat) (is : Option Addr) (ic : Nat) (ins : List Int) (w : World) (hc : CodeAt w s c) (hl : LenSt r) (hr : RunAt w r vs ts ls) (hI : IntsAt w is ins) (hT : Tab w) (hln : (r.lines.length + 1) * 16 ≤ 140737488355328) (h0 : ckBoth v f c r = 0) :
    Calls Tryd.prog 20 #[.agg #[.int .i64 (v : Int), .int .i64 (f : Int), .slice s c.length cap], runV r vs vc ts tc ls lc, .slice is ins.length ic] w fun e w' => ∃ vv tv lv fv, e = .returned (.tuple #[.agg #[.int .i64 (stepSt f c ins r).at_, vv, tv, .int .i64 (stepSt f c ins r).taken, lv, .int .i64 (stepSt f c ins r).fin], .int .i64 0]) ∧ OwnRows w' w.heap.size (stepSt f c ins r) vv tv lv fv ∧ Below w.heap.size w w' := by
  have hp0 : ckProg v f c = 0 := by
    unfold ckBoth at h0
    split at h0
    · assumption
    · exact h0
  have hr0 : ckRun v f c r = 0 := by
    unfold ckBoth at h0
    rw [if_pos hp0] at h0
    exact h0
  have hp := progOk_of hp0
  have hk := ckRun_ok hr0
  have hb0 : Below w.heap.size w (((w.alloc (.cells #[.int .i64 (v : Int), .int .i64 (f : Int), .slice s c.length cap] 24)).alloc (.cells #[.int .i64 r.at_, .slice vs r.vars.length vc, .slice ts r.things.length tc, .int .i64 r.taken, .slice ls r.lines.length lc, .int .i64 r.fin] 46)).alloc (.cells #[.int .i64 0, .slice none 0 0, .slice none 0 0, .int .i64 0, .slice none 0 0, .int .i64 0] 46)) := by go_grown
  have P0 := (P3.new w v f s c.length cap).call (w' := (((w.alloc (.cells #[.int .i64 (v : Int), .int .i64 (f : Int), .slice s c.length cap] 24)).alloc (.cells #[.int .i64 r.at_, .slice vs r.vars.length vc, .slice ts r.things.length tc, .int .i64 r.taken, .slice ls r.lines.length lc, .int .i64 r.fin] 46)).alloc (.cells #[.int .i64 0, .slice none 0 0, .slice none 0 0, .int .i64 0, .slice none 0 0, .int .i64 0] 46))) (by go_grown)
  have Q0 := (R6.new (w.alloc (.cells #[.int .i64 (v : Int), .int .i64 (f : Int), .slice s c.length cap] 24)) 46 (.int .i64 r.at_) (.slice vs r.vars.length vc) (.slice ts r.things.length tc) (.int .i64 r.taken) (.slice ls r.lines.length lc) (.int .i64 r.fin)).call (w' := (((w.alloc (.cells #[.int .i64 (v : Int), .int .i64 (f : Int), .slice s c.length cap] 24)).alloc (.cells #[.int .i64 r.at_, .slice vs r.vars.length vc, .slice ts r.things.length tc, .int .i64 r.taken, .slice ls r.lines.length lc, .int .i64 r.fin] 46)).alloc (.cells #[.int .i64 0, .slice none 0 0, .slice none 0 0, .int .i64 0, .slice none 0 0, .int .i64 0] 46))) (by go_grown)
  have Z0 := R6.new ((w.alloc (.cells #[.int .i64 (v : Int), .int .i64 (f : Int), .slice s c.length cap] 24)).alloc (.cells #[.int .i64 r.at_, .slice vs r.vars.length vc, .slice ts r.things.length tc, .int .i64 r.taken, .slice ls r.lines.length lc, .int .i64 r.fin] 46)) 46 (.int .i64 0) (.slice none 0 0) (.slice none 0 0) (.int .i64 0) (.slice none 0 0) (.int .i64 0)
  rw [World.size_alloc] at Q0
  rw [World.size_alloc, World.size_alloc] at Z0
  have HC := hideK (runCheck_any v f s c cap r vs vc ts tc ls lc (((w.alloc (.cells #[.int .i64 (v : Int), .int .i64 (f : Int), .slice s c.length cap] 24)).alloc (.cells #[.int .i64 r.at_, .slice vs r.vars.length vc, .slice ts r.things.length tc, .int .i64 r.taken, .slice ls r.lines.length lc, .int .i64 r.fin] 46)).alloc (.cells #[.int .i64 0, .slice none 0 0, .slice none 0 0, .int .i64 0, .slice none 0 0, .int .i64 0] 46)) (hc.below hb0 (Nat.le_refl _)) hl (hr.below hb0 (Nat.le_refl _)))
  rw [h0] at HC
  have HCR := hideK (fun (wx : World) (hx : Below w.heap.size w wx) => copyRun_any r vs vc ts tc ls lc wx (hr.below hx (Nat.le_refl _)) (by have := hk.vars; have := hp.v8; omega) (fun t ht => by have := hk.fields t ht; have := hp.f3; omega) hk.things (by omega))
  unfold runV at HC HCR ⊢
  have HCD := hideK (fun (wx : World) (hx : Below w.heap.size w wx) => And.intro (hc.below hx (Nat.le_refl _)) (And.intro (hI.below hx (Nat.le_refl _)) (hT.below hx)))
  have HP := hideK (And.intro hp hk)
  clear hc hl hr h0 hp0 hr0 hI hT hp hk
  have hz3 : (((w.alloc (.cells #[.int .i64 (v : Int), .int .i64 (f : Int), .slice s c.length cap] 24)).alloc (.cells #[.int .i64 r.at_, .slice vs r.vars.length vc, .slice ts r.things.length tc, .int .i64 r.taken, .slice ls r.lines.length lc, .int .i64 r.fin] 46)).alloc (.cells #[.int .i64 0, .slice none 0 0, .slice none 0 0, .int .i64 0, .slice none 0 0, .int .i64 0] 46)).heap.size = w.heap.size + 1 + 1 + 1 := by simp
  go_enter Tryd.func20, Tryd.ntmps20
  go_wp2_with (go_at_call 25; fail)
  generalize (((w.alloc (.cells #[.int .i64 (v : Int), .int .i64 (f : Int), .slice s c.length cap] 24)).alloc (.cells #[.int .i64 r.at_, .slice vs r.vars.length vc, .slice ts r.things.length tc, .int .i64 r.taken, .slice ls r.lines.length lc, .int .i64 r.fin] 46)).alloc (.cells #[.int .i64 0, .slice none 0 0, .slice none 0 0, .int .i64 0, .slice none 0 0, .int .i64 0] 46)) = w3 at *
  refine HC.out.mono ?_
  rintro e w4 ⟨rfl, hb4⟩
  clear HC
  have H4 := hb0.trans (hb4.mono hb0.size)
  have P4 := P0.call hb4
  have Q4 := Q0.call hb4
  have Z4 := Z0.call hb4
  have hz4 : w.heap.size + 1 + 1 + 1 ≤ w4.heap.size := by have := hb4.size; omega
  have KS : ∀ wx, Below w4.heap.size w4 wx → wx.cell? ⟨w.heap.size, 0, none⟩ = some (.int .i64 v) ∧ wx.cell? ⟨w.heap.size, 1, none⟩ = some (.int .i64 f) ∧ wx.cell? ⟨w.heap.size, 2, none⟩ = some (.slice s c.length cap) ∧ wx.cell? ⟨w.heap.size + 1, 0, none⟩ = some (.int .i64 r.at_) ∧ wx.cell? ⟨w.heap.size + 1, 1, none⟩ = some (.slice vs r.vars.length vc) ∧ wx.cell? ⟨w.heap.size + 1, 2, none⟩ = some (.slice ts r.things.length tc) ∧ wx.cell? ⟨w.heap.size + 1, 3, none⟩ = some (.int .i64 r.taken) ∧ wx.cell? ⟨w.heap.size + 1, 4, none⟩ = some (.slice ls r.lines.length lc) ∧ wx.cell? ⟨w.heap.size + 1, 5, none⟩ = some (.int .i64 r.fin) := fun wx hx => by
    obtain ⟨⟨p0, p1, p2⟩, -⟩ := P4.call hx
    obtain ⟨⟨r0, r1, r2, r3, r4, r5⟩, -, -⟩ := Q4.call hx
    exact ⟨p0, p1, p2, r0, r1, r2, r3, r4, r5⟩
  clear P0 Q0 Z0 hb4 P4 Q4
  go_upto_region 4 with fail
  go_cut [9] (fun p9 wy => ∃ m vv tv lv fv, p9 = .pointer (some ⟨m, 0, none⟩) ∧ OwnRun wy w4.heap.size m r vv tv lv fv ∧ wy.cell? ⟨m, 7, none⟩ = some (.int .i64 f) ∧ wy.cell? ⟨m, 8, none⟩ = some (.slice s c.length cap) ∧ wy.cell? ⟨m, 9, none⟩ = some (.slice is ins.length ic) ∧ Below w4.heap.size w4 wy)
  case first =>
    rename_i J1 K1' hJ1 hK1
    refine wp_region_z (S := fun wx => wx.cell? ⟨w.heap.size, 0, none⟩ = some (.int .i64 v) ∧ wx.cell? ⟨w.heap.size, 1, none⟩ = some (.int .i64 f) ∧ wx.cell? ⟨w.heap.size, 2, none⟩ = some (.slice s c.length cap) ∧ wx.cell? ⟨w.heap.size + 1, 0, none⟩ = some (.int .i64 r.at_) ∧ wx.cell? ⟨w.heap.size + 1, 1, none⟩ = some (.slice vs r.vars.length vc) ∧ wx.cell? ⟨w.heap.size + 1, 2, none⟩ = some (.slice ts r.things.length tc) ∧ wx.cell? ⟨w.heap.size + 1, 3, none⟩ = some (.int .i64 r.taken) ∧ wx.cell? ⟨w.heap.size + 1, 4, none⟩ = some (.slice ls r.lines.length lc) ∧ wx.cell? ⟨w.heap.size + 1, 5, none⟩ = some (.int .i64 r.fin)) [6] (by kernel_rfl) (KS _ (Below.refl _ _).drew) (fun hHeld => ?_)
    have HB0 : Below w4.heap.size w4 w4.drew := (Below.refl _ _).drew
    have hzd : w4.drew.heap.size = w4.heap.size := rfl
    generalize w4.drew = wq at *
    refine tkZ 0 ?_ ?_ ?_
    rotate_left
    · exact rn
    (try simp only [Act.put, List.getElem_toArray, List.getElem_cons_zero, List.getElem_cons_succ, List.setIfInBounds_toArray, List.set_cons_zero, List.set_cons_succ])
    refine tkZ 2 ?_ ?_ ?_
    rotate_left
    · exact rn
    (try simp only [Act.put, List.getElem_toArray, List.getElem_cons_zero, List.getElem_cons_succ, List.setIfInBounds_toArray, List.set_cons_zero, List.set_cons_succ])
    refine tkZ 3 ?_ ?_ ?_
    rotate_left
    · exact rn
    (try simp only [Act.put, List.getElem_toArray, List.getElem_cons_zero, List.getElem_cons_succ, List.setIfInBounds_toArray, List.set_cons_zero, List.set_cons_succ])
    refine wpAnyZ_two (i := 1) (j := 5) rfl rfl (by kernel_rfl) (fun K hK => ?_) (fun K hK => ?_)
    · go_simp
      go_at_call 47
      refine (HCR.out wq (H4.trans (HB0.mono H4.size))).mono ?_
      rintro e w5 ⟨vv, tv, lv, fv, rfl, OR, hb5⟩
      obtain ⟨vs1, vc1, ts1, tc1, ls1, lc1, rfl, rfl, rfl, -⟩ := OR.at
      have HB5 : Below w4.heap.size w4 w5 := HB0.trans (hb5.mono HB0.size)
      go_wp2_with fail
      refine hK.out _ _ (KS _ HB5) (fun hHeld => ?_)
      clear hK K
      (try simp only [Act.put, List.getElem_toArray, List.getElem_cons_zero, List.getElem_cons_succ, List.setIfInBounds_toArray, List.set_cons_zero, List.set_cons_succ])
      refine tkZ 4 ?_ ?_ ?_
      rotate_left
      · exact rn
      (try simp only [Act.put, List.getElem_toArray, List.getElem_cons_zero, List.getElem_cons_succ, List.setIfInBounds_toArray, List.set_cons_zero, List.set_cons_succ])
      refine wpAnyZ_one (i := 5) rfl (by kernel_rfl) (fun K hK => ?_)
      go_simp
      have HB6 : Below w4.heap.size w4 (w5.alloc (.cells #[.int .i64 0, .slice none 0 0, .slice none 0 0, .int .i64 0, .slice none 0 0, .int .i64 0, .int .i64 0, .int .i64 0, .slice none 0 0, .slice none 0 0] 92)) := HB5.alloc HB5.size _
      refine hK.out _ _ (KS _ HB6) (fun hHeld => ?_)
      clear hK K
      (try simp only [Act.put, List.getElem_toArray, List.getElem_cons_zero, List.getElem_cons_succ, List.setIfInBounds_toArray, List.set_cons_zero, List.set_cons_succ])
      refine wpAnyZ_last (i := 6) rfl (by kernel_rfl) (by kernel_rfl) (fun K hK => ?_)
      go_simp
      refine hK.out _ _ ?_
      clear hK K
      (try simp only [Act.put, List.getElem_toArray, List.getElem_cons_zero, List.getElem_cons_succ, List.setIfInBounds_toArray, List.set_cons_zero, List.set_cons_succ])
      refine wpAnyZ_done (by kernel_rfl) ?_ _
      refine hK1 _ _ (Met.intro (hJ1 _ _ ?_))
      (repeat apply Exists.intro)
      refine ⟨?_, rfl⟩
      have HB7 : Below w4.heap.size w4 (w5.alloc (.cells #[.int .i64 r.at_, .slice vs1 r.vars.length vc1, .slice ts1 r.things.length tc1, .int .i64 r.taken, .slice ls1 r.lines.length lc1, .int .i64 r.fin, .int .i64 v, .int .i64 f, .slice s c.length cap, .slice is ins.length ic] 92)) := HB5.alloc HB5.size _
      have OR7 := (OR.below (w' := w5.alloc (.cells #[.int .i64 r.at_, .slice vs1 r.vars.length vc1, .slice ts1 r.things.length tc1, .int .i64 r.taken, .slice ls1 r.lines.length lc1, .int .i64 r.fin, .int .i64 v, .int .i64 f, .slice s c.length cap, .slice is ins.length ic] 92)) (by go_grown)).down (show w4.heap.size ≤ wq.heap.size by omega)
      refine ⟨w5.heap.size, _, _, _, fv, rfl, OR7.run' ?_ HB5.size (fun hm => ?_), by simp [go_sem], by simp [go_sem], by simp [go_sem], HB7⟩
      · refine ⟨⟨?_, ?_, ?_, ?_, ?_, ?_⟩, fun j => ?_⟩ <;> simp [go_sem]
      · exact Nat.lt_irrefl _ (OR.lt hm).1
    · go_simp
      have HB1 : Below w4.heap.size w4 (wq.alloc (.cells #[.int .i64 0, .slice none 0 0, .slice none 0 0, .int .i64 0, .slice none 0 0, .int .i64 0, .int .i64 0, .int .i64 0, .slice none 0 0, .slice none 0 0] 92)) := HB0.alloc HB0.size _
      have hmz : ∀ j, j < 0 + 10 → ((wq.alloc (.cells #[.int .i64 0, .slice none 0 0, .slice none 0 0, .int .i64 0, .slice none 0 0, .int .i64 0, .int .i64 0, .int .i64 0, .slice none 0 0, .slice none 0 0] 92)).cell? ⟨w4.heap.size, j, none⟩).isSome = true := by
        intro j hj
        rw [← hzd]
        match j, hj with
        | 0, _ => simp [go_sem]
        | 1, _ => simp [go_sem]
        | 2, _ => simp [go_sem]
        | 3, _ => simp [go_sem]
        | 4, _ => simp [go_sem]
        | 5, _ => simp [go_sem]
        | 6, _ => simp [go_sem]
        | 7, _ => simp [go_sem]
        | 8, _ => simp [go_sem]
        | 9, _ => simp [go_sem]
        | n + 10, h => exact absurd h (by omega)
      have hmf : ∀ j, (wq.alloc (.cells #[.int .i64 0, .slice none 0 0, .slice none 0 0, .int .i64 0, .slice none 0 0, .int .i64 0, .int .i64 0, .int .i64 0, .slice none 0 0, .slice none 0 0] 92)).frozen? ⟨w4.heap.size, j, none⟩ = false := by
        intro j
        rw [← hzd]
        simp [go_sem]
      have hma : w4.heap.size < (wq.alloc (.cells #[.int .i64 0, .slice none 0 0, .slice none 0 0, .int .i64 0, .slice none 0 0, .int .i64 0, .int .i64 0, .int .i64 0, .slice none 0 0, .slice none 0 0] 92)).heap.size := by simp [hzd]
      have hma1 : (wq.alloc (.cells #[.int .i64 0, .slice none 0 0, .slice none 0 0, .int .i64 0, .slice none 0 0, .int .i64 0, .int .i64 0, .int .i64 0, .slice none 0 0, .slice none 0 0] 92)).heap.size = w4.heap.size + 1 := by simp [hzd]
      refine hK.out _ _ (KS _ HB1) (fun hHeld => ?_)
      clear hK K
      (try simp only [Act.put, List.getElem_toArray, List.getElem_cons_zero, List.getElem_cons_succ, List.setIfInBounds_toArray, List.set_cons_zero, List.set_cons_succ])
      (try rw [hzd])
      generalize wq.alloc (.cells #[.int .i64 0, .slice none 0 0, .slice none 0 0, .int .i64 0, .slice none 0 0, .int .i64 0, .int .i64 0, .int .i64 0, .slice none 0 0, .slice none 0 0] 92) = wa at *
      refine wpAnyZ_one (i := 1) rfl (by kernel_rfl) (fun K hK => ?_)
      go_simp
      go_at_call 47
      refine (HCR.out wa (H4.trans (HB1.mono H4.size))).mono ?_
      rintro e w5 ⟨vv, tv, lv, fv, rfl, OR, hb5⟩
      obtain ⟨vs1, vc1, ts1, tc1, ls1, lc1, rfl, rfl, rfl, -⟩ := OR.at
      have HB5 : Below w4.heap.size w4 w5 := HB1.trans (hb5.mono HB1.size)
      go_wp2_with fail
      refine hK.out _ _ (KS _ HB5) (fun hHeld => ?_)
      clear hK K
      (try simp only [Act.put, List.getElem_toArray, List.getElem_cons_zero, List.getElem_cons_succ, List.setIfInBounds_toArray, List.set_cons_zero, List.set_cons_succ])
      have hmz5 : ∀ j, j < 0 + 10 → (w5.cell? ⟨w4.heap.size, j, none⟩).isSome = true := fun j hj => by rw [hb5.cell (by simpa using hma)]; exact hmz j hj
      have hmf5 : ∀ j, w5.frozen? ⟨w4.heap.size, j, none⟩ = false := fun j => by rw [hb5.frozen (by simpa using hma)]; exact hmf j
      obtain ⟨u0, e0⟩ := Option.isSome_iff_exists.1 (hmz5 0 (by omega))
      have d0 := hmf5 0
      obtain ⟨u1, e1⟩ := Option.isSome_iff_exists.1 (hmz5 1 (by omega))
      have d1 := hmf5 1
      obtain ⟨u2, e2⟩ := Option.isSome_iff_exists.1 (hmz5 2 (by omega))
      have d2 := hmf5 2
      obtain ⟨u3, e3⟩ := Option.isSome_iff_exists.1 (hmz5 3 (by omega))
      have d3 := hmf5 3
      obtain ⟨u4, e4⟩ := Option.isSome_iff_exists.1 (hmz5 4 (by omega))
      have d4 := hmf5 4
      obtain ⟨u5, e5⟩ := Option.isSome_iff_exists.1 (hmz5 5 (by omega))
      have d5 := hmf5 5
      obtain ⟨u6, e6⟩ := Option.isSome_iff_exists.1 (hmz5 6 (by omega))
      have d6 := hmf5 6
      obtain ⟨u7, e7⟩ := Option.isSome_iff_exists.1 (hmz5 7 (by omega))
      have d7 := hmf5 7
      obtain ⟨u8, e8⟩ := Option.isSome_iff_exists.1 (hmz5 8 (by omega))
      have d8 := hmf5 8
      obtain ⟨u9, e9⟩ := Option.isSome_iff_exists.1 (hmz5 9 (by omega))
      have d9 := hmf5 9
      refine tkZ 4 ?_ ?_ ?_
      rotate_left
      · exact rn
      (try simp only [Act.put, List.getElem_toArray, List.getElem_cons_zero, List.getElem_cons_succ, List.setIfInBounds_toArray, List.set_cons_zero, List.set_cons_succ])
      have HM5 := hideK (And.intro hmz5 hmf5)
      clear hmz hmf hmz5 hmf5
      refine wpAnyZ_last (i := 6) rfl (by kernel_rfl) (by kernel_rfl) (fun K hK => ?_)
      go_simp
      refine hK.out _ _ ?_
      clear hK K
      (try simp only [Act.put, List.getElem_toArray, List.getElem_cons_zero, List.getElem_cons_succ, List.setIfInBounds_toArray, List.set_cons_zero, List.set_cons_succ])
      refine wpAnyZ_done (by kernel_rfl) ?_ _
      refine hK1 _ _ (Met.intro (hJ1 _ _ ?_))
      (repeat apply Exists.intro)
      refine ⟨?_, rfl⟩
      show ∃ m vv tv lv fv, _ = _ ∧ OwnRun (setL w5 w4.heap.size 0 [.int .i64 r.at_, .slice vs1 r.vars.length vc1, .slice ts1 r.things.length tc1, .int .i64 r.taken, .slice ls1 r.lines.length lc1, .int .i64 r.fin, .int .i64 v, .int .i64 f, .slice s c.length cap, .slice is ins.length ic]) w4.heap.size m r vv tv lv fv ∧ (setL w5 w4.heap.size 0 [.int .i64 r.at_, .slice vs1 r.vars.length vc1, .slice ts1 r.things.length tc1, .int .i64 r.taken, .slice ls1 r.lines.length lc1, .int .i64 r.fin, .int .i64 v, .int .i64 f, .slice s c.length cap, .slice is ins.length ic]).cell? ⟨m, 7, none⟩ = some (.int .i64 f) ∧ (setL w5 w4.heap.size 0 [.int .i64 r.at_, .slice vs1 r.vars.length vc1, .slice ts1 r.things.length tc1, .int .i64 r.taken, .slice ls1 r.lines.length lc1, .int .i64 r.fin, .int .i64 v, .int .i64 f, .slice s c.length cap, .slice is ins.length ic]).cell? ⟨m, 8, none⟩ = some (.slice s c.length cap) ∧ (setL w5 w4.heap.size 0 [.int .i64 r.at_, .slice vs1 r.vars.length vc1, .slice ts1 r.things.length tc1, .int .i64 r.taken, .slice ls1 r.lines.length lc1, .int .i64 r.fin, .int .i64 v, .int .i64 f, .slice s c.length cap, .slice is ins.length ic]).cell? ⟨m, 9, none⟩ = some (.slice is ins.length ic) ∧ Below w4.heap.size w4 (setL w5 w4.heap.size 0 [.int .i64 r.at_, .slice vs1 r.vars.length vc1, .slice ts1 r.things.length tc1, .int .i64 r.taken, .slice ls1 r.lines.length lc1, .int .i64 r.fin, .int .i64 v, .int .i64 f, .slice s c.length cap, .slice is ins.length ic])
      have HS := setL_cell w4.heap.size [.int .i64 r.at_, .slice vs1 r.vars.length vc1, .slice ts1 r.things.length tc1, .int .i64 r.taken, .slice ls1 r.lines.length lc1, .int .i64 r.fin, .int .i64 v, .int .i64 f, .slice s c.length cap, .slice is ins.length ic] 0 w5 HM5.out.1
      have OR7 : OwnRows (setL w5 w4.heap.size 0 [.int .i64 r.at_, .slice vs1 r.vars.length vc1, .slice ts1 r.things.length tc1, .int .i64 r.taken, .slice ls1 r.lines.length lc1, .int .i64 r.fin, .int .i64 v, .int .i64 f, .slice s c.length cap, .slice is ins.length ic]) (w4.heap.size + 1) r _ _ _ fv := (by rw [← hma1]; exact OR.same fun k hk => setL_far _ _ (fun e => by have := (OR.lt hk).2; omega) _ _ _)
      refine ⟨w4.heap.size, _, _, _, fv, rfl, OR7.run ?_ (Nat.le_succ _) (Nat.le_refl _) (Nat.lt_succ_self _), ?_, ?_, ?_, setL_below _ (Nat.le_refl _) _ _ _ HB5⟩
      · refine ⟨⟨?_, ?_, ?_, ?_, ?_, ?_⟩, fun j => by rw [setL_frozen]; exact HM5.out.2 j⟩
        · simpa using HS 0 (by simp)
        · simpa using HS 1 (by simp)
        · simpa using HS 2 (by simp)
        · simpa using HS 3 (by simp)
        · simpa using HS 4 (by simp)
        · simpa using HS 5 (by simp)
      · simpa using HS 7 (by simp)
      · simpa using HS 8 (by simp)
      · simpa using HS 9 (by simp)
  obtain ⟨m, vv, tv, lv, fv, rfl, O, c7, c8, c9, HBc⟩ := hcut
  have Hc : Below w.heap.size w wc := H4.trans (HBc.mono H4.size)
  obtain ⟨CD, ID, TD⟩ := HCD.out wc Hc
  have HS := hideK (stepM_any v f c r HP.out.1 HP.out.2 ins m w4.heap.size vv tv lv fv s cap is ic wc O HBc.size c7 c8 c9 CD ID TD hln)
  clear HCR HCD HP KS CD ID TD
  go_wp2_with (go_at_call 48; fail)
  refine HS.out.mono ?_
  rintro e w6 ⟨rfl, ⟨vv6, tv6, lv6, fv6, O6⟩, M2, M3, M4⟩
  clear HS M3 M4 O
  have hm4 : w4.heap.size ≤ m := O6.low
  obtain ⟨vs6, vc6, ts6, tc6, ls6, lc6, rfl, rfl, rfl, -⟩ := O6.rows.at
  have H46 : Below w4.heap.size w4 w6 := HBc.trans M2
  have H6 : Below w.heap.size w w6 := H4.trans (H46.mono H4.size)
  have Z6 := Z4.call H46
  obtain ⟨⟨r0, r1, r2, r3, r4, r5⟩, rz, rf⟩ := id Z6
  have g0 := rf 0
  have g1 := rf 1
  have g2 := rf 2
  have g3 := rf 3
  have g4 := rf 4
  have g5 := rf 5
  obtain ⟨⟨m0, m1, m2, m3, m4, m5⟩, mz, mf⟩ := id O6.r6
  have hne : m ≠ w.heap.size + 1 + 1 := by omega
  have HY := hideK (And.intro ((O6.rows.set6 (b := w.heap.size + 1 + 1) (by omega) (.int .i64 (stepSt f c ins r).at_) (.slice vs6 (stepSt f c ins r).vars.length vc6) (.slice ts6 (stepSt f c ins r).things.length tc6) (.int .i64 (stepSt f c ins r).taken) (.slice ls6 (stepSt f c ins r).lines.length lc6) (.int .i64 (stepSt f c ins r).fin)).down (show w.heap.size ≤ w4.heap.size by omega)) (below_set6 H6 (show w.heap.size ≤ w.heap.size + 1 + 1 by omega) (.int .i64 (stepSt f c ins r).at_) (.slice vs6 (stepSt f c ins r).vars.length vc6) (.slice ts6 (stepSt f c ins r).things.length tc6) (.int .i64 (stepSt f c ins r).taken) (.slice ls6 (stepSt f c ins r).lines.length lc6) (.int .i64 (stepSt f c ins r).fin)))
  clear O6 Z6 Z4 rf mf H46 M2 HBc Hc
  generalize hst : stepSt f c ins r = st at *
  have HST := hideK hst
  clear hst
  go_wp2
  refine bodyPost_ret (v := .tuple #[.agg #[.int .i64 st.at_, .slice vs6 st.vars.length vc6, .slice ts6 st.things.length tc6, .int .i64 st.taken, .slice ls6 st.lines.length lc6, .int .i64 st.fin], .int .i64 0]) (by simp [results, Tryd.results20, go_sem, r0, r1, r2, r3, r4, r5]) rfl ?_
  rw [HST.out]
  exact ⟨_, _, _, fv6, rfl, HY.out.1, HY.out.2⟩
end Go.Proofs.YtmapdpcfanecdaaDoor
