/- For every program, run and list of inputs that the law RunSteps is handed, it returns true and leaves them as they were: Begin, Check and Step answer just what the document answers, errors too. No condition but the row's own: the listed package-level variables hold what the program's text lays, and what is handed in fits in a machine's memory. -/
import Derived.Test.YtmapdpcfanecdaaDoorKlawrsp54
import Derived.Test.YtmapdpcfanecdaaDoorKlawrsp30
import Derived.Deep.DeepCutAuto
import Derived.Deep.RegionHeld3
import Derived.Test.YtmapdpcfanecdaaDoorKlawrsp08
import Derived.ChangeMaps5
namespace Go.Proofs.YtmapdpcfanecdaaDoor
set_option linter.unusedVariables false
set_option linter.unusedSimpArgs false
open Go.RowKit
attribute [local go_sem ↓] Go.wp_at_zero Go.wp_at_succ

theorem begunRun (b : Nat) (w : World) (hc : CodeAt w (some ⟨b, 0, none⟩) smallC) (hT : Tab w) :
    Calls Tryd.prog 27 #[.agg #[.int .i64 1, .int .i64 0, .slice (some ⟨b, 0, none⟩) 2 2], .slice none 0 0, .int .i64 10] w fun e w' => ∃ a rv rvn rvc rt rtn rtc k rl rlc, e = .returned (.tuple #[.agg #[.int .i64 a, .slice rv rvn rvc, .slice rt rtn rtc, .int .i64 k, .slice rl 1 rlc, .int .i64 1], .int .i64 3, .int .i64 0]) ∧ StrsAt w' rl [⟨#[53]⟩] ∧ Below w.heap.size w w' := by
  refine (runM_ok 1 0 (some ⟨b, 0, none⟩) smallC 2 none 0 [] 10 w hc (.inl rfl) hT (by decide +kernel) (by omega)).mono ?_
  rintro e w' ⟨vv, tv, lv, fv, rfl, OR, -, -, hb⟩
  obtain ⟨vs, vc, ts, tc, ls, lc, rfl, rfl, rfl, h⟩ := OR.at
  have e0 : runSt ((1 : Nat) : Int) ((0 : Nat) : Int) smallC [] 10 = runSt 1 0 smallC [] 10 := rfl
  rw [e0] at h ⊢
  have hl := h.2.2
  rw [small_line] at hl
  refine ⟨(runSt 1 0 smallC [] 10).1.at_, vs, (runSt 1 0 smallC [] 10).1.vars.length, vc, ts, (runSt 1 0 smallC [] 10).1.things.length, tc, (runSt 1 0 smallC [] 10).1.taken, ls, lc, ?_, hl, hb⟩
  rw [small_fin, small_n, small_line]
  rfl

theorem begunBegin (b : Nat) (w : World) (hc : CodeAt w (some ⟨b, 0, none⟩) smallC) :
    Calls Tryd.prog 19 #[.agg #[.int .i64 1, .int .i64 0, .slice (some ⟨b, 0, none⟩) 2 2]] w fun e w' => ∃ bv bvc bt btc bl blc, e = .returned (.tuple #[.agg #[.int .i64 0, .slice bv 1 bvc, .slice bt 0 btc, .int .i64 0, .slice bl 0 blc, .int .i64 0], .int .i64 0]) ∧ RunAt w' (beginSt 1) bv bt bl ∧ Below w.heap.size w w' := by
  refine (beginU 1 0 (some ⟨b, 0, none⟩) smallC 2 w hc).mono ?_
  rintro e w' ⟨⟨vs, vc, ts, tc, ls, lc, rfl, h⟩, hb⟩
  have h0 : ckProg 1 0 smallC = 0 := by decide +kernel
  have e1 : begOf 1 0 smallC = beginSt 1 := by unfold begOf; rw [if_pos h0]
  rw [e1] at h
  refine ⟨vs, vc, ts, tc, ls, lc, ?_, h, hb⟩
  rw [e1, h0]
  rfl

theorem begunStep (b : Nat) (bv : Option Addr) (bvc : Nat) (bt : Option Addr) (btc : Nat) (bl : Option Addr) (blc : Nat) (w : World) (hc : CodeAt w (some ⟨b, 0, none⟩) smallC) (hr : RunAt w (beginSt 1) bv bt bl) (hT : Tab w) :
    Calls Tryd.prog 20 #[.agg #[.int .i64 1, .int .i64 0, .slice (some ⟨b, 0, none⟩) 2 2], .agg #[.int .i64 0, .slice bv 1 bvc, .slice bt 0 btc, .int .i64 0, .slice bl 0 blc, .int .i64 0], .slice none 0 0] w fun e w' => ∃ st cv cvc ct ctc cl clc fv, e = .returned (.tuple #[.agg #[.int .i64 1, .slice cv st.vars.length cvc, .slice ct st.things.length ctc, .int .i64 st.taken, .slice cl st.lines.length clc, .int .i64 st.fin], .int .i64 0]) ∧ OwnRows w' w.heap.size st (.slice cv st.vars.length cvc) (.slice ct st.things.length ctc) (.slice cl st.lines.length clc) fv ∧ Hid (LenSt st) ∧ Hid (ckBoth 1 0 smallC st = 0) ∧ Hid (st.at_ = 1) ∧ Below w.heap.size w w' := by
  refine (runStep_ok 1 0 (some ⟨b, 0, none⟩) smallC 2 (beginSt 1) bv bvc bt btc bl blc none 0 [] w hc small_len hr (.inl rfl) hT (by decide +kernel) small_both).mono ?_
  rintro e w' ⟨vv, tv, lv, fv, rfl, OR, hb⟩
  obtain ⟨vs, vc, ts, tc, ls, lc, rfl, rfl, rfl, -⟩ := OR.at
  refine ⟨stepSt 0 smallC [] (beginSt 1), vs, vc, ts, tc, ls, lc, fv, ?_, OR, small_len2, small_both2, small_at, hb⟩
  rw [show ((0 : Nat) : Int) = 0 from rfl, small_at]

theorem begunCheck (b : Nat) (st : St) (cv : Option Addr) (cvc : Nat) (ct : Option Addr) (ctc : Nat) (cl : Option Addr) (clc : Nat) (w : World) (hc : CodeAt w (some ⟨b, 0, none⟩) smallC) (hr : RunAt w st cv ct cl) (hl : LenSt st) (h0 : ckBoth 1 0 smallC st = 0) (h1 : st.at_ = 1) :
    Calls Tryd.prog 25 #[.agg #[.int .i64 1, .int .i64 0, .slice (some ⟨b, 0, none⟩) 2 2], .agg #[.int .i64 1, .slice cv st.vars.length cvc, .slice ct st.things.length ctc, .int .i64 st.taken, .slice cl st.lines.length clc, .int .i64 st.fin]] w fun e w' => e = .returned (.int .i64 0) ∧ Below w.heap.size w w' := by
  have h := runCheck_any 1 0 (some ⟨b, 0, none⟩) smallC 2 st cv cvc ct ctc cl clc w hc hl hr
  unfold runV at h
  rw [h1, h0] at h
  exact h

set_option maxHeartbeats 8000000 in
set_option maxRecDepth 20000 in
theorem runBegun_any (w : World) (hT : Tab w) :
    Calls Tryd.prog 24 #[] w fun e w' => e = .returned (.bool true) ∧ Below w.heap.size w w' := by
  have HR := hideK begunRun
  have HB := hideK begunBegin
  have HS := hideK begunStep
  have HC := hideK begunCheck
  go_enter Tryd.func24, Tryd.ntmps24
  go_wp2_with (go_at_call 41; fail)
  refine (small_any w).mono ?_
  rintro e w1 ⟨b1, rfl, c1, hb1⟩
  go_wp2_with (go_at_call 27; fail)
  refine (HR.out _ w1 c1 (hT.below hb1)).mono ?_
  rintro e w2 ⟨a, rv, rvn, rvc, rt, rtn, rtc, k, rl, rlc, rfl, L2, hb2⟩
  have B2 := hb1.trans (hb2.mono hb1.size)
  have L3 := L2.below (w' := w2.alloc (.cells #[.int .i64 a, .slice rv rvn rvc, .slice rt rtn rtc, .int .i64 k, .slice rl 1 rlc, .int .i64 1] 46)) (by go_grown) (Nat.le_refl _)
  have R3 := R6.new w2 46 (.int .i64 a) (.slice rv rvn rvc) (.slice rt rtn rtc) (.int .i64 k) (.slice rl 1 rlc) (.int .i64 1)
  have B3 : Below w.heap.size w (w2.alloc (.cells #[.int .i64 a, .slice rv rvn rvc, .slice rt rtn rtc, .int .i64 k, .slice rl 1 rlc, .int .i64 1] 46)) := B2.alloc B2.size _
  clear L2 B2 hb1 hb2 c1 HR
  go_upto_region 2 with fail
  generalize w2.alloc (.cells #[.int .i64 a, .slice rv rvn rvc, .slice rt rtn rtc, .int .i64 k, .slice rl 1 rlc, .int .i64 1] 46) = w3 at *
  generalize w2.heap.size = rb at *
  go_wp2_with (go_at_call 41; fail)
  refine (small_any _).mono ?_
  rintro e w4 ⟨b4, rfl, c4, hb4⟩
  go_wp2_with (go_at_call 19; fail)
  refine (HB.out _ w4 c4).mono ?_
  rintro e w5 ⟨bv, bvc, bt, btc, bl, blc, rfl, G5, hb5⟩
  have H5 := hb4.trans (hb5.mono hb4.size)
  have H6 : Below w3.heap.size w3 (w5.alloc (.cells #[.int .i64 0, .slice bv 1 bvc, .slice bt 0 btc, .int .i64 0, .slice bl 0 blc, .int .i64 0] 46)) := H5.alloc H5.size _
  have G0 := G5.below (w' := w5.alloc (.cells #[.int .i64 0, .slice bv 1 bvc, .slice bt 0 btc, .int .i64 0, .slice bl 0 blc, .int .i64 0] 46)) (by go_grown) (Nat.le_refl _)
  have A0 := R6.new w5 46 (.int .i64 0) (.slice bv 1 bvc) (.slice bt 0 btc) (.int .i64 0) (.slice bl 0 blc) (.int .i64 0)
  have R0 := R3.call H6
  have L0 := L3.below H6 (Nat.le_refl _)
  have B0 := B3.trans (H6.mono B3.size)
  have hT0 := hT.below B0
  clear G5 H5 H6 hb4 hb5 c4 HB R3 L3 B3 hT
  go_upto_region 3 with fail
  generalize w5.alloc (.cells #[.int .i64 0, .slice bv 1 bvc, .slice bt 0 btc, .int .i64 0, .slice bl 0 blc, .int .i64 0] 46) = we at *
  generalize w5.heap.size = bb at *
  have KS3 := hideK (fun wx (h : R6 wx bb (.int .i64 0) (.slice bv 1 bvc) (.slice bt 0 btc) (.int .i64 0) (.slice bl 0 blc) (.int .i64 0)) => h.1)
  go_cut [6, 7] (fun t6 t7 wc => ∃ cb st cv cvc ct ctc cl clc, t6 = .pointer (some ⟨cb, 0, none⟩) ∧ t7 = .int .i64 0 ∧ Hid (LenSt st) ∧ Hid (ckBoth 1 0 smallC st = 0) ∧ Hid (st.at_ = 1) ∧ R6 wc cb (.int .i64 1) (.slice cv st.vars.length cvc) (.slice ct st.things.length ctc) (.int .i64 st.taken) (.slice cl st.lines.length clc) (.int .i64 st.fin) ∧ RunAt wc st cv ct cl ∧ R6 wc rb (.int .i64 a) (.slice rv rvn rvc) (.slice rt rtn rtc) (.int .i64 k) (.slice rl 1 rlc) (.int .i64 1) ∧ StrsAt wc rl [⟨#[53]⟩] ∧ Below w.heap.size w wc)
  case first =>
    rename_i J1 K1 hJ hK1
    have E2 : Below we.heap.size we we.drew := (Below.refl _ _).drew
    refine wp_region_held_drew (S := fun wx => wx.cell? ⟨bb, 0, none⟩ = some (.int .i64 0) ∧ wx.cell? ⟨bb, 1, none⟩ = some (.slice bv 1 bvc) ∧ wx.cell? ⟨bb, 2, none⟩ = some (.slice bt 0 btc) ∧ wx.cell? ⟨bb, 3, none⟩ = some (.int .i64 0) ∧ wx.cell? ⟨bb, 4, none⟩ = some (.slice bl 0 blc) ∧ wx.cell? ⟨bb, 5, none⟩ = some (.int .i64 0)) (by kernel_rfl) (KS3.out _ (A0.call E2)) (fun hHeld => ?_)
    generalize we.drew = w2 at *
    refine wpAnyH_take (i := 1) (v := ?_) rfl (by kernel_rfl) (by kernel_rfl) (by kernel_rfl) (fun _ _ _ h => h) (Or.inl ⟨?_, ?_⟩) (by assumption) ?_
    rotate_left
    · rfl
    · (intro w hSw; (try dsimp only at hSw); first | (go_simp; done) | (go_simp; with_reducible rfl))
    (try simp only [Act.put, List.getElem_toArray, List.getElem_cons_zero, List.getElem_cons_succ, List.setIfInBounds_toArray, List.set_cons_zero, List.set_cons_succ])
    refine wpAnyH_ready (rs := [0, 6]) (by kernel_rfl) (by simp) ?_
    refine AllReadyH.cons rfl (fun K hK => ?_) (AllReadyH.cons rfl (fun K hK => ?_) AllReadyH.nil)
    · go_simp
      refine (small_any _).mono ?_
      rintro e w3 ⟨q3, rfl, C3, hb3⟩
      have E3 := E2.trans (hb3.mono E2.size)
      refine hK.out _ _ (KS3.out _ (A0.call E3)) (fun hHeld3 => ?_)
      clear hK K
      (try simp only [Act.put, List.getElem_toArray, List.getElem_cons_zero, List.getElem_cons_succ, List.setIfInBounds_toArray, List.set_cons_zero, List.set_cons_succ])
      clear hb3
      refine wpAnyH_ready (rs := [2, 6]) (by kernel_rfl) (by simp) ?_
      refine AllReadyH.cons rfl (fun K hK => ?_) (AllReadyH.cons rfl (fun K hK => ?_) AllReadyH.nil)
      · go_simp
        refine (HS.out _ bv bvc bt btc bl blc w3 C3 (G0.below E3 (Nat.le_refl _)) (hT0.below E3)).mono ?_
        rintro e w4 ⟨st, cv, cvc, ct, ctc, cl, clc, fv, rfl, O4, hl, h0, h1, hb4⟩
        have E4 := E3.trans (hb4.mono E3.size)
        refine hK.out _ _ (KS3.out _ (A0.call E4)) (fun hHeld4 => ?_)
        clear hK K
        (try simp only [Act.put, List.getElem_toArray, List.getElem_cons_zero, List.getElem_cons_succ, List.setIfInBounds_toArray, List.set_cons_zero, List.set_cons_succ])
        refine wpAnyH_take (i := 3) (v := ?_) rfl (by kernel_rfl) (by kernel_rfl) (by kernel_rfl) (fun _ _ _ h => h) (Or.inl ⟨?_, ?_⟩) (by assumption) ?_
        rotate_left
        · rfl
        · (intro w hSw; (try dsimp only at hSw); first | (go_simp; done) | (go_simp; with_reducible rfl))
        (try simp only [Act.put, List.getElem_toArray, List.getElem_cons_zero, List.getElem_cons_succ, List.setIfInBounds_toArray, List.set_cons_zero, List.set_cons_succ])
        refine wpAnyH_take (i := 4) (v := ?_) rfl (by kernel_rfl) (by kernel_rfl) (by kernel_rfl) (fun _ _ _ h => h) (Or.inl ⟨?_, ?_⟩) (by assumption) ?_
        rotate_left
        · rfl
        · (intro w hSw; (try dsimp only at hSw); first | (go_simp; done) | (go_simp; with_reducible rfl))
        (try simp only [Act.put, List.getElem_toArray, List.getElem_cons_zero, List.getElem_cons_succ, List.setIfInBounds_toArray, List.set_cons_zero, List.set_cons_succ])
        refine wpAnyH_take (i := 5) (v := ?_) rfl (by kernel_rfl) (by kernel_rfl) (by kernel_rfl) (fun _ _ _ h => h) (Or.inl ⟨?_, ?_⟩) (by assumption) ?_
        rotate_left
        · rfl
        · (intro w hSw; (try dsimp only at hSw); first | (go_simp; done) | (go_simp; with_reducible rfl))
        (try simp only [Act.put, List.getElem_toArray, List.getElem_cons_zero, List.getElem_cons_succ, List.setIfInBounds_toArray, List.set_cons_zero, List.set_cons_succ])
        clear hb4
        refine wpAnyH_ready (rs := [6]) (by kernel_rfl) (by simp) ?_
        refine AllReadyH.cons rfl (fun K hK => ?_) AllReadyH.nil
        go_simp
        have hb5 : Below w4.heap.size w4 (w4.alloc (.cells #[.int .i64 0, .slice none 0 0, .slice none 0 0, .int .i64 0, .slice none 0 0, .int .i64 0] 46)) := by go_grown
        have U5 := R6.new w4 46 (.int .i64 0) (.slice none 0 0) (.slice none 0 0) (.int .i64 0) (.slice none 0 0) (.int .i64 0)
        have zc : we.heap.size ≤ w4.heap.size := E4.size
        have HF := hideK (fun y0 y1 y2 y3 y4 y5 => (O4.runAt).below (w' := set6 (w4.alloc (.cells #[.int .i64 0, .slice none 0 0, .slice none 0 0, .int .i64 0, .slice none 0 0, .int .i64 0] 46)) w4.heap.size y0 y1 y2 y3 y4 y5) (below_set6 (by go_grown) (Nat.le_refl _) _ _ _ _ _ _) (Nat.le_refl _))
        have E5 := E4.trans (hb5.mono E4.size)
        refine hK.out _ _ (KS3.out _ (A0.call E5)) (fun hHeld5 => ?_)
        clear hK K
        (try simp only [Act.put, List.getElem_toArray, List.getElem_cons_zero, List.getElem_cons_succ, List.setIfInBounds_toArray, List.set_cons_zero, List.set_cons_succ])
        clear hb5
        clear O4
        generalize w4.alloc (.cells #[.int .i64 0, .slice none 0 0, .slice none 0 0, .int .i64 0, .slice none 0 0, .int .i64 0] 46) = w5 at *
        generalize w4.heap.size = cb at *
        have U9 := U5.put (.int .i64 1) (.slice cv st.vars.length cvc) (.slice ct st.things.length ctc) (.int .i64 st.taken) (.slice cl st.lines.length clc) (.int .i64 st.fin)
        have E9 : Below we.heap.size we (set6 w5 cb (.int .i64 1) (.slice cv st.vars.length cvc) (.slice ct st.things.length ctc) (.int .i64 st.taken) (.slice cl st.lines.length clc) (.int .i64 st.fin)) := below_set6 E5 zc _ _ _ _ _ _
        have D9 : RunAt (set6 w5 cb (.int .i64 1) (.slice cv st.vars.length cvc) (.slice ct st.things.length ctc) (.int .i64 st.taken) (.slice cl st.lines.length clc) (.int .i64 st.fin)) st cv ct cl := HF.out _ _ _ _ _ _
        obtain ⟨⟨r0, r1, r2, r3, r4, r5⟩, rz, fz⟩ := id U5
        refine wpAnyH_ready (rs := [7]) (by kernel_rfl) (by simp) ?_
        refine AllReadyH.cons rfl (fun K hK => ?_) AllReadyH.nil
        go_simp
        refine hK.out _ _ (KS3.out _ (A0.call E9)) (fun hHeldz => ?_)
        clear hK K
        (try simp only [Act.put, List.getElem_toArray, List.getElem_cons_zero, List.getElem_cons_succ, List.setIfInBounds_toArray, List.set_cons_zero, List.set_cons_succ])
        refine wpAnyH_take (i := 8) (v := ?_) rfl (by kernel_rfl) (by kernel_rfl) (by kernel_rfl) (fun _ _ _ h => h) (Or.inl ⟨?_, ?_⟩) (by assumption) ?_
        rotate_left
        · rfl
        · (intro w hSw; (try dsimp only at hSw); first | (go_simp; done) | (go_simp; with_reducible rfl))
        (try simp only [Act.put, List.getElem_toArray, List.getElem_cons_zero, List.getElem_cons_succ, List.setIfInBounds_toArray, List.set_cons_zero, List.set_cons_succ])
        refine wpAnyH_done (by kernel_rfl) ?_ _
        first | refine hK1 _ _ (Met.intro (hJ _ _ ?_)) | refine Met.intro (hJ _ _ ?_) | refine hJ _ _ ?_
        (repeat apply Exists.intro)
        refine ⟨?_, rfl⟩
        exact ⟨cb, st, cv, cvc, ct, ctc, cl, clc, rfl, rfl, hl, h0, h1, U9, D9, R0.call E9, L0.below E9 (Nat.le_refl _), B0.trans (E9.mono B0.size)⟩
      · go_simp
        have hb4 : Below w3.heap.size w3 (w3.alloc (.cells #[.int .i64 0, .slice none 0 0, .slice none 0 0, .int .i64 0, .slice none 0 0, .int .i64 0] 46)) := by go_grown
        have U4 := R6.new w3 46 (.int .i64 0) (.slice none 0 0) (.slice none 0 0) (.int .i64 0) (.slice none 0 0) (.int .i64 0)
        have zc : we.heap.size ≤ w3.heap.size := E3.size
        have C4 := C3.below hb4 (Nat.le_refl _)
        have E4 := E3.trans (hb4.mono E3.size)
        refine hK.out _ _ (KS3.out _ (A0.call E4)) (fun hHeld4 => ?_)
        clear hK K
        (try simp only [Act.put, List.getElem_toArray, List.getElem_cons_zero, List.getElem_cons_succ, List.setIfInBounds_toArray, List.set_cons_zero, List.set_cons_succ])
        clear hb4
        generalize w3.alloc (.cells #[.int .i64 0, .slice none 0 0, .slice none 0 0, .int .i64 0, .slice none 0 0, .int .i64 0] 46) = w4 at *
        generalize w3.heap.size = cb at *
        refine wpAnyH_ready (rs := [2]) (by kernel_rfl) (by simp) ?_
        refine AllReadyH.cons rfl (fun K hK => ?_) AllReadyH.nil
        go_simp
        refine (HS.out _ bv bvc bt btc bl blc w4 C4 (G0.below E4 (Nat.le_refl _)) (hT0.below E4)).mono ?_
        rintro e w5 ⟨st, cv, cvc, ct, ctc, cl, clc, fv, rfl, O5, hl, h0, h1, hb5⟩
        have U5 := U4.call hb5
        have HF := hideK (fun y0 y1 y2 y3 y4 y5 => (O5.set6 U4.2.1 y0 y1 y2 y3 y4 y5).runAt)
        have E5 := E4.trans (hb5.mono E4.size)
        refine hK.out _ _ (KS3.out _ (A0.call E5)) (fun hHeld5 => ?_)
        clear hK K
        (try simp only [Act.put, List.getElem_toArray, List.getElem_cons_zero, List.getElem_cons_succ, List.setIfInBounds_toArray, List.set_cons_zero, List.set_cons_succ])
        refine wpAnyH_take (i := 3) (v := ?_) rfl (by kernel_rfl) (by kernel_rfl) (by kernel_rfl) (fun _ _ _ h => h) (Or.inl ⟨?_, ?_⟩) (by assumption) ?_
        rotate_left
        · rfl
        · (intro w hSw; (try dsimp only at hSw); first | (go_simp; done) | (go_simp; with_reducible rfl))
        (try simp only [Act.put, List.getElem_toArray, List.getElem_cons_zero, List.getElem_cons_succ, List.setIfInBounds_toArray, List.set_cons_zero, List.set_cons_succ])
        refine wpAnyH_take (i := 4) (v := ?_) rfl (by kernel_rfl) (by kernel_rfl) (by kernel_rfl) (fun _ _ _ h => h) (Or.inl ⟨?_, ?_⟩) (by assumption) ?_
        rotate_left
        · rfl
        · (intro w hSw; (try dsimp only at hSw); first | (go_simp; done) | (go_simp; with_reducible rfl))
        (try simp only [Act.put, List.getElem_toArray, List.getElem_cons_zero, List.getElem_cons_succ, List.setIfInBounds_toArray, List.set_cons_zero, List.set_cons_succ])
        refine wpAnyH_take (i := 5) (v := ?_) rfl (by kernel_rfl) (by kernel_rfl) (by kernel_rfl) (fun _ _ _ h => h) (Or.inl ⟨?_, ?_⟩) (by assumption) ?_
        rotate_left
        · rfl
        · (intro w hSw; (try dsimp only at hSw); first | (go_simp; done) | (go_simp; with_reducible rfl))
        (try simp only [Act.put, List.getElem_toArray, List.getElem_cons_zero, List.getElem_cons_succ, List.setIfInBounds_toArray, List.set_cons_zero, List.set_cons_succ])
        clear hb5
        have U9 := U5.put (.int .i64 1) (.slice cv st.vars.length cvc) (.slice ct st.things.length ctc) (.int .i64 st.taken) (.slice cl st.lines.length clc) (.int .i64 st.fin)
        have E9 : Below we.heap.size we (set6 w5 cb (.int .i64 1) (.slice cv st.vars.length cvc) (.slice ct st.things.length ctc) (.int .i64 st.taken) (.slice cl st.lines.length clc) (.int .i64 st.fin)) := below_set6 E5 zc _ _ _ _ _ _
        have D9 : RunAt (set6 w5 cb (.int .i64 1) (.slice cv st.vars.length cvc) (.slice ct st.things.length ctc) (.int .i64 st.taken) (.slice cl st.lines.length clc) (.int .i64 st.fin)) st cv ct cl := HF.out _ _ _ _ _ _
        obtain ⟨⟨r0, r1, r2, r3, r4, r5⟩, rz, fz⟩ := id U5
        refine wpAnyH_ready (rs := [7]) (by kernel_rfl) (by simp) ?_
        refine AllReadyH.cons rfl (fun K hK => ?_) AllReadyH.nil
        go_simp
        refine hK.out _ _ (KS3.out _ (A0.call E9)) (fun hHeldz => ?_)
        clear hK K
        (try simp only [Act.put, List.getElem_toArray, List.getElem_cons_zero, List.getElem_cons_succ, List.setIfInBounds_toArray, List.set_cons_zero, List.set_cons_succ])
        refine wpAnyH_take (i := 8) (v := ?_) rfl (by kernel_rfl) (by kernel_rfl) (by kernel_rfl) (fun _ _ _ h => h) (Or.inl ⟨?_, ?_⟩) (by assumption) ?_
        rotate_left
        · rfl
        · (intro w hSw; (try dsimp only at hSw); first | (go_simp; done) | (go_simp; with_reducible rfl))
        (try simp only [Act.put, List.getElem_toArray, List.getElem_cons_zero, List.getElem_cons_succ, List.setIfInBounds_toArray, List.set_cons_zero, List.set_cons_succ])
        refine wpAnyH_done (by kernel_rfl) ?_ _
        first | refine hK1 _ _ (Met.intro (hJ _ _ ?_)) | refine Met.intro (hJ _ _ ?_) | refine hJ _ _ ?_
        (repeat apply Exists.intro)
        refine ⟨?_, rfl⟩
        exact ⟨cb, st, cv, cvc, ct, ctc, cl, clc, rfl, rfl, hl, h0, h1, U9, D9, R0.call E9, L0.below E9 (Nat.le_refl _), B0.trans (E9.mono B0.size)⟩
    · go_simp
      have hb3 : Below w2.heap.size w2 (w2.alloc (.cells #[.int .i64 0, .slice none 0 0, .slice none 0 0, .int .i64 0, .slice none 0 0, .int .i64 0] 46)) := by go_grown
      have U3 := R6.new w2 46 (.int .i64 0) (.slice none 0 0) (.slice none 0 0) (.int .i64 0) (.slice none 0 0) (.int .i64 0)
      have zc : we.heap.size ≤ w2.heap.size := E2.size
      have E3 := E2.trans (hb3.mono E2.size)
      refine hK.out _ _ (KS3.out _ (A0.call E3)) (fun hHeld3 => ?_)
      clear hK K
      (try simp only [Act.put, List.getElem_toArray, List.getElem_cons_zero, List.getElem_cons_succ, List.setIfInBounds_toArray, List.set_cons_zero, List.set_cons_succ])
      clear hb3
      generalize w2.alloc (.cells #[.int .i64 0, .slice none 0 0, .slice none 0 0, .int .i64 0, .slice none 0 0, .int .i64 0] 46) = w3 at *
      generalize w2.heap.size = cb at *
      refine wpAnyH_ready (rs := [0]) (by kernel_rfl) (by simp) ?_
      refine AllReadyH.cons rfl (fun K hK => ?_) AllReadyH.nil
      go_simp
      refine (small_any _).mono ?_
      rintro e w4 ⟨q4, rfl, C4, hb4⟩
      have U4 := U3.call hb4
      have E4 := E3.trans (hb4.mono E3.size)
      refine hK.out _ _ (KS3.out _ (A0.call E4)) (fun hHeld4 => ?_)
      clear hK K
      (try simp only [Act.put, List.getElem_toArray, List.getElem_cons_zero, List.getElem_cons_succ, List.setIfInBounds_toArray, List.set_cons_zero, List.set_cons_succ])
      clear hb4
      refine wpAnyH_ready (rs := [2]) (by kernel_rfl) (by simp) ?_
      refine AllReadyH.cons rfl (fun K hK => ?_) AllReadyH.nil
      go_simp
      refine (HS.out _ bv bvc bt btc bl blc w4 C4 (G0.below E4 (Nat.le_refl _)) (hT0.below E4)).mono ?_
      rintro e w5 ⟨st, cv, cvc, ct, ctc, cl, clc, fv, rfl, O5, hl, h0, h1, hb5⟩
      have U5 := U4.call hb5
      have HF := hideK (fun y0 y1 y2 y3 y4 y5 => (O5.set6 U4.2.1 y0 y1 y2 y3 y4 y5).runAt)
      have E5 := E4.trans (hb5.mono E4.size)
      refine hK.out _ _ (KS3.out _ (A0.call E5)) (fun hHeld5 => ?_)
      clear hK K
      (try simp only [Act.put, List.getElem_toArray, List.getElem_cons_zero, List.getElem_cons_succ, List.setIfInBounds_toArray, List.set_cons_zero, List.set_cons_succ])
      refine wpAnyH_take (i := 3) (v := ?_) rfl (by kernel_rfl) (by kernel_rfl) (by kernel_rfl) (fun _ _ _ h => h) (Or.inl ⟨?_, ?_⟩) (by assumption) ?_
      rotate_left
      · rfl
      · (intro w hSw; (try dsimp only at hSw); first | (go_simp; done) | (go_simp; with_reducible rfl))
      (try simp only [Act.put, List.getElem_toArray, List.getElem_cons_zero, List.getElem_cons_succ, List.setIfInBounds_toArray, List.set_cons_zero, List.set_cons_succ])
      refine wpAnyH_take (i := 4) (v := ?_) rfl (by kernel_rfl) (by kernel_rfl) (by kernel_rfl) (fun _ _ _ h => h) (Or.inl ⟨?_, ?_⟩) (by assumption) ?_
      rotate_left
      · rfl
      · (intro w hSw; (try dsimp only at hSw); first | (go_simp; done) | (go_simp; with_reducible rfl))
      (try simp only [Act.put, List.getElem_toArray, List.getElem_cons_zero, List.getElem_cons_succ, List.setIfInBounds_toArray, List.set_cons_zero, List.set_cons_succ])
      refine wpAnyH_take (i := 5) (v := ?_) rfl (by kernel_rfl) (by kernel_rfl) (by kernel_rfl) (fun _ _ _ h => h) (Or.inl ⟨?_, ?_⟩) (by assumption) ?_
      rotate_left
      · rfl
      · (intro w hSw; (try dsimp only at hSw); first | (go_simp; done) | (go_simp; with_reducible rfl))
      (try simp only [Act.put, List.getElem_toArray, List.getElem_cons_zero, List.getElem_cons_succ, List.setIfInBounds_toArray, List.set_cons_zero, List.set_cons_succ])
      clear hb5
      have U9 := U5.put (.int .i64 1) (.slice cv st.vars.length cvc) (.slice ct st.things.length ctc) (.int .i64 st.taken) (.slice cl st.lines.length clc) (.int .i64 st.fin)
      have E9 : Below we.heap.size we (set6 w5 cb (.int .i64 1) (.slice cv st.vars.length cvc) (.slice ct st.things.length ctc) (.int .i64 st.taken) (.slice cl st.lines.length clc) (.int .i64 st.fin)) := below_set6 E5 zc _ _ _ _ _ _
      have D9 : RunAt (set6 w5 cb (.int .i64 1) (.slice cv st.vars.length cvc) (.slice ct st.things.length ctc) (.int .i64 st.taken) (.slice cl st.lines.length clc) (.int .i64 st.fin)) st cv ct cl := HF.out _ _ _ _ _ _
      obtain ⟨⟨r0, r1, r2, r3, r4, r5⟩, rz, fz⟩ := id U5
      refine wpAnyH_ready (rs := [7]) (by kernel_rfl) (by simp) ?_
      refine AllReadyH.cons rfl (fun K hK => ?_) AllReadyH.nil
      go_simp
      refine hK.out _ _ (KS3.out _ (A0.call E9)) (fun hHeldz => ?_)
      clear hK K
      (try simp only [Act.put, List.getElem_toArray, List.getElem_cons_zero, List.getElem_cons_succ, List.setIfInBounds_toArray, List.set_cons_zero, List.set_cons_succ])
      refine wpAnyH_take (i := 8) (v := ?_) rfl (by kernel_rfl) (by kernel_rfl) (by kernel_rfl) (fun _ _ _ h => h) (Or.inl ⟨?_, ?_⟩) (by assumption) ?_
      rotate_left
      · rfl
      · (intro w hSw; (try dsimp only at hSw); first | (go_simp; done) | (go_simp; with_reducible rfl))
      (try simp only [Act.put, List.getElem_toArray, List.getElem_cons_zero, List.getElem_cons_succ, List.setIfInBounds_toArray, List.set_cons_zero, List.set_cons_succ])
      refine wpAnyH_done (by kernel_rfl) ?_ _
      first | refine hK1 _ _ (Met.intro (hJ _ _ ?_)) | refine Met.intro (hJ _ _ ?_) | refine hJ _ _ ?_
      (repeat apply Exists.intro)
      refine ⟨?_, rfl⟩
      exact ⟨cb, st, cv, cvc, ct, ctc, cl, clc, rfl, rfl, hl, h0, h1, U9, D9, R0.call E9, L0.below E9 (Nat.le_refl _), B0.trans (E9.mono B0.size)⟩
  case rest =>
    obtain ⟨cb, st, cv, cvc, ct, ctc, cl, clc, rfl, rfl, hl, h0, h1, U1, D1, R1, L1, B1⟩ := hcut
    clear A0 R0 L0 G0 B0 hT0 HS KS3
    rcases L1 with L1 | ⟨lb, lo, rfl, zl, L1⟩
    · simp at L1
    have L2 := L1 0 (by simp)
    clear L1
    simp only [Nat.add_zero, List.getElem_cons_zero] at L2
    obtain ⟨⟨s0, s1, s2, s3, s4, s5⟩, sz, -⟩ := id R1
    have KS4 : Hid (∀ wx, Below wc.heap.size wc wx → wx.cell? ⟨rb, 5, none⟩ = some (.int .i64 1) ∧ wx.cell? ⟨rb, 4, none⟩ = some (.slice (some ⟨lb, lo, none⟩) 1 rlc) ∧ wx.cell? ⟨lb, lo, none⟩ = some (.string ⟨#[53]⟩) ∧ wx.cell? ⟨cb, 0, none⟩ = some (.int .i64 1) ∧ wx.cell? ⟨cb, 1, none⟩ = some (.slice cv st.vars.length cvc) ∧ wx.cell? ⟨cb, 2, none⟩ = some (.slice ct st.things.length ctc) ∧ wx.cell? ⟨cb, 3, none⟩ = some (.int .i64 st.taken) ∧ wx.cell? ⟨cb, 4, none⟩ = some (.slice cl st.lines.length clc) ∧ wx.cell? ⟨cb, 5, none⟩ = some (.int .i64 st.fin)) := fun wx hx => ⟨by rw [hx.cell (by simp only; exact sz)]; exact s5, by rw [hx.cell (by simp only; exact sz)]; exact s4, by rw [hx.cell (by simp only; exact zl)]; exact L2, (U1.call hx).1⟩
    clear s0 s1 s2 s3 s4 s5 sz zl L2 R1 U1
    have D0 := D1
    clear D1
    go_wp2
    have E2 : Below wc.heap.size wc wc.drew := (Below.refl _ _).drew
    refine wp_region_held_drew (S := fun wx => wx.cell? ⟨rb, 5, none⟩ = some (.int .i64 1) ∧ wx.cell? ⟨rb, 4, none⟩ = some (.slice (some ⟨lb, lo, none⟩) 1 rlc) ∧ wx.cell? ⟨lb, lo, none⟩ = some (.string ⟨#[53]⟩) ∧ wx.cell? ⟨cb, 0, none⟩ = some (.int .i64 1) ∧ wx.cell? ⟨cb, 1, none⟩ = some (.slice cv st.vars.length cvc) ∧ wx.cell? ⟨cb, 2, none⟩ = some (.slice ct st.things.length ctc) ∧ wx.cell? ⟨cb, 3, none⟩ = some (.int .i64 st.taken) ∧ wx.cell? ⟨cb, 4, none⟩ = some (.slice cl st.lines.length clc) ∧ wx.cell? ⟨cb, 5, none⟩ = some (.int .i64 st.fin)) (by kernel_rfl) (KS4.out _ E2) (fun hHeld => ?_)
    generalize wc.drew = w2 at *
    refine wpAnyH_take (i := 0) (v := ?_) rfl (by kernel_rfl) (by kernel_rfl) (by kernel_rfl) (fun _ _ _ h => h) (Or.inl ⟨?_, ?_⟩) (by assumption) ?_
    rotate_left
    · rfl
    · (intro w hSw; (try dsimp only at hSw); first | (go_simp; done) | (go_simp; with_reducible rfl))
    (try simp only [Act.put, List.getElem_toArray, List.getElem_cons_zero, List.getElem_cons_succ, List.setIfInBounds_toArray, List.set_cons_zero, List.set_cons_succ])
    refine wpAnyH_take (i := 1) (v := ?_) rfl (by kernel_rfl) (by kernel_rfl) (by kernel_rfl) (fun _ _ _ h => h) (Or.inl ⟨?_, ?_⟩) (by assumption) ?_
    rotate_left
    · rfl
    · (intro w hSw; (try dsimp only at hSw); first | (go_simp; done) | (go_simp; with_reducible rfl))
    (try simp only [Act.put, List.getElem_toArray, List.getElem_cons_zero, List.getElem_cons_succ, List.setIfInBounds_toArray, List.set_cons_zero, List.set_cons_succ])
    refine wpAnyH_take (i := 2) (v := ?_) rfl (by kernel_rfl) (by kernel_rfl) (by kernel_rfl) (fun _ _ _ h => h) (Or.inl ⟨?_, ?_⟩) (by assumption) ?_
    rotate_left
    · rfl
    · (intro w hSw; (try dsimp only at hSw); first | (go_simp; done) | (go_simp; with_reducible rfl))
    (try simp only [Act.put, List.getElem_toArray, List.getElem_cons_zero, List.getElem_cons_succ, List.setIfInBounds_toArray, List.set_cons_zero, List.set_cons_succ])
    refine wpAnyH_take (i := 3) (v := ?_) rfl (by kernel_rfl) (by kernel_rfl) (by kernel_rfl) (fun _ _ _ h => h) (Or.inl ⟨?_, ?_⟩) (by assumption) ?_
    rotate_left
    · rfl
    · (intro w hSw; (try dsimp only at hSw); first | (go_simp; done) | (go_simp; with_reducible rfl))
    (try simp only [Act.put, List.getElem_toArray, List.getElem_cons_zero, List.getElem_cons_succ, List.setIfInBounds_toArray, List.set_cons_zero, List.set_cons_succ])
    refine wpAnyH_take (i := 4) (v := ?_) rfl (by kernel_rfl) (by kernel_rfl) (by kernel_rfl) (fun _ _ _ h => h) (Or.inl ⟨?_, ?_⟩) (by assumption) ?_
    rotate_left
    · rfl
    · (intro w hSw; (try dsimp only at hSw); first | (go_simp; done) | (go_simp; with_reducible rfl))
    (try simp only [Act.put, List.getElem_toArray, List.getElem_cons_zero, List.getElem_cons_succ, List.setIfInBounds_toArray, List.set_cons_zero, List.set_cons_succ])
    refine wpAnyH_take (i := 5) (v := ?_) rfl (by kernel_rfl) (by kernel_rfl) (by kernel_rfl) (fun _ _ _ h => h) (Or.inl ⟨?_, ?_⟩) (by assumption) ?_
    rotate_left
    · rfl
    · (intro w hSw; (try dsimp only at hSw); first | (go_simp; done) | (go_simp; with_reducible rfl))
    (try simp only [Act.put, List.getElem_toArray, List.getElem_cons_zero, List.getElem_cons_succ, List.setIfInBounds_toArray, List.set_cons_zero, List.set_cons_succ])
    refine wpAnyH_take (i := 6) (v := ?_) rfl (by kernel_rfl) (by kernel_rfl) (by kernel_rfl) (fun _ _ _ h => h) (Or.inl ⟨?_, ?_⟩) (by assumption) ?_
    rotate_left
    · rfl
    · (intro w hSw; (try dsimp only at hSw); first | (go_simp; done) | (go_simp; with_reducible rfl))
    (try simp only [Act.put, List.getElem_toArray, List.getElem_cons_zero, List.getElem_cons_succ, List.setIfInBounds_toArray, List.set_cons_zero, List.set_cons_succ])
    refine wpAnyH_take (i := 7) (v := ?_) rfl (by kernel_rfl) (by kernel_rfl) (by kernel_rfl) (fun _ _ _ h => h) (Or.inl ⟨?_, ?_⟩) (by assumption) ?_
    rotate_left
    · rfl
    · (intro w hSw; (try dsimp only at hSw); first | (go_simp; done) | (go_simp; with_reducible rfl))
    (try simp only [Act.put, List.getElem_toArray, List.getElem_cons_zero, List.getElem_cons_succ, List.setIfInBounds_toArray, List.set_cons_zero, List.set_cons_succ])
    refine wpAnyH_take (i := 8) (v := ?_) rfl (by kernel_rfl) (by kernel_rfl) (by kernel_rfl) (fun _ _ _ h => h) (Or.inl ⟨?_, ?_⟩) (by assumption) ?_
    rotate_left
    · rfl
    · (intro w hSw; (try dsimp only at hSw); first | (go_simp; done) | (go_simp; with_reducible rfl))
    (try simp only [Act.put, List.getElem_toArray, List.getElem_cons_zero, List.getElem_cons_succ, List.setIfInBounds_toArray, List.set_cons_zero, List.set_cons_succ])
    refine wpAnyH_take (i := 9) (v := ?_) rfl (by kernel_rfl) (by kernel_rfl) (by kernel_rfl) (fun _ _ _ h => h) (Or.inl ⟨?_, ?_⟩) (by assumption) ?_
    rotate_left
    · rfl
    · (intro w hSw; (try dsimp only at hSw); first | (go_simp; done) | (go_simp; with_reducible rfl))
    (try simp only [Act.put, List.getElem_toArray, List.getElem_cons_zero, List.getElem_cons_succ, List.setIfInBounds_toArray, List.set_cons_zero, List.set_cons_succ])
    refine wpAnyH_take (i := 10) (v := ?_) rfl (by kernel_rfl) (by kernel_rfl) (by kernel_rfl) (fun _ _ _ h => h) (Or.inl ⟨?_, ?_⟩) (by assumption) ?_
    rotate_left
    · rfl
    · (intro w hSw; (try dsimp only at hSw); first | (go_simp; done) | (go_simp; with_reducible rfl))
    (try simp only [Act.put, List.getElem_toArray, List.getElem_cons_zero, List.getElem_cons_succ, List.setIfInBounds_toArray, List.set_cons_zero, List.set_cons_succ])
    refine wpAnyH_take (i := 11) (v := ?_) rfl (by kernel_rfl) (by kernel_rfl) (by kernel_rfl) (fun _ _ _ h => h) (Or.inl ⟨?_, ?_⟩) (by assumption) ?_
    rotate_left
    · rfl
    · (intro w hSw; (try dsimp only at hSw); first | (go_simp; done) | (go_simp; with_reducible rfl))
    (try simp only [Act.put, List.getElem_toArray, List.getElem_cons_zero, List.getElem_cons_succ, List.setIfInBounds_toArray, List.set_cons_zero, List.set_cons_succ])
    refine wpAnyH_take (i := 12) (v := ?_) rfl (by kernel_rfl) (by kernel_rfl) (by kernel_rfl) (fun _ _ _ h => h) (Or.inl ⟨?_, ?_⟩) (by assumption) ?_
    rotate_left
    · rfl
    · (intro w hSw; (try dsimp only at hSw); first | (go_simp; done) | (go_simp; with_reducible rfl))
    (try simp only [Act.put, List.getElem_toArray, List.getElem_cons_zero, List.getElem_cons_succ, List.setIfInBounds_toArray, List.set_cons_zero, List.set_cons_succ])
    refine wpAnyH_take (i := 13) (v := ?_) rfl (by kernel_rfl) (by kernel_rfl) (by kernel_rfl) (fun _ _ _ h => h) (Or.inl ⟨?_, ?_⟩) (by assumption) ?_
    rotate_left
    · rfl
    · (intro w hSw; (try dsimp only at hSw); first | (go_simp; done) | (go_simp; with_reducible rfl))
    (try simp only [Act.put, List.getElem_toArray, List.getElem_cons_zero, List.getElem_cons_succ, List.setIfInBounds_toArray, List.set_cons_zero, List.set_cons_succ])
    refine wpAnyH_take (i := 14) (v := ?_) rfl (by kernel_rfl) (by kernel_rfl) (by kernel_rfl) (fun _ _ _ h => h) (Or.inl ⟨?_, ?_⟩) (by assumption) ?_
    rotate_left
    · rfl
    · (intro w hSw; (try dsimp only at hSw); first | (go_simp; done) | (go_simp; with_reducible rfl))
    (try simp only [Act.put, List.getElem_toArray, List.getElem_cons_zero, List.getElem_cons_succ, List.setIfInBounds_toArray, List.set_cons_zero, List.set_cons_succ])
    refine wpAnyH_take (i := 15) (v := ?_) rfl (by kernel_rfl) (by kernel_rfl) (by kernel_rfl) (fun _ _ _ h => h) (Or.inl ⟨?_, ?_⟩) (by assumption) ?_
    rotate_left
    · rfl
    · (intro w hSw; (try dsimp only at hSw); first | (go_simp; done) | (go_simp; with_reducible rfl))
    (try simp only [Act.put, List.getElem_toArray, List.getElem_cons_zero, List.getElem_cons_succ, List.setIfInBounds_toArray, List.set_cons_zero, List.set_cons_succ])
    refine wpAnyH_take (i := 16) (v := ?_) rfl (by kernel_rfl) (by kernel_rfl) (by kernel_rfl) (fun _ _ _ h => h) (Or.inl ⟨?_, ?_⟩) (by assumption) ?_
    rotate_left
    · rfl
    · (intro w hSw; (try dsimp only at hSw); first | (go_simp; done) | (go_simp; with_reducible rfl))
    (try simp only [Act.put, List.getElem_toArray, List.getElem_cons_zero, List.getElem_cons_succ, List.setIfInBounds_toArray, List.set_cons_zero, List.set_cons_succ])
    refine wpAnyH_take (i := 17) (v := ?_) rfl (by kernel_rfl) (by kernel_rfl) (by kernel_rfl) (fun _ _ _ h => h) (Or.inl ⟨?_, ?_⟩) (by assumption) ?_
    rotate_left
    · rfl
    · (intro w hSw; (try dsimp only at hSw); first | (go_simp; done) | (go_simp; with_reducible rfl))
    (try simp only [Act.put, List.getElem_toArray, List.getElem_cons_zero, List.getElem_cons_succ, List.setIfInBounds_toArray, List.set_cons_zero, List.set_cons_succ])
    refine wpAnyH_take (i := 18) (v := ?_) rfl (by kernel_rfl) (by kernel_rfl) (by kernel_rfl) (fun _ _ _ h => h) (Or.inl ⟨?_, ?_⟩) (by assumption) ?_
    rotate_left
    · rfl
    · (intro w hSw; (try dsimp only at hSw); first | (go_simp; done) | (go_simp; with_reducible rfl))
    (try simp only [Act.put, List.getElem_toArray, List.getElem_cons_zero, List.getElem_cons_succ, List.setIfInBounds_toArray, List.set_cons_zero, List.set_cons_succ])
    refine wpAnyH_take (i := 19) (v := ?_) rfl (by kernel_rfl) (by kernel_rfl) (by kernel_rfl) (fun _ _ _ h => h) (Or.inl ⟨?_, ?_⟩) (by assumption) ?_
    rotate_left
    · rfl
    · (intro w hSw; (try dsimp only at hSw); first | (go_simp; done) | (go_simp; with_reducible rfl))
    (try simp only [Act.put, List.getElem_toArray, List.getElem_cons_zero, List.getElem_cons_succ, List.setIfInBounds_toArray, List.set_cons_zero, List.set_cons_succ])
    refine wpAnyH_take (i := 20) (v := ?_) rfl (by kernel_rfl) (by kernel_rfl) (by kernel_rfl) (fun _ _ _ h => h) (Or.inl ⟨?_, ?_⟩) (by assumption) ?_
    rotate_left
    · rfl
    · (intro w hSw; (try dsimp only at hSw); first | (go_simp; done) | (go_simp; with_reducible rfl))
    (try simp only [Act.put, List.getElem_toArray, List.getElem_cons_zero, List.getElem_cons_succ, List.setIfInBounds_toArray, List.set_cons_zero, List.set_cons_succ])
    refine wpAnyH_take (i := 21) (v := ?_) rfl (by kernel_rfl) (by kernel_rfl) (by kernel_rfl) (fun _ _ _ h => h) (Or.inl ⟨?_, ?_⟩) (by assumption) ?_
    rotate_left
    · rfl
    · (intro w hSw; (try dsimp only at hSw); first | (go_simp; done) | (go_simp; with_reducible rfl))
    (try simp only [Act.put, List.getElem_toArray, List.getElem_cons_zero, List.getElem_cons_succ, List.setIfInBounds_toArray, List.set_cons_zero, List.set_cons_succ])
    refine wpAnyH_take (i := 22) (v := ?_) rfl (by kernel_rfl) (by kernel_rfl) (by kernel_rfl) (fun _ _ _ h => h) (Or.inl ⟨?_, ?_⟩) (by assumption) ?_
    rotate_left
    · rfl
    · (intro w hSw; (try dsimp only at hSw); first | (go_simp; done) | (go_simp; with_reducible rfl))
    (try simp only [Act.put, List.getElem_toArray, List.getElem_cons_zero, List.getElem_cons_succ, List.setIfInBounds_toArray, List.set_cons_zero, List.set_cons_succ])
    refine wpAnyH_take (i := 23) (v := ?_) rfl (by kernel_rfl) (by kernel_rfl) (by kernel_rfl) (fun _ _ _ h => h) (Or.inl ⟨?_, ?_⟩) (by assumption) ?_
    rotate_left
    · rfl
    · (intro w hSw; (try dsimp only at hSw); first | (go_simp; done) | (go_simp; with_reducible rfl))
    (try simp only [Act.put, List.getElem_toArray, List.getElem_cons_zero, List.getElem_cons_succ, List.setIfInBounds_toArray, List.set_cons_zero, List.set_cons_succ])
    refine wpAnyH_take (i := 24) (v := ?_) rfl (by kernel_rfl) (by kernel_rfl) (by kernel_rfl) (fun _ _ _ h => h) (Or.inl ⟨?_, ?_⟩) (by assumption) ?_
    rotate_left
    · rfl
    · (intro w hSw; (try dsimp only at hSw); first | (go_simp; done) | (go_simp; with_reducible rfl))
    (try simp only [Act.put, List.getElem_toArray, List.getElem_cons_zero, List.getElem_cons_succ, List.setIfInBounds_toArray, List.set_cons_zero, List.set_cons_succ])
    refine wpAnyH_take (i := 25) (v := ?_) rfl (by kernel_rfl) (by kernel_rfl) (by kernel_rfl) (fun _ _ _ h => h) (Or.inl ⟨?_, ?_⟩) (by assumption) ?_
    rotate_left
    · rfl
    · (intro w hSw; (try dsimp only at hSw); first | (go_simp; done) | (go_simp; with_reducible rfl))
    (try simp only [Act.put, List.getElem_toArray, List.getElem_cons_zero, List.getElem_cons_succ, List.setIfInBounds_toArray, List.set_cons_zero, List.set_cons_succ])
    refine wpAnyH_take (i := 26) (v := ?_) rfl (by kernel_rfl) (by kernel_rfl) (by kernel_rfl) (fun _ _ _ h => h) (Or.inl ⟨?_, ?_⟩) (by assumption) ?_
    rotate_left
    · rfl
    · (intro w hSw; (try dsimp only at hSw); first | (go_simp; done) | (go_simp; with_reducible rfl))
    (try simp only [Act.put, List.getElem_toArray, List.getElem_cons_zero, List.getElem_cons_succ, List.setIfInBounds_toArray, List.set_cons_zero, List.set_cons_succ])
    refine wpAnyH_take (i := 27) (v := ?_) rfl (by kernel_rfl) (by kernel_rfl) (by kernel_rfl) (fun _ _ _ h => h) (Or.inl ⟨?_, ?_⟩) (by assumption) ?_
    rotate_left
    · rfl
    · (intro w hSw; (try dsimp only at hSw); first | (go_simp; done) | (go_simp; with_reducible rfl))
    (try simp only [Act.put, List.getElem_toArray, List.getElem_cons_zero, List.getElem_cons_succ, List.setIfInBounds_toArray, List.set_cons_zero, List.set_cons_succ])
    refine wpAnyH_take (i := 28) (v := ?_) rfl (by kernel_rfl) (by kernel_rfl) (by kernel_rfl) (fun _ _ _ h => h) (Or.inl ⟨?_, ?_⟩) (by assumption) ?_
    rotate_left
    · rfl
    · (intro w hSw; (try dsimp only at hSw); first | (go_simp; done) | (go_simp; with_reducible rfl))
    (try simp only [Act.put, List.getElem_toArray, List.getElem_cons_zero, List.getElem_cons_succ, List.setIfInBounds_toArray, List.set_cons_zero, List.set_cons_succ])
    refine wpAnyH_take (i := 29) (v := ?_) rfl (by kernel_rfl) (by kernel_rfl) (by kernel_rfl) (fun _ _ _ h => h) (Or.inl ⟨?_, ?_⟩) (by assumption) ?_
    rotate_left
    · rfl
    · (intro w hSw; (try dsimp only at hSw); first | (go_simp; done) | (go_simp; with_reducible rfl))
    (try simp only [Act.put, List.getElem_toArray, List.getElem_cons_zero, List.getElem_cons_succ, List.setIfInBounds_toArray, List.set_cons_zero, List.set_cons_succ])
    refine wpAnyH_take (i := 30) (v := ?_) rfl (by kernel_rfl) (by kernel_rfl) (by kernel_rfl) (fun _ _ _ h => h) (Or.inl ⟨?_, ?_⟩) (by assumption) ?_
    rotate_left
    · rfl
    · (intro w hSw; (try dsimp only at hSw); first | (go_simp; done) | (go_simp; with_reducible rfl))
    (try simp only [Act.put, List.getElem_toArray, List.getElem_cons_zero, List.getElem_cons_succ, List.setIfInBounds_toArray, List.set_cons_zero, List.set_cons_succ])
    refine wpAnyH_take (i := 31) (v := ?_) rfl (by kernel_rfl) (by kernel_rfl) (by kernel_rfl) (fun _ _ _ h => h) (Or.inl ⟨?_, ?_⟩) (by assumption) ?_
    rotate_left
    · rfl
    · (intro w hSw; (try dsimp only at hSw); first | (go_simp; done) | (go_simp; with_reducible rfl))
    (try simp only [Act.put, List.getElem_toArray, List.getElem_cons_zero, List.getElem_cons_succ, List.setIfInBounds_toArray, List.set_cons_zero, List.set_cons_succ])
    refine wpAnyH_take (i := 32) (v := ?_) rfl (by kernel_rfl) (by kernel_rfl) (by kernel_rfl) (fun _ _ _ h => h) (Or.inl ⟨?_, ?_⟩) (by assumption) ?_
    rotate_left
    · rfl
    · (intro w hSw; (try dsimp only at hSw); first | (go_simp; done) | (go_simp; with_reducible rfl))
    (try simp only [Act.put, List.getElem_toArray, List.getElem_cons_zero, List.getElem_cons_succ, List.setIfInBounds_toArray, List.set_cons_zero, List.set_cons_succ])
    refine wpAnyH_take (i := 33) (v := ?_) rfl (by kernel_rfl) (by kernel_rfl) (by kernel_rfl) (fun _ _ _ h => h) (Or.inl ⟨?_, ?_⟩) (by assumption) ?_
    rotate_left
    · rfl
    · (intro w hSw; (try dsimp only at hSw); first | (go_simp; done) | (go_simp; with_reducible rfl))
    (try simp only [Act.put, List.getElem_toArray, List.getElem_cons_zero, List.getElem_cons_succ, List.setIfInBounds_toArray, List.set_cons_zero, List.set_cons_succ])
    refine wpAnyH_take (i := 34) (v := ?_) rfl (by kernel_rfl) (by kernel_rfl) (by kernel_rfl) (fun _ _ _ h => h) (Or.inl ⟨?_, ?_⟩) (by assumption) ?_
    rotate_left
    · rfl
    · (intro w hSw; (try dsimp only at hSw); first | (go_simp; done) | (go_simp; with_reducible rfl))
    (try simp only [Act.put, List.getElem_toArray, List.getElem_cons_zero, List.getElem_cons_succ, List.setIfInBounds_toArray, List.set_cons_zero, List.set_cons_succ])
    refine wpAnyH_take (i := 35) (v := ?_) rfl (by kernel_rfl) (by kernel_rfl) (by kernel_rfl) (fun _ _ _ h => h) (Or.inl ⟨?_, ?_⟩) (by assumption) ?_
    rotate_left
    · rfl
    · (intro w hSw; (try dsimp only at hSw); first | (go_simp; done) | (go_simp; with_reducible rfl))
    (try simp only [Act.put, List.getElem_toArray, List.getElem_cons_zero, List.getElem_cons_succ, List.setIfInBounds_toArray, List.set_cons_zero, List.set_cons_succ])
    refine wpAnyH_take (i := 36) (v := ?_) rfl (by kernel_rfl) (by kernel_rfl) (by kernel_rfl) (fun _ _ _ h => h) (Or.inl ⟨?_, ?_⟩) (by assumption) ?_
    rotate_left
    · rfl
    · (intro w hSw; (try dsimp only at hSw); first | (go_simp; done) | (go_simp; with_reducible rfl))
    (try simp only [Act.put, List.getElem_toArray, List.getElem_cons_zero, List.getElem_cons_succ, List.setIfInBounds_toArray, List.set_cons_zero, List.set_cons_succ])
    refine wpAnyH_take (i := 37) (v := ?_) rfl (by kernel_rfl) (by kernel_rfl) (by kernel_rfl) (fun _ _ _ h => h) (Or.inl ⟨?_, ?_⟩) (by assumption) ?_
    rotate_left
    · rfl
    · (intro w hSw; (try dsimp only at hSw); first | (go_simp; done) | (go_simp; with_reducible rfl))
    (try simp only [Act.put, List.getElem_toArray, List.getElem_cons_zero, List.getElem_cons_succ, List.setIfInBounds_toArray, List.set_cons_zero, List.set_cons_succ])
    refine wpAnyH_take (i := 39) (v := ?_) rfl (by kernel_rfl) (by kernel_rfl) (by kernel_rfl) (fun _ _ _ h => h) (Or.inl ⟨?_, ?_⟩) (by assumption) ?_
    rotate_left
    · rfl
    · (intro w hSw; (try dsimp only at hSw); first | (go_simp; done) | (go_simp; with_reducible rfl))
    (try simp only [Act.put, List.getElem_toArray, List.getElem_cons_zero, List.getElem_cons_succ, List.setIfInBounds_toArray, List.set_cons_zero, List.set_cons_succ])
    refine wpAnyH_ready (rs := [38]) (by kernel_rfl) (by simp) ?_
    refine AllReadyH.cons rfl (fun K hK => ?_) AllReadyH.nil
    go_simp
    refine (small_any _).mono ?_
    rintro e w3 ⟨q3, rfl, C3, hb3⟩
    have E3 := E2.trans (hb3.mono E2.size)
    refine hK.out _ _ (KS4.out _ E3) (fun hHeld3 => ?_)
    clear hK K
    (try simp only [Act.put, List.getElem_toArray, List.getElem_cons_zero, List.getElem_cons_succ, List.setIfInBounds_toArray, List.set_cons_zero, List.set_cons_succ])
    refine wpAnyH_ready (rs := [40]) (by kernel_rfl) (by simp) ?_
    refine AllReadyH.cons rfl (fun K hK => ?_) AllReadyH.nil
    go_simp
    refine (HC.out _ st cv cvc ct ctc cl clc w3 C3 (D0.below E3 (Nat.le_refl _)) hl.out h0.out h1.out).mono ?_
    rintro e w4 ⟨rfl, hb4⟩
    have E4 := E3.trans (hb4.mono E3.size)
    refine hK.out _ _ (KS4.out _ E4) (fun hHeld4 => ?_)
    clear hK K
    (try simp only [Act.put, List.getElem_toArray, List.getElem_cons_zero, List.getElem_cons_succ, List.setIfInBounds_toArray, List.set_cons_zero, List.set_cons_succ])
    refine wpAnyH_take (i := 41) (v := ?_) rfl (by kernel_rfl) (by kernel_rfl) (by kernel_rfl) (fun _ _ _ h => h) (Or.inl ⟨?_, ?_⟩) (by assumption) ?_
    rotate_left
    · rfl
    · (intro w hSw; (try dsimp only at hSw); first | (go_simp; done) | (go_simp; with_reducible rfl))
    (try simp only [Act.put, List.getElem_toArray, List.getElem_cons_zero, List.getElem_cons_succ, List.setIfInBounds_toArray, List.set_cons_zero, List.set_cons_succ])
    refine wpAnyH_take (i := 42) (v := ?_) rfl (by kernel_rfl) (by kernel_rfl) (by kernel_rfl) (fun _ _ _ h => h) (Or.inl ⟨?_, ?_⟩) (by assumption) ?_
    rotate_left
    · rfl
    · (intro w hSw; (try dsimp only at hSw); first | (go_simp; done) | (go_simp; with_reducible rfl))
    (try simp only [Act.put, List.getElem_toArray, List.getElem_cons_zero, List.getElem_cons_succ, List.setIfInBounds_toArray, List.set_cons_zero, List.set_cons_succ])
    refine wpAnyH_take (i := 43) (v := ?_) rfl (by kernel_rfl) (by kernel_rfl) (by kernel_rfl) (fun _ _ _ h => h) (Or.inl ⟨?_, ?_⟩) (by assumption) ?_
    rotate_left
    · rfl
    · (intro w hSw; (try dsimp only at hSw); first | (go_simp; done) | (go_simp; with_reducible rfl))
    (try simp only [Act.put, List.getElem_toArray, List.getElem_cons_zero, List.getElem_cons_succ, List.setIfInBounds_toArray, List.set_cons_zero, List.set_cons_succ])
    refine wpAnyH_done (by kernel_rfl) ?_ _
    go_wp2
    refine bodyPost_ret (v := .bool true) (by kernel_rfl) rfl ⟨rfl, B1.trans (E4.mono B1.size)⟩
end Go.Proofs.YtmapdpcfanecdaaDoor

namespace Go.Proofs.YtmapdpcfanecdaaDoor
set_option linter.unusedVariables false
set_option linter.unusedSimpArgs false
open Go.ChangeShapes Go.WideShapes Go.ChangeAt Go.RowKit
namespace runSteps

set_option maxRecDepth 100000 in
theorem contract (H : Type) (enc : TypeId × Value → H) (W : World) (base : Nat) (args : Array Value) (ds gs : List (DataW H)) (before : List MemPlace)
    (hval : ∀ (j : Nat) t v, Tryd.f6.params[j]? = some t → args[j]? = some v → Value.okWide Tryd.prog W .any base t v)
    (hW : DataW.Whole enc Tryd.prog Tryd.f6.params.toList Rows.runStepsSpec.vars false W args.toList ds gs before) (hL : laidMetH Tryd.prog Rows.runStepsRow.laid W) (hS : W.ShapedOpen Tryd.prog) (hz : (DataW.weightsEach Tryd.prog (Tryd.f6.params.toList ++ (OpenSpec.ofChange Rows.runStepsSpec).bare.plain.varTypes Tryd.prog) (ds ++ gs)).all (· ≤ reachBytes) = true) :
    Calls Tryd.prog 6 args W fun e W' => ∃ v, e = .returned v ∧ Rows.runStepsSpec.post enc Tryd.prog Tryd.f6 false true false false W args v W' := by
  have hlt := hW.lt
  have hW' := hW
  obtain ⟨p, q, hA0, hV, rfl, hfz, hnd⟩ := hW
  have hA : DataW.TrodAll enc Tryd.prog W 0 (fun _ => true) true Tryd.f6.params.toList args.toList ds p := hA0
  rw [Tryd.params6] at hA hval
  obtain ⟨v0, vs0, d0, ds0, p0, q0, e0, rfl, rfl, h0, hr0⟩ := trodAll_cons hA
  obtain ⟨v1, vs1, d1, ds1, p1, q1, e1, rfl, rfl, h1, hr1⟩ := trodAll_cons hr0
  obtain ⟨v2, vs2, d2, ds2, p2, q2, e2, rfl, rfl, h2, hr2⟩ := trodAll_cons hr1
  obtain ⟨rfl, rfl, rfl⟩ := trodAll_nil hr2
  subst e1
  subst e2
  have ea : args = #[v0, v1, v2] := by cases args; simp_all
  subst ea
  obtain ⟨rfl, rfl⟩ := trodVars_none hV
  obtain ⟨V, F, s, cap, c, rfl, fV, fF, hcap, hmax, hcode, hfit⟩ := open_program (hval 0 24 v0 rfl rfl) h0
  obtain ⟨st, vs, vc, ts, tc, ls, lc, rfl, hlen, hrun, hwt⟩ := open_run (hval 1 46 v1 rfl rfl) h1
  have hln : (st.lines.length + 1) * 16 ≤ 140737488355328 := by
    by_cases h0 : st.lines = []
    · rw [h0]; simp
    · obtain ⟨m, hm, hw⟩ := hwt h0
      have h1 := List.all_eq_true.1 hz _ (DataW.weights_mem_each (j := 1) rfl rfl _ hw)
      have h2 : m * 16 ≤ reachBytes := by simpa using h1
      have h3 := reachBytes_lt
      omega
  obtain ⟨is, ic, ins, rfl, hic, him, hI⟩ := open_ints (hval 2 28 v2 rfl rfl) h2
  have hL' : laidMet Tryd.prog (("math/bits.deBruijn32tab", Rows.laid_math_bits_deBruijn32tab) :: ("math/bits.deBruijn64tab", Rows.laid_math_bits_deBruijn64tab) :: ("internal/strconv.uint64pow10", Rows.laid_internal_strconv_uint64pow10) :: []) W := hL
  have hT := tab_of hL'.tail.tail
  refine (runSteps_any V F s c cap st vs vc ts tc ls lc is ic ins W hcode hlen hrun hI hT hln (fun wx hx => runBegun_any wx hx)).mono fun e W' ⟨he, hb⟩ => ?_
  subst he
  refine ⟨_, rfl, _, _, _, [], p0 ++ (p1 ++ (p2 ++ [])), [], hW', ?_, ?_, ?_, hb.frame _, fun h => by cases h⟩
  · exact trodAll_mk1 (shut_bool Tryd.underlying4 _)
  · rw [Tryd.params6]
    exact trodAll_cons_mk (Below.trod (by kernel_rfl) (by kernel_rfl) (of_decide_eq_true (by kernel_rfl)) h0 hb (fun x hx => hlt x (by simp [hx]))) (trodAll_cons_mk (Below.trod (by kernel_rfl) (by kernel_rfl) (of_decide_eq_true (by kernel_rfl)) h1 hb (fun x hx => hlt x (by simp [hx]))) (trodAll_cons_mk (Below.trod (by kernel_rfl) (by kernel_rfl) (of_decide_eq_true (by kernel_rfl)) h2 hb (fun x hx => hlt x (by simp [hx]))) (rfl)))
  · rfl

theorem witness_row (os : Os) {H : Type} (enc : TypeId × Value → H) :
    (OpenSpec.ofChange Rows.runStepsSpec).preRow enc Tryd.prog Tryd.f6 Rows.runStepsRow.domain false Rows.runStepsRow.laid ((laidWorld Tryd.prog os).forCall (fun _ _ => 0) ⟨#[], #[.agg #[.int .i64 0, .int .i64 0, .slice none 0 0], .agg #[.int .i64 0, .slice none 0 0, .slice none 0 0, .int .i64 0, .slice none 0 0, .int .i64 0], .slice none 0 0], []⟩).memory #[.agg #[.int .i64 0, .int .i64 0, .slice none 0 0], .agg #[.int .i64 0, .slice none 0 0, .slice none 0 0, .int .i64 0, .slice none 0 0, .int .i64 0], .slice none 0 0] := by
  have hw : (DataW.whole enc Tryd.prog ((laidWorld Tryd.prog os).forCall (fun _ _ => 0) ⟨#[], #[.agg #[.int .i64 0, .int .i64 0, .slice none 0 0], .agg #[.int .i64 0, .slice none 0 0, .slice none 0 0, .int .i64 0, .slice none 0 0, .int .i64 0], .slice none 0 0], []⟩).memory Tryd.f6.params.toList Rows.runStepsSpec.vars false #[Value.agg #[.int .i64 0, .int .i64 0, .slice none 0 0], .agg #[.int .i64 0, .slice none 0 0, .slice none 0 0, .int .i64 0, .slice none 0 0, .int .i64 0], .slice none 0 0].toList 8).isSome = true := by kernel_rfl
  obtain ⟨x, hx⟩ := Option.isSome_iff_exists.1 hw
  exact OpenSpec.preRow_of_cond 8 hx rfl (fun k hk => by cases hk) (by kernel_rfl) (laid_metR os _)

set_option maxRecDepth 100000 in
theorem lifted (os : Os) (started : os.Started) (H : Type) (enc : TypeId × Value → H) (F : Stop.Interp) :
    ReturnsInHanded {} Tryd.checked os 6 .any ((OpenSpec.ofChange Rows.runStepsSpec).preRow enc Tryd.prog Tryd.f6 Rows.runStepsRow.domain false Rows.runStepsRow.laid) (((OpenSpec.ofChange Rows.runStepsSpec).at F).post enc Tryd.prog Tryd.f6 false true false false) := by
  refine returnsInHanded_of_row (C := Tryd.checked) (s := OpenSpec.ofChange Rows.runStepsSpec) own started (by kernel_rfl) Tryd.func6
    (witness_row_atRef (enc := enc) (C := Tryd.checked) false (laidWorld Tryd.prog os) #[.agg #[.int .i64 0, .int .i64 0, .slice none 0 0], .agg #[.int .i64 0, .slice none 0 0, .slice none 0 0, .int .i64 0, .slice none 0 0, .int .i64 0], .slice none 0 0] rfl (by kernel_rfl) (by kernel_rfl) (by kernel_rfl) (witness_row os enc)) ?_
  intro W base args ds gs before hval hW _ _ hz hL hS _
  exact contract H enc W base args ds gs before hval hW hL hS hz

theorem said : Rows.RunStepsSaid :=
  OpenClaim.holds_of_cond 6 Tryd.f6 rfl rfl rfl rfl rfl rfl rfl ⟨rfl, rfl, rfl, rfl, rfl⟩ rfl rfl rfl rfl rfl (by kernel_rfl) Tryd.func6 (by kernel_rfl)
    (of_decide_eq_true (by kernel_rfl)) (by unfold Func.isWrapper; first | (rw [if_pos (by decide +kernel)]; kernel_rfl) | (rw [if_neg (by decide +kernel)]; exact ⟨rfl, rfl⟩))
    (fun os started H enc _ F => by rw [OpenClaim.pre_eq_preRow]; exact lifted os started H enc F)

theorem plain (f : FuncId) (fn : Func) (hf : Tryd.pinned.checked.prog.funcNamed "soundings/soundingslaw.RunSteps" = some f) (hfn : Tryd.pinned.checked.prog.funcs[f]? = some fn) :
    true = Tryd.pinned.checked.prog.looks [] ∧ ∀ (j : Nat) t, fn.params[j]? = some t → Tryd.pinned.checked.prog.wantsStandIn t = false := by
  obtain rfl : f = 6 := Option.some.inj ((show Tryd.prog.funcNamed "soundings/soundingslaw.RunSteps" = some 6 by kernel_rfl).symm.trans hf) |>.symm
  obtain rfl : fn = Tryd.f6 := (Option.some.inj (Tryd.func6.symm.trans hfn)).symm
  refine ⟨by kernel_rfl, fun j t ht => ?_⟩
  rw [Tryd.params6] at ht
  have hm : t = 24 ∨ t = 46 ∨ t = 28 := by simpa using Array.mem_of_getElem? ht
  rcases hm with rfl | rfl | rfl
  · exact (show Tryd.prog.wantsStandIn 24 = false by kernel_rfl)
  · exact (show Tryd.prog.wantsStandIn 46 = false by kernel_rfl)
  · exact (show Tryd.prog.wantsStandIn 28 = false by kernel_rfl)
end runSteps

theorem runSteps_holds : Rows.RunStepsCardSaid :=
  Claim7.holds_tied_plain_at .later [] _ _ _ _ runSteps.said (fun _ h => by cases h) (by kernel_rfl) (fun _ h => by cases h) runSteps_row_tie rfl ⟨rfl, rfl⟩ (by kernel_rfl) rfl runSteps.plain (by kernel_rfl)
end Go.Proofs.YtmapdpcfanecdaaDoor
