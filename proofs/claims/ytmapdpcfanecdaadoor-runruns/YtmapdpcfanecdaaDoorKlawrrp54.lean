/- The law's own helper on runs: runBegun. -/
import Derived.Test.YtmapdpcfanecdaaDoorKlawrrp09
import Derived.Test.YtmapdpcfanecdaaDoorKlawrrp53
import Derived.Deep.DeepCutAuto
import Derived.Deep.RegionHeld3
namespace Go.Proofs.YtmapdpcfanecdaaDoor
set_option linter.unusedVariables false
set_option linter.unusedSimpArgs false
open Go.RowKit
attribute [local go_sem ↓] Go.wp_at_zero Go.wp_at_succ

theorem begunRun (b : Nat) (w : World) (hc : CodeAt w (some ⟨b, 0, none⟩) smallC) (hT : Tab w) :
    Calls Tryd.prog 27 #[.agg #[.int .i64 1, .int .i64 0, .slice (some ⟨b, 0, none⟩) 2 2], .slice none 0 0, .int .i64 10] w fun e w' => ∃ a rv rvn rvc rt rtn rtc k rl rlc, e = .returned (.tuple #[.agg #[.int .i64 a, .slice rv rvn rvc, .slice rt rtn rtc, .int .i64 k, .slice rl 1 rlc, .int .i64 1], .int .i64 3, .int .i64 0]) ∧ StrsAt w' rl [⟨#[53]⟩] ∧ Below w.heap.size w w' := by
  refine (runM_ok 1 0 (some ⟨b, 0, none⟩) smallC 2 none 0 [] 10 w hc (.inl rfl) hT (by decide +kernel) (by omega)).mono ?_
  rintro e w' ⟨vv, tv, lv, fv, rfl, OR, -, -, hb⟩
  obtain ⟨vs, vc, ts, tc, ls, lc, rfl, rfl, rfl, h⟩ := OR.at
  have e0 : runSt ((1 : Nat) : Int) ((0 : Nat) : Int) smallC [] 10 = runSt 1 0 smallC [] 10 := rfl
  rw [e0] at h ⊢
  have hl := h.2.2
  rw [small_line] at hl
  refine ⟨(runSt 1 0 smallC [] 10).1.at_, vs, (runSt 1 0 smallC [] 10).1.vars.length, vc, ts, (runSt 1 0 smallC [] 10).1.things.length, tc, (runSt 1 0 smallC [] 10).1.taken, ls, lc, ?_, hl, hb⟩
  rw [small_fin, small_n, small_line]
  rfl

theorem begunBegin (b : Nat) (w : World) (hc : CodeAt w (some ⟨b, 0, none⟩) smallC) :
    Calls Tryd.prog 19 #[.agg #[.int .i64 1, .int .i64 0, .slice (some ⟨b, 0, none⟩) 2 2]] w fun e w' => ∃ bv bvc bt btc bl blc, e = .returned (.tuple #[.agg #[.int .i64 0, .slice bv 1 bvc, .slice bt 0 btc, .int .i64 0, .slice bl 0 blc, .int .i64 0], .int .i64 0]) ∧ RunAt w' (beginSt 1) bv bt bl ∧ Below w.heap.size w w' := by
  refine (beginU 1 0 (some ⟨b, 0, none⟩) smallC 2 w hc).mono ?_
  rintro e w' ⟨⟨vs, vc, ts, tc, ls, lc, rfl, h⟩, hb⟩
  have h0 : ckProg 1 0 smallC = 0 := by decide +kernel
  have e1 : begOf 1 0 smallC = beginSt 1 := by unfold begOf; rw [if_pos h0]
  rw [e1] at h
  refine ⟨vs, vc, ts, tc, ls, lc, ?_, h, hb⟩
  rw [e1, h0]
  rfl

theorem begunStep (b : Nat) (bv : Option Addr) (bvc : Nat) (bt : Option Addr) (btc : Nat) (bl : Option Addr) (blc : Nat) (w : World) (hc : CodeAt w (some ⟨b, 0, none⟩) smallC) (hr : RunAt w (beginSt 1) bv bt bl) (hT : Tab w) :
    Calls Tryd.prog 20 #[.agg #[.int .i64 1, .int .i64 0, .slice (some ⟨b, 0, none⟩) 2 2], .agg #[.int .i64 0, .slice bv 1 bvc, .slice bt 0 btc, .int .i64 0, .slice bl 0 blc, .int .i64 0], .slice none 0 0] w fun e w' => ∃ st cv cvc ct ctc cl clc fv, e = .returned (.tuple #[.agg #[.int .i64 1, .slice cv st.vars.length cvc, .slice ct st.things.length ctc, .int .i64 st.taken, .slice cl st.lines.length clc, .int .i64 st.fin], .int .i64 0]) ∧ OwnRows w' w.heap.size st (.slice cv st.vars.length cvc) (.slice ct st.things.length ctc) (.slice cl st.lines.length clc) fv ∧ Hid (LenSt st) ∧ Hid (ckBoth 1 0 smallC st = 0) ∧ Hid (st.at_ = 1) ∧ Below w.heap.size w w' := by
  refine (runStep_ok 1 0 (some ⟨b, 0, none⟩) smallC 2 (beginSt 1) bv bvc bt btc bl blc none 0 [] w hc small_len hr (.inl rfl) hT (by decide +kernel) small_both).mono ?_
  rintro e w' ⟨vv, tv, lv, fv, rfl, OR, hb⟩
  obtain ⟨vs, vc, ts, tc, ls, lc, rfl, rfl, rfl, -⟩ := OR.at
  refine ⟨stepSt 0 smallC [] (beginSt 1), vs, vc, ts, tc, ls, lc, fv, ?_, OR, small_len2, small_both2, small_at, hb⟩
  rw [show ((0 : Nat) : Int) = 0 from rfl, small_at]

theorem begunCheck (b : Nat) (st : St) (cv : Option Addr) (cvc : Nat) (ct : Option Addr) (ctc : Nat) (cl : Option Addr) (clc : Nat) (w : World) (hc : CodeAt w (some ⟨b, 0, none⟩) smallC) (hr : RunAt w st cv ct cl) (hl : LenSt st) (h0 : ckBoth 1 0 smallC st = 0) (h1 : st.at_ = 1) :
    Calls Tryd.prog 25 #[.agg #[.int .i64 1, .int .i64 0, .slice (some ⟨b, 0, none⟩) 2 2], .agg #[.int .i64 1, .slice cv st.vars.length cvc, .slice ct st.things.length ctc, .int .i64 st.taken, .slice cl st.lines.length clc, .int .i64 st.fin]] w fun e w' => e = .returned (.int .i64 0) ∧ Below w.heap.size w w' := by
  have h := runCheck_any 1 0 (some ⟨b, 0, none⟩) smallC 2 st cv cvc ct ctc cl clc w hc hl hr
  unfold runV at h
  rw [h1, h0] at h
  exact h

set_option maxHeartbeats 8000000 in
set_option maxRecDepth 20000 in
theorem runBegun_any (w : World) (hT : Tab w) :
    Calls Tryd.prog 24 #[] w fun e w' => e = .returned (.bool true) ∧ Below w.heap.size w w' := by
  have HR := hideK begunRun
  have HB := hideK begunBegin
  have HS := hideK begunStep
  have HC := hideK begunCheck
  go_enter Tryd.func24, Tryd.ntmps24
  go_wp2_with (go_at_call 41; fail)
  refine (small_any w).mono ?_
  rintro e w1 ⟨b1, rfl, c1, hb1⟩
  go_wp2_with (go_at_call 27; fail)
  refine (HR.out _ w1 c1 (hT.below hb1)).mono ?_
  rintro e w2 ⟨a, rv, rvn, rvc, rt, rtn, rtc, k, rl, rlc, rfl, L2, hb2⟩
  have B2 := hb1.trans (hb2.mono hb1.size)
  have L3 := L2.below (w' := w2.alloc (.cells #[.int .i64 a, .slice rv rvn rvc, .slice rt rtn rtc, .int .i64 k, .slice rl 1 rlc, .int .i64 1] 46)) (by go_grown) (Nat.le_refl _)
  have R3 := R6.new w2 46 (.int .i64 a) (.slice rv rvn rvc) (.slice rt rtn rtc) (.int .i64 k) (.slice rl 1 rlc) (.int .i64 1)
  have B3 : Below w.heap.size w (w2.alloc (.cells #[.int .i64 a, .slice rv rvn rvc, .slice rt rtn rtc, .int .i64 k, .slice rl 1 rlc, .int .i64 1] 46)) := B2.alloc B2.size _
  clear L2 B2 hb1 hb2 c1 HR
  go_upto_region 2 with fail
  generalize w2.alloc (.cells #[.int .i64 a, .slice rv rvn rvc, .slice rt rtn rtc, .int .i64 k, .slice rl 1 rlc, .int .i64 1] 46) = w3 at *
  generalize w2.heap.size = rb at *
  go_wp2_with (go_at_call 41; fail)
  refine (small_any _).mono ?_
  rintro e w4 ⟨b4, rfl, c4, hb4⟩
  go_wp2_with (go_at_call 19; fail)
  refine (HB.out _ w4 c4).mono ?_
  rintro e w5 ⟨bv, bvc, bt, btc, bl, blc, rfl, G5, hb5⟩
  have H5 := hb4.trans (hb5.mono hb4.size)
  have H6 : Below w3.heap.size w3 (w5.alloc (.cells #[.int .i64 0, .slice bv 1 bvc, .slice bt 0 btc, .int .i64 0, .slice bl 0 blc, .int .i64 0] 46)) := H5.alloc H5.size _
  have G0 := G5.below (w' := w5.alloc (.cells #[.int .i64 0, .slice bv 1 bvc, .slice bt 0 btc, .int .i64 0, .slice bl 0 blc, .int .i64 0] 46)) (by go_grown) (Nat.le_refl _)
  have A0 := R6.new w5 46 (.int .i64 0) (.slice bv 1 bvc) (.slice bt 0 btc) (.int .i64 0) (.slice bl 0 blc) (.int .i64 0)
  have R0 := R3.call H6
  have L0 := L3.below H6 (Nat.le_refl _)
  have B0 := B3.trans (H6.mono B3.size)
  have hT0 := hT.below B0
  clear G5 H5 H6 hb4 hb5 c4 HB R3 L3 B3 hT
  go_upto_region 3 with fail
  generalize w5.alloc (.cells #[.int .i64 0, .slice bv 1 bvc, .slice bt 0 btc, .int .i64 0, .slice bl 0 blc, .int .i64 0] 46) = we at *
  generalize w5.heap.size = bb at *
  have KS3 := hideK (fun wx (h : R6 wx bb (.int .i64 0) (.slice bv 1 bvc) (.slice bt 0 btc) (.int .i64 0) (.slice bl 0 blc) (.int .i64 0)) => h.1)
  go_cut [6, 7] (fun t6 t7 wc => ∃ cb st cv cvc ct ctc cl clc, t6 = .pointer (some ⟨cb, 0, none⟩) ∧ t7 = .int .i64 0 ∧ Hid (LenSt st) ∧ Hid (ckBoth 1 0 smallC st = 0) ∧ Hid (st.at_ = 1) ∧ R6 wc cb (.int .i64 1) (.slice cv st.vars.length cvc) (.slice ct st.things.length ctc) (.int .i64 st.taken) (.slice cl st.lines.length clc) (.int .i64 st.fin) ∧ RunAt wc st cv ct cl ∧ R6 wc rb (.int .i64 a) (.slice rv rvn rvc) (.slice rt rtn rtc) (.int .i64 k) (.slice rl 1 rlc) (.int .i64 1) ∧ StrsAt wc rl [⟨#[53]⟩] ∧ Below w.heap.size w wc)
  case first =>
    rename_i J1 K1 hJ hK1
    have E2 : Below we.heap.size we we.drew := (Below.refl _ _).drew
    refine wp_region_held_drew (S := fun wx => wx.cell? ⟨bb, 0, none⟩ = some (.int .i64 0) ∧ wx.cell? ⟨bb, 1, none⟩ = some (.slice bv 1 bvc) ∧ wx.cell? ⟨bb, 2, none⟩ = some (.slice bt 0 btc) ∧ wx.cell? ⟨bb, 3, none⟩ = some (.int .i64 0) ∧ wx.cell? ⟨bb, 4, none⟩ = some (.slice bl 0 blc) ∧ wx.cell? ⟨bb, 5, none⟩ = some (.int .i64 0)) (by kernel_rfl) (KS3.out _ (A0.call E2)) (fun hHeld => ?_)
    generalize we.drew = w2 at *
    refine tkH 1 ?_ ?_ ?_
    rotate_left
    · exact rn
    (try simp only [Act.put, List.getElem_toArray, List.getElem_cons_zero, List.getElem_cons_succ, List.setIfInBounds_toArray, List.set_cons_zero, List.set_cons_succ])
    refine wpAnyH_ready (rs := [0, 6]) (by kernel_rfl) (by simp) ?_
    refine AllReadyH.cons rfl (fun K hK => ?_) (AllReadyH.cons rfl (fun K hK => ?_) AllReadyH.nil)
    · go_simp
      refine (small_any _).mono ?_
      rintro e w3 ⟨q3, rfl, C3, hb3⟩
      have E3 := E2.trans (hb3.mono E2.size)
      refine hK.out _ _ (KS3.out _ (A0.call E3)) (fun hHeld3 => ?_)
      clear hK K
      (try simp only [Act.put, List.getElem_toArray, List.getElem_cons_zero, List.getElem_cons_succ, List.setIfInBounds_toArray, List.set_cons_zero, List.set_cons_succ])
      clear hb3
      refine wpAnyH_ready (rs := [2, 6]) (by kernel_rfl) (by simp) ?_
      refine AllReadyH.cons rfl (fun K hK => ?_) (AllReadyH.cons rfl (fun K hK => ?_) AllReadyH.nil)
      · go_simp
        refine (HS.out _ bv bvc bt btc bl blc w3 C3 (G0.below E3 (Nat.le_refl _)) (hT0.below E3)).mono ?_
        rintro e w4 ⟨st, cv, cvc, ct, ctc, cl, clc, fv, rfl, O4, hl, h0, h1, hb4⟩
        have E4 := E3.trans (hb4.mono E3.size)
        refine hK.out _ _ (KS3.out _ (A0.call E4)) (fun hHeld4 => ?_)
        clear hK K
        (try simp only [Act.put, List.getElem_toArray, List.getElem_cons_zero, List.getElem_cons_succ, List.setIfInBounds_toArray, List.set_cons_zero, List.set_cons_succ])
        refine tkH 3 ?_ ?_ ?_
        rotate_left
        · exact rn
        (try simp only [Act.put, List.getElem_toArray, List.getElem_cons_zero, List.getElem_cons_succ, List.setIfInBounds_toArray, List.set_cons_zero, List.set_cons_succ])
        refine tkH 4 ?_ ?_ ?_
        rotate_left
        · exact rn
        (try simp only [Act.put, List.getElem_toArray, List.getElem_cons_zero, List.getElem_cons_succ, List.setIfInBounds_toArray, List.set_cons_zero, List.set_cons_succ])
        refine tkH 5 ?_ ?_ ?_
        rotate_left
        · exact rn
        (try simp only [Act.put, List.getElem_toArray, List.getElem_cons_zero, List.getElem_cons_succ, List.setIfInBounds_toArray, List.set_cons_zero, List.set_cons_succ])
        clear hb4
        refine wpAnyH_ready (rs := [6]) (by kernel_rfl) (by simp) ?_
        refine AllReadyH.cons rfl (fun K hK => ?_) AllReadyH.nil
        go_simp
        have hb5 : Below w4.heap.size w4 (w4.alloc (.cells #[.int .i64 0, .slice none 0 0, .slice none 0 0, .int .i64 0, .slice none 0 0, .int .i64 0] 46)) := by go_grown
        have U5 := R6.new w4 46 (.int .i64 0) (.slice none 0 0) (.slice none 0 0) (.int .i64 0) (.slice none 0 0) (.int .i64 0)
        have zc : we.heap.size ≤ w4.heap.size := E4.size
        have HF := hideK (fun y0 y1 y2 y3 y4 y5 => (O4.runAt).below (w' := set6 (w4.alloc (.cells #[.int .i64 0, .slice none 0 0, .slice none 0 0, .int .i64 0, .slice none 0 0, .int .i64 0] 46)) w4.heap.size y0 y1 y2 y3 y4 y5) (below_set6 (by go_grown) (Nat.le_refl _) _ _ _ _ _ _) (Nat.le_refl _))
        have E5 := E4.trans (hb5.mono E4.size)
        refine hK.out _ _ (KS3.out _ (A0.call E5)) (fun hHeld5 => ?_)
        clear hK K
        (try simp only [Act.put, List.getElem_toArray, List.getElem_cons_zero, List.getElem_cons_succ, List.setIfInBounds_toArray, List.set_cons_zero, List.set_cons_succ])
        clear hb5
        clear O4
        generalize w4.alloc (.cells #[.int .i64 0, .slice none 0 0, .slice none 0 0, .int .i64 0, .slice none 0 0, .int .i64 0] 46) = w5 at *
        generalize w4.heap.size = cb at *
        have U9 := U5.put (.int .i64 1) (.slice cv st.vars.length cvc) (.slice ct st.things.length ctc) (.int .i64 st.taken) (.slice cl st.lines.length clc) (.int .i64 st.fin)
        have E9 : Below we.heap.size we (set6 w5 cb (.int .i64 1) (.slice cv st.vars.length cvc) (.slice ct st.things.length ctc) (.int .i64 st.taken) (.slice cl st.lines.length clc) (.int .i64 st.fin)) := below_set6 E5 zc _ _ _ _ _ _
        have D9 : RunAt (set6 w5 cb (.int .i64 1) (.slice cv st.vars.length cvc) (.slice ct st.things.length ctc) (.int .i64 st.taken) (.slice cl st.lines.length clc) (.int .i64 st.fin)) st cv ct cl := HF.out _ _ _ _ _ _
        obtain ⟨⟨r0, r1, r2, r3, r4, r5⟩, rz, fz⟩ := id U5
        refine wpAnyH_ready (rs := [7]) (by kernel_rfl) (by simp) ?_
        refine AllReadyH.cons rfl (fun K hK => ?_) AllReadyH.nil
        go_simp
        refine hK.out _ _ (KS3.out _ (A0.call E9)) (fun hHeldz => ?_)
        clear hK K
        (try simp only [Act.put, List.getElem_toArray, List.getElem_cons_zero, List.getElem_cons_succ, List.setIfInBounds_toArray, List.set_cons_zero, List.set_cons_succ])
        refine tkH 8 ?_ ?_ ?_
        rotate_left
        · exact rn
        (try simp only [Act.put, List.getElem_toArray, List.getElem_cons_zero, List.getElem_cons_succ, List.setIfInBounds_toArray, List.set_cons_zero, List.set_cons_succ])
        refine wpAnyH_done (by kernel_rfl) ?_ _
        first | refine hK1 _ _ (Met.intro (hJ _ _ ?_)) | refine Met.intro (hJ _ _ ?_) | refine hJ _ _ ?_
        (repeat apply Exists.intro)
        refine ⟨?_, rfl⟩
        exact ⟨cb, st, cv, cvc, ct, ctc, cl, clc, rfl, rfl, hl, h0, h1, U9, D9, R0.call E9, L0.below E9 (Nat.le_refl _), B0.trans (E9.mono B0.size)⟩
      · go_simp
        have hb4 : Below w3.heap.size w3 (w3.alloc (.cells #[.int .i64 0, .slice none 0 0, .slice none 0 0, .int .i64 0, .slice none 0 0, .int .i64 0] 46)) := by go_grown
        have U4 := R6.new w3 46 (.int .i64 0) (.slice none 0 0) (.slice none 0 0) (.int .i64 0) (.slice none 0 0) (.int .i64 0)
        have zc : we.heap.size ≤ w3.heap.size := E3.size
        have C4 := C3.below hb4 (Nat.le_refl _)
        have E4 := E3.trans (hb4.mono E3.size)
        refine hK.out _ _ (KS3.out _ (A0.call E4)) (fun hHeld4 => ?_)
        clear hK K
        (try simp only [Act.put, List.getElem_toArray, List.getElem_cons_zero, List.getElem_cons_succ, List.setIfInBounds_toArray, List.set_cons_zero, List.set_cons_succ])
        clear hb4
        generalize w3.alloc (.cells #[.int .i64 0, .slice none 0 0, .slice none 0 0, .int .i64 0, .slice none 0 0, .int .i64 0] 46) = w4 at *
        generalize w3.heap.size = cb at *
        refine wpAnyH_ready (rs := [2]) (by kernel_rfl) (by simp) ?_
        refine AllReadyH.cons rfl (fun K hK => ?_) AllReadyH.nil
        go_simp
        refine (HS.out _ bv bvc bt btc bl blc w4 C4 (G0.below E4 (Nat.le_refl _)) (hT0.below E4)).mono ?_
        rintro e w5 ⟨st, cv, cvc, ct, ctc, cl, clc, fv, rfl, O5, hl, h0, h1, hb5⟩
        have U5 := U4.call hb5
        have HF := hideK (fun y0 y1 y2 y3 y4 y5 => (O5.set6 U4.2.1 y0 y1 y2 y3 y4 y5).runAt)
        have E5 := E4.trans (hb5.mono E4.size)
        refine hK.out _ _ (KS3.out _ (A0.call E5)) (fun hHeld5 => ?_)
        clear hK K
        (try simp only [Act.put, List.getElem_toArray, List.getElem_cons_zero, List.getElem_cons_succ, List.setIfInBounds_toArray, List.set_cons_zero, List.set_cons_succ])
        refine tkH 3 ?_ ?_ ?_
        rotate_left
        · exact rn
        (try simp only [Act.put, List.getElem_toArray, List.getElem_cons_zero, List.getElem_cons_succ, List.setIfInBounds_toArray, List.set_cons_zero, List.set_cons_succ])
        refine tkH 4 ?_ ?_ ?_
        rotate_left
        · exact rn
        (try simp only [Act.put, List.getElem_toArray, List.getElem_cons_zero, List.getElem_cons_succ, List.setIfInBounds_toArray, List.set_cons_zero, List.set_cons_succ])
        refine tkH 5 ?_ ?_ ?_
        rotate_left
        · exact rn
        (try simp only [Act.put, List.getElem_toArray, List.getElem_cons_zero, List.getElem_cons_succ, List.setIfInBounds_toArray, List.set_cons_zero, List.set_cons_succ])
        clear hb5
        have U9 := U5.put (.int .i64 1) (.slice cv st.vars.length cvc) (.slice ct st.things.length ctc) (.int .i64 st.taken) (.slice cl st.lines.length clc) (.int .i64 st.fin)
        have E9 : Below we.heap.size we (set6 w5 cb (.int .i64 1) (.slice cv st.vars.length cvc) (.slice ct st.things.length ctc) (.int .i64 st.taken) (.slice cl st.lines.length clc) (.int .i64 st.fin)) := below_set6 E5 zc _ _ _ _ _ _
        have D9 : RunAt (set6 w5 cb (.int .i64 1) (.slice cv st.vars.length cvc) (.slice ct st.things.length ctc) (.int .i64 st.taken) (.slice cl st.lines.length clc) (.int .i64 st.fin)) st cv ct cl := HF.out _ _ _ _ _ _
        obtain ⟨⟨r0, r1, r2, r3, r4, r5⟩, rz, fz⟩ := id U5
        refine wpAnyH_ready (rs := [7]) (by kernel_rfl) (by simp) ?_
        refine AllReadyH.cons rfl (fun K hK => ?_) AllReadyH.nil
        go_simp
        refine hK.out _ _ (KS3.out _ (A0.call E9)) (fun hHeldz => ?_)
        clear hK K
        (try simp only [Act.put, List.getElem_toArray, List.getElem_cons_zero, List.getElem_cons_succ, List.setIfInBounds_toArray, List.set_cons_zero, List.set_cons_succ])
        refine tkH 8 ?_ ?_ ?_
        rotate_left
        · exact rn
        (try simp only [Act.put, List.getElem_toArray, List.getElem_cons_zero, List.getElem_cons_succ, List.setIfInBounds_toArray, List.set_cons_zero, List.set_cons_succ])
        refine wpAnyH_done (by kernel_rfl) ?_ _
        first | refine hK1 _ _ (Met.intro (hJ _ _ ?_)) | refine Met.intro (hJ _ _ ?_) | refine hJ _ _ ?_
        (repeat apply Exists.intro)
        refine ⟨?_, rfl⟩
        exact ⟨cb, st, cv, cvc, ct, ctc, cl, clc, rfl, rfl, hl, h0, h1, U9, D9, R0.call E9, L0.below E9 (Nat.le_refl _), B0.trans (E9.mono B0.size)⟩
    · go_simp
      have hb3 : Below w2.heap.size w2 (w2.alloc (.cells #[.int .i64 0, .slice none 0 0, .slice none 0 0, .int .i64 0, .slice none 0 0, .int .i64 0] 46)) := by go_grown
      have U3 := R6.new w2 46 (.int .i64 0) (.slice none 0 0) (.slice none 0 0) (.int .i64 0) (.slice none 0 0) (.int .i64 0)
      have zc : we.heap.size ≤ w2.heap.size := E2.size
      have E3 := E2.trans (hb3.mono E2.size)
      refine hK.out _ _ (KS3.out _ (A0.call E3)) (fun hHeld3 => ?_)
      clear hK K
      (try simp only [Act.put, List.getElem_toArray, List.getElem_cons_zero, List.getElem_cons_succ, List.setIfInBounds_toArray, List.set_cons_zero, List.set_cons_succ])
      clear hb3
      generalize w2.alloc (.cells #[.int .i64 0, .slice none 0 0, .slice none 0 0, .int .i64 0, .slice none 0 0, .int .i64 0] 46) = w3 at *
      generalize w2.heap.size = cb at *
      refine wpAnyH_ready (rs := [0]) (by kernel_rfl) (by simp) ?_
      refine AllReadyH.cons rfl (fun K hK => ?_) AllReadyH.nil
      go_simp
      refine (small_any _).mono ?_
      rintro e w4 ⟨q4, rfl, C4, hb4⟩
      have U4 := U3.call hb4
      have E4 := E3.trans (hb4.mono E3.size)
      refine hK.out _ _ (KS3.out _ (A0.call E4)) (fun hHeld4 => ?_)
      clear hK K
      (try simp only [Act.put, List.getElem_toArray, List.getElem_cons_zero, List.getElem_cons_succ, List.setIfInBounds_toArray, List.set_cons_zero, List.set_cons_succ])
      clear hb4
      refine wpAnyH_ready (rs := [2]) (by kernel_rfl) (by simp) ?_
      refine AllReadyH.cons rfl (fun K hK => ?_) AllReadyH.nil
      go_simp
      refine (HS.out _ bv bvc bt btc bl blc w4 C4 (G0.below E4 (Nat.le_refl _)) (hT0.below E4)).mono ?_
      rintro e w5 ⟨st, cv, cvc, ct, ctc, cl, clc, fv, rfl, O5, hl, h0, h1, hb5⟩
      have U5 := U4.call hb5
      have HF := hideK (fun y0 y1 y2 y3 y4 y5 => (O5.set6 U4.2.1 y0 y1 y2 y3 y4 y5).runAt)
      have E5 := E4.trans (hb5.mono E4.size)
      refine hK.out _ _ (KS3.out _ (A0.call E5)) (fun hHeld5 => ?_)
      clear hK K
      (try simp only [Act.put, List.getElem_toArray, List.getElem_cons_zero, List.getElem_cons_succ, List.setIfInBounds_toArray, List.set_cons_zero, List.set_cons_succ])
      refine tkH 3 ?_ ?_ ?_
      rotate_left
      · exact rn
      (try simp only [Act.put, List.getElem_toArray, List.getElem_cons_zero, List.getElem_cons_succ, List.setIfInBounds_toArray, List.set_cons_zero, List.set_cons_succ])
      refine tkH 4 ?_ ?_ ?_
      rotate_left
      · exact rn
      (try simp only [Act.put, List.getElem_toArray, List.getElem_cons_zero, List.getElem_cons_succ, List.setIfInBounds_toArray, List.set_cons_zero, List.set_cons_succ])
      refine tkH 5 ?_ ?_ ?_
      rotate_left
      · exact rn
      (try simp only [Act.put, List.getElem_toArray, List.getElem_cons_zero, List.getElem_cons_succ, List.setIfInBounds_toArray, List.set_cons_zero, List.set_cons_succ])
      clear hb5
      have U9 := U5.put (.int .i64 1) (.slice cv st.vars.length cvc) (.slice ct st.things.length ctc) (.int .i64 st.taken) (.slice cl st.lines.length clc) (.int .i64 st.fin)
      have E9 : Below we.heap.size we (set6 w5 cb (.int .i64 1) (.slice cv st.vars.length cvc) (.slice ct st.things.length ctc) (.int .i64 st.taken) (.slice cl st.lines.length clc) (.int .i64 st.fin)) := below_set6 E5 zc _ _ _ _ _ _
      have D9 : RunAt (set6 w5 cb (.int .i64 1) (.slice cv st.vars.length cvc) (.slice ct st.things.length ctc) (.int .i64 st.taken) (.slice cl st.lines.length clc) (.int .i64 st.fin)) st cv ct cl := HF.out _ _ _ _ _ _
      obtain ⟨⟨r0, r1, r2, r3, r4, r5⟩, rz, fz⟩ := id U5
      refine wpAnyH_ready (rs := [7]) (by kernel_rfl) (by simp) ?_
      refine AllReadyH.cons rfl (fun K hK => ?_) AllReadyH.nil
      go_simp
      refine hK.out _ _ (KS3.out _ (A0.call E9)) (fun hHeldz => ?_)
      clear hK K
      (try simp only [Act.put, List.getElem_toArray, List.getElem_cons_zero, List.getElem_cons_succ, List.setIfInBounds_toArray, List.set_cons_zero, List.set_cons_succ])
      refine tkH 8 ?_ ?_ ?_
      rotate_left
      · exact rn
      (try simp only [Act.put, List.getElem_toArray, List.getElem_cons_zero, List.getElem_cons_succ, List.setIfInBounds_toArray, List.set_cons_zero, List.set_cons_succ])
      refine wpAnyH_done (by kernel_rfl) ?_ _
      first | refine hK1 _ _ (Met.intro (hJ _ _ ?_)) | refine Met.intro (hJ _ _ ?_) | refine hJ _ _ ?_
      (repeat apply Exists.intro)
      refine ⟨?_, rfl⟩
      exact ⟨cb, st, cv, cvc, ct, ctc, cl, clc, rfl, rfl, hl, h0, h1, U9, D9, R0.call E9, L0.below E9 (Nat.le_refl _), B0.trans (E9.mono B0.size)⟩
  case rest =>
    obtain ⟨cb, st, cv, cvc, ct, ctc, cl, clc, rfl, rfl, hl, h0, h1, U1, D1, R1, L1, B1⟩ := hcut
    clear A0 R0 L0 G0 B0 hT0 HS KS3
    rcases L1 with L1 | ⟨lb, lo, rfl, zl, L1⟩
    · simp at L1
    have L2 := L1 0 (by simp)
    clear L1
    simp only [Nat.add_zero, List.getElem_cons_zero] at L2
    obtain ⟨⟨s0, s1, s2, s3, s4, s5⟩, sz, -⟩ := id R1
    have KS4 : Hid (∀ wx, Below wc.heap.size wc wx → wx.cell? ⟨rb, 5, none⟩ = some (.int .i64 1) ∧ wx.cell? ⟨rb, 4, none⟩ = some (.slice (some ⟨lb, lo, none⟩) 1 rlc) ∧ wx.cell? ⟨lb, lo, none⟩ = some (.string ⟨#[53]⟩) ∧ wx.cell? ⟨cb, 0, none⟩ = some (.int .i64 1) ∧ wx.cell? ⟨cb, 1, none⟩ = some (.slice cv st.vars.length cvc) ∧ wx.cell? ⟨cb, 2, none⟩ = some (.slice ct st.things.length ctc) ∧ wx.cell? ⟨cb, 3, none⟩ = some (.int .i64 st.taken) ∧ wx.cell? ⟨cb, 4, none⟩ = some (.slice cl st.lines.length clc) ∧ wx.cell? ⟨cb, 5, none⟩ = some (.int .i64 st.fin)) := fun wx hx => ⟨by rw [hx.cell (by simp only; exact sz)]; exact s5, by rw [hx.cell (by simp only; exact sz)]; exact s4, by rw [hx.cell (by simp only; exact zl)]; exact L2, (U1.call hx).1⟩
    clear s0 s1 s2 s3 s4 s5 sz zl L2 R1 U1
    have D0 := D1
    clear D1
    go_wp2
    have E2 : Below wc.heap.size wc wc.drew := (Below.refl _ _).drew
    refine wp_region_held_drew (S := fun wx => wx.cell? ⟨rb, 5, none⟩ = some (.int .i64 1) ∧ wx.cell? ⟨rb, 4, none⟩ = some (.slice (some ⟨lb, lo, none⟩) 1 rlc) ∧ wx.cell? ⟨lb, lo, none⟩ = some (.string ⟨#[53]⟩) ∧ wx.cell? ⟨cb, 0, none⟩ = some (.int .i64 1) ∧ wx.cell? ⟨cb, 1, none⟩ = some (.slice cv st.vars.length cvc) ∧ wx.cell? ⟨cb, 2, none⟩ = some (.slice ct st.things.length ctc) ∧ wx.cell? ⟨cb, 3, none⟩ = some (.int .i64 st.taken) ∧ wx.cell? ⟨cb, 4, none⟩ = some (.slice cl st.lines.length clc) ∧ wx.cell? ⟨cb, 5, none⟩ = some (.int .i64 st.fin)) (by kernel_rfl) (KS4.out _ E2) (fun hHeld => ?_)
    generalize wc.drew = w2 at *
    refine tkH 0 ?_ ?_ ?_
    rotate_left
    · exact rn
    (try simp only [Act.put, List.getElem_toArray, List.getElem_cons_zero, List.getElem_cons_succ, List.setIfInBounds_toArray, List.set_cons_zero, List.set_cons_succ])
    refine tkH 1 ?_ ?_ ?_
    rotate_left
    · exact rn
    (try simp only [Act.put, List.getElem_toArray, List.getElem_cons_zero, List.getElem_cons_succ, List.setIfInBounds_toArray, List.set_cons_zero, List.set_cons_succ])
    refine tkH 2 ?_ ?_ ?_
    rotate_left
    · exact rn
    (try simp only [Act.put, List.getElem_toArray, List.getElem_cons_zero, List.getElem_cons_succ, List.setIfInBounds_toArray, List.set_cons_zero, List.set_cons_succ])
    refine tkH 3 ?_ ?_ ?_
    rotate_left
    · exact rn
    (try simp only [Act.put, List.getElem_toArray, List.getElem_cons_zero, List.getElem_cons_succ, List.setIfInBounds_toArray, List.set_cons_zero, List.set_cons_succ])
    refine tkH 4 ?_ ?_ ?_
    rotate_left
    · exact rn
    (try simp only [Act.put, List.getElem_toArray, List.getElem_cons_zero, List.getElem_cons_succ, List.setIfInBounds_toArray, List.set_cons_zero, List.set_cons_succ])
    refine tkH 5 ?_ ?_ ?_
    rotate_left
    · exact rn
    (try simp only [Act.put, List.getElem_toArray, List.getElem_cons_zero, List.getElem_cons_succ, List.setIfInBounds_toArray, List.set_cons_zero, List.set_cons_succ])
    refine tkH 6 ?_ ?_ ?_
    rotate_left
    · exact rn
    (try simp only [Act.put, List.getElem_toArray, List.getElem_cons_zero, List.getElem_cons_succ, List.setIfInBounds_toArray, List.set_cons_zero, List.set_cons_succ])
    refine tkH 7 ?_ ?_ ?_
    rotate_left
    · exact rn
    (try simp only [Act.put, List.getElem_toArray, List.getElem_cons_zero, List.getElem_cons_succ, List.setIfInBounds_toArray, List.set_cons_zero, List.set_cons_succ])
    refine tkH 8 ?_ ?_ ?_
    rotate_left
    · exact rn
    (try simp only [Act.put, List.getElem_toArray, List.getElem_cons_zero, List.getElem_cons_succ, List.setIfInBounds_toArray, List.set_cons_zero, List.set_cons_succ])
    refine tkH 9 ?_ ?_ ?_
    rotate_left
    · exact rn
    (try simp only [Act.put, List.getElem_toArray, List.getElem_cons_zero, List.getElem_cons_succ, List.setIfInBounds_toArray, List.set_cons_zero, List.set_cons_succ])
    refine tkH 10 ?_ ?_ ?_
    rotate_left
    · exact rn
    (try simp only [Act.put, List.getElem_toArray, List.getElem_cons_zero, List.getElem_cons_succ, List.setIfInBounds_toArray, List.set_cons_zero, List.set_cons_succ])
    refine tkH 11 ?_ ?_ ?_
    rotate_left
    · exact rn
    (try simp only [Act.put, List.getElem_toArray, List.getElem_cons_zero, List.getElem_cons_succ, List.setIfInBounds_toArray, List.set_cons_zero, List.set_cons_succ])
    refine tkH 12 ?_ ?_ ?_
    rotate_left
    · exact rn
    (try simp only [Act.put, List.getElem_toArray, List.getElem_cons_zero, List.getElem_cons_succ, List.setIfInBounds_toArray, List.set_cons_zero, List.set_cons_succ])
    refine tkH 13 ?_ ?_ ?_
    rotate_left
    · exact rn
    (try simp only [Act.put, List.getElem_toArray, List.getElem_cons_zero, List.getElem_cons_succ, List.setIfInBounds_toArray, List.set_cons_zero, List.set_cons_succ])
    refine tkH 14 ?_ ?_ ?_
    rotate_left
    · exact rn
    (try simp only [Act.put, List.getElem_toArray, List.getElem_cons_zero, List.getElem_cons_succ, List.setIfInBounds_toArray, List.set_cons_zero, List.set_cons_succ])
    refine tkH 15 ?_ ?_ ?_
    rotate_left
    · exact rn
    (try simp only [Act.put, List.getElem_toArray, List.getElem_cons_zero, List.getElem_cons_succ, List.setIfInBounds_toArray, List.set_cons_zero, List.set_cons_succ])
    refine tkH 16 ?_ ?_ ?_
    rotate_left
    · exact rn
    (try simp only [Act.put, List.getElem_toArray, List.getElem_cons_zero, List.getElem_cons_succ, List.setIfInBounds_toArray, List.set_cons_zero, List.set_cons_succ])
    refine tkH 17 ?_ ?_ ?_
    rotate_left
    · exact rn
    (try simp only [Act.put, List.getElem_toArray, List.getElem_cons_zero, List.getElem_cons_succ, List.setIfInBounds_toArray, List.set_cons_zero, List.set_cons_succ])
    refine tkH 18 ?_ ?_ ?_
    rotate_left
    · exact rn
    (try simp only [Act.put, List.getElem_toArray, List.getElem_cons_zero, List.getElem_cons_succ, List.setIfInBounds_toArray, List.set_cons_zero, List.set_cons_succ])
    refine tkH 19 ?_ ?_ ?_
    rotate_left
    · exact rn
    (try simp only [Act.put, List.getElem_toArray, List.getElem_cons_zero, List.getElem_cons_succ, List.setIfInBounds_toArray, List.set_cons_zero, List.set_cons_succ])
    refine tkH 20 ?_ ?_ ?_
    rotate_left
    · exact rn
    (try simp only [Act.put, List.getElem_toArray, List.getElem_cons_zero, List.getElem_cons_succ, List.setIfInBounds_toArray, List.set_cons_zero, List.set_cons_succ])
    refine tkH 21 ?_ ?_ ?_
    rotate_left
    · exact rn
    (try simp only [Act.put, List.getElem_toArray, List.getElem_cons_zero, List.getElem_cons_succ, List.setIfInBounds_toArray, List.set_cons_zero, List.set_cons_succ])
    refine tkH 22 ?_ ?_ ?_
    rotate_left
    · exact rn
    (try simp only [Act.put, List.getElem_toArray, List.getElem_cons_zero, List.getElem_cons_succ, List.setIfInBounds_toArray, List.set_cons_zero, List.set_cons_succ])
    refine tkH 23 ?_ ?_ ?_
    rotate_left
    · exact rn
    (try simp only [Act.put, List.getElem_toArray, List.getElem_cons_zero, List.getElem_cons_succ, List.setIfInBounds_toArray, List.set_cons_zero, List.set_cons_succ])
    refine tkH 24 ?_ ?_ ?_
    rotate_left
    · exact rn
    (try simp only [Act.put, List.getElem_toArray, List.getElem_cons_zero, List.getElem_cons_succ, List.setIfInBounds_toArray, List.set_cons_zero, List.set_cons_succ])
    refine tkH 25 ?_ ?_ ?_
    rotate_left
    · exact rn
    (try simp only [Act.put, List.getElem_toArray, List.getElem_cons_zero, List.getElem_cons_succ, List.setIfInBounds_toArray, List.set_cons_zero, List.set_cons_succ])
    refine tkH 26 ?_ ?_ ?_
    rotate_left
    · exact rn
    (try simp only [Act.put, List.getElem_toArray, List.getElem_cons_zero, List.getElem_cons_succ, List.setIfInBounds_toArray, List.set_cons_zero, List.set_cons_succ])
    refine tkH 27 ?_ ?_ ?_
    rotate_left
    · exact rn
    (try simp only [Act.put, List.getElem_toArray, List.getElem_cons_zero, List.getElem_cons_succ, List.setIfInBounds_toArray, List.set_cons_zero, List.set_cons_succ])
    refine tkH 28 ?_ ?_ ?_
    rotate_left
    · exact rn
    (try simp only [Act.put, List.getElem_toArray, List.getElem_cons_zero, List.getElem_cons_succ, List.setIfInBounds_toArray, List.set_cons_zero, List.set_cons_succ])
    refine tkH 29 ?_ ?_ ?_
    rotate_left
    · exact rn
    (try simp only [Act.put, List.getElem_toArray, List.getElem_cons_zero, List.getElem_cons_succ, List.setIfInBounds_toArray, List.set_cons_zero, List.set_cons_succ])
    refine tkH 30 ?_ ?_ ?_
    rotate_left
    · exact rn
    (try simp only [Act.put, List.getElem_toArray, List.getElem_cons_zero, List.getElem_cons_succ, List.setIfInBounds_toArray, List.set_cons_zero, List.set_cons_succ])
    refine tkH 31 ?_ ?_ ?_
    rotate_left
    · exact rn
    (try simp only [Act.put, List.getElem_toArray, List.getElem_cons_zero, List.getElem_cons_succ, List.setIfInBounds_toArray, List.set_cons_zero, List.set_cons_succ])
    refine tkH 32 ?_ ?_ ?_
    rotate_left
    · exact rn
    (try simp only [Act.put, List.getElem_toArray, List.getElem_cons_zero, List.getElem_cons_succ, List.setIfInBounds_toArray, List.set_cons_zero, List.set_cons_succ])
    refine tkH 33 ?_ ?_ ?_
    rotate_left
    · exact rn
    (try simp only [Act.put, List.getElem_toArray, List.getElem_cons_zero, List.getElem_cons_succ, List.setIfInBounds_toArray, List.set_cons_zero, List.set_cons_succ])
    refine tkH 34 ?_ ?_ ?_
    rotate_left
    · exact rn
    (try simp only [Act.put, List.getElem_toArray, List.getElem_cons_zero, List.getElem_cons_succ, List.setIfInBounds_toArray, List.set_cons_zero, List.set_cons_succ])
    refine tkH 35 ?_ ?_ ?_
    rotate_left
    · exact rn
    (try simp only [Act.put, List.getElem_toArray, List.getElem_cons_zero, List.getElem_cons_succ, List.setIfInBounds_toArray, List.set_cons_zero, List.set_cons_succ])
    refine tkH 36 ?_ ?_ ?_
    rotate_left
    · exact rn
    (try simp only [Act.put, List.getElem_toArray, List.getElem_cons_zero, List.getElem_cons_succ, List.setIfInBounds_toArray, List.set_cons_zero, List.set_cons_succ])
    refine tkH 37 ?_ ?_ ?_
    rotate_left
    · exact rn
    (try simp only [Act.put, List.getElem_toArray, List.getElem_cons_zero, List.getElem_cons_succ, List.setIfInBounds_toArray, List.set_cons_zero, List.set_cons_succ])
    refine tkH 39 ?_ ?_ ?_
    rotate_left
    · exact rn
    (try simp only [Act.put, List.getElem_toArray, List.getElem_cons_zero, List.getElem_cons_succ, List.setIfInBounds_toArray, List.set_cons_zero, List.set_cons_succ])
    refine wpAnyH_ready (rs := [38]) (by kernel_rfl) (by simp) ?_
    refine AllReadyH.cons rfl (fun K hK => ?_) AllReadyH.nil
    go_simp
    refine (small_any _).mono ?_
    rintro e w3 ⟨q3, rfl, C3, hb3⟩
    have E3 := E2.trans (hb3.mono E2.size)
    refine hK.out _ _ (KS4.out _ E3) (fun hHeld3 => ?_)
    clear hK K
    (try simp only [Act.put, List.getElem_toArray, List.getElem_cons_zero, List.getElem_cons_succ, List.setIfInBounds_toArray, List.set_cons_zero, List.set_cons_succ])
    refine wpAnyH_ready (rs := [40]) (by kernel_rfl) (by simp) ?_
    refine AllReadyH.cons rfl (fun K hK => ?_) AllReadyH.nil
    go_simp
    refine (HC.out _ st cv cvc ct ctc cl clc w3 C3 (D0.below E3 (Nat.le_refl _)) hl.out h0.out h1.out).mono ?_
    rintro e w4 ⟨rfl, hb4⟩
    have E4 := E3.trans (hb4.mono E3.size)
    refine hK.out _ _ (KS4.out _ E4) (fun hHeld4 => ?_)
    clear hK K
    (try simp only [Act.put, List.getElem_toArray, List.getElem_cons_zero, List.getElem_cons_succ, List.setIfInBounds_toArray, List.set_cons_zero, List.set_cons_succ])
    refine tkH 41 ?_ ?_ ?_
    rotate_left
    · exact rn
    (try simp only [Act.put, List.getElem_toArray, List.getElem_cons_zero, List.getElem_cons_succ, List.setIfInBounds_toArray, List.set_cons_zero, List.set_cons_succ])
    refine tkH 42 ?_ ?_ ?_
    rotate_left
    · exact rn
    (try simp only [Act.put, List.getElem_toArray, List.getElem_cons_zero, List.getElem_cons_succ, List.setIfInBounds_toArray, List.set_cons_zero, List.set_cons_succ])
    refine tkH 43 ?_ ?_ ?_
    rotate_left
    · exact rn
    (try simp only [Act.put, List.getElem_toArray, List.getElem_cons_zero, List.getElem_cons_succ, List.setIfInBounds_toArray, List.set_cons_zero, List.set_cons_succ])
    refine wpAnyH_done (by kernel_rfl) ?_ _
    go_wp2
    refine bodyPost_ret (v := .bool true) (by kernel_rfl) rfl ⟨rfl, B1.trans (E4.mono B1.size)⟩
end Go.Proofs.YtmapdpcfanecdaaDoor
