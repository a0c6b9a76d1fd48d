/- Walks over values of runs: is it one? -/
import Derived.Test.YtmapdpcfanecdaaDoorKlawrsp22
import Derived.Test.YtmapdpcfanecdaaDoorKlawrsp23
import Derived.Test.YtmapdpcfanecdaaDoorKlawrsp29
import Derived.Deep.DeepCutAuto
import Derived.Test.YtmapdpcfanecdaaDoorKlawrsp26
import Derived.Test.YtmapdpcfanecdaaDoorKlawrsp20
import Derived.Test.YtmapdpcfanecdaaDoorKlawrsp21
import Derived.Test.YtmapdpcfanecdaaDoorKlawrsp11
import Derived.Test.YtmapdpcfanecdaaDoorKlawrsp03
import Derived.Test.YtmapdpcfanecdaaDoorKlawrsp09
namespace Go.Proofs.YtmapdpcfanecdaaDoor
set_option linter.unusedVariables false
set_option linter.unusedSimpArgs false
open Go.RowKit
attribute [local go_sem ↓] Go.wp_at_zero Go.wp_at_succ

set_option maxHeartbeats 2000000 in
set_option maxRecDepth 20000 in
theorem runStep_err (V F : Int) (s : Option Addr) (c : List Ins) (cap : Nat) (r : St) (vs : Option Addr) (vc : Nat) (ts : Option Addr) (tc : Nat) (ls : Option Addr) (lc : Nat) (is : Option Addr) (ic : Nat) (ins : List Int) (w : World) (hc : CodeAt w s c) (hl : LenSt r) (hr : RunAt w r vs ts ls) (h0 : ckBoth V F c r ≠ 0) :
    Calls Tryd.prog 20 #[.agg #[.int .i64 V, .int .i64 F, .slice s c.length cap], runV r vs vc ts tc ls lc, .slice is ins.length ic] w fun e w' => e = .returned (.tuple #[.agg #[.int .i64 0, .slice none 0 0, .slice none 0 0, .int .i64 0, .slice none 0 0, .int .i64 0], .int .i64 (ckBoth V F c r)]) ∧ Below w.heap.size w w' := by
  have hb0 : Below w.heap.size w (((w.alloc (.cells #[.int .i64 V, .int .i64 F, .slice s c.length cap] 24)).alloc (.cells #[.int .i64 r.at_, .slice vs r.vars.length vc, .slice ts r.things.length tc, .int .i64 r.taken, .slice ls r.lines.length lc, .int .i64 r.fin] 46)).alloc (.cells #[.int .i64 0, .slice none 0 0, .slice none 0 0, .int .i64 0, .slice none 0 0, .int .i64 0] 46)) := by go_grown
  have P0 := (P3.new w V F s c.length cap).call (w' := (((w.alloc (.cells #[.int .i64 V, .int .i64 F, .slice s c.length cap] 24)).alloc (.cells #[.int .i64 r.at_, .slice vs r.vars.length vc, .slice ts r.things.length tc, .int .i64 r.taken, .slice ls r.lines.length lc, .int .i64 r.fin] 46)).alloc (.cells #[.int .i64 0, .slice none 0 0, .slice none 0 0, .int .i64 0, .slice none 0 0, .int .i64 0] 46))) (by go_grown)
  have Q0 := (R6.new (w.alloc (.cells #[.int .i64 V, .int .i64 F, .slice s c.length cap] 24)) 46 (.int .i64 r.at_) (.slice vs r.vars.length vc) (.slice ts r.things.length tc) (.int .i64 r.taken) (.slice ls r.lines.length lc) (.int .i64 r.fin)).call (w' := (((w.alloc (.cells #[.int .i64 V, .int .i64 F, .slice s c.length cap] 24)).alloc (.cells #[.int .i64 r.at_, .slice vs r.vars.length vc, .slice ts r.things.length tc, .int .i64 r.taken, .slice ls r.lines.length lc, .int .i64 r.fin] 46)).alloc (.cells #[.int .i64 0, .slice none 0 0, .slice none 0 0, .int .i64 0, .slice none 0 0, .int .i64 0] 46))) (by go_grown)
  have Z0 := R6.new ((w.alloc (.cells #[.int .i64 V, .int .i64 F, .slice s c.length cap] 24)).alloc (.cells #[.int .i64 r.at_, .slice vs r.vars.length vc, .slice ts r.things.length tc, .int .i64 r.taken, .slice ls r.lines.length lc, .int .i64 r.fin] 46)) 46 (.int .i64 0) (.slice none 0 0) (.slice none 0 0) (.int .i64 0) (.slice none 0 0) (.int .i64 0)
  rw [World.size_alloc] at Q0
  rw [World.size_alloc, World.size_alloc] at Z0
  have HC := hideK (runCheck_any V F s c cap r vs vc ts tc ls lc (((w.alloc (.cells #[.int .i64 V, .int .i64 F, .slice s c.length cap] 24)).alloc (.cells #[.int .i64 r.at_, .slice vs r.vars.length vc, .slice ts r.things.length tc, .int .i64 r.taken, .slice ls r.lines.length lc, .int .i64 r.fin] 46)).alloc (.cells #[.int .i64 0, .slice none 0 0, .slice none 0 0, .int .i64 0, .slice none 0 0, .int .i64 0] 46)) (hc.below hb0 (Nat.le_refl _)) hl (hr.below hb0 (Nat.le_refl _)))
  have hk : (ckBoth V F c r != 0) = true := by simpa using h0
  unfold runV at HC ⊢
  clear hc hl hr h0 P0 Q0
  go_enter Tryd.func20, Tryd.ntmps20
  go_wp2_with (go_at_call 25; fail)
  generalize (((w.alloc (.cells #[.int .i64 V, .int .i64 F, .slice s c.length cap] 24)).alloc (.cells #[.int .i64 r.at_, .slice vs r.vars.length vc, .slice ts r.things.length tc, .int .i64 r.taken, .slice ls r.lines.length lc, .int .i64 r.fin] 46)).alloc (.cells #[.int .i64 0, .slice none 0 0, .slice none 0 0, .int .i64 0, .slice none 0 0, .int .i64 0] 46)) = w3 at *
  refine HC.out.mono ?_
  rintro e w4 ⟨rfl, hb4⟩
  clear HC
  have H4 := hb0.trans (hb4.mono hb0.size)
  obtain ⟨⟨r0, r1, r2, r3, r4, r5⟩, rz, rf⟩ := id (Z0.call hb4)
  have g0 := rf 0
  have g1 := rf 1
  have g2 := rf 2
  have g3 := rf 3
  have g4 := rf 4
  have g5 := rf 5
  clear rf Z0
  go_wp2
  refine bodyPost_ret (v := .tuple #[.agg #[.int .i64 0, .slice none 0 0, .slice none 0 0, .int .i64 0, .slice none 0 0, .int .i64 0], .int .i64 (ckBoth V F c r)]) (by simp [results, Tryd.results20, go_sem, r0, r1, r2, r3, r4, r5]) rfl ⟨rfl, ?_⟩
  exact below_set6 H4 (by omega) _ _ _ _ _ _

set_option maxHeartbeats 8000000 in
set_option maxRecDepth 20000 in
theorem runStep_ok (v f : Nat) (s : Option Addr) (c : List Ins) (cap : Nat) (r : St) (vs : Option Addr) (vc : Nat) (ts : Option Addr) (tc : Nat) (ls : Option Addr) (lc : Nat) (is : Option Addr) (ic : Nat) (ins : List Int) (w : World) (hc : CodeAt w s c) (hl : LenSt r) (hr : RunAt w r vs ts ls) (hI : IntsAt w is ins) (hT : Tab w) (hln : (r.lines.length + 1) * 16 ≤ 140737488355328) (h0 : ckBoth v f c r = 0) :
    Calls Tryd.prog 20 #[.agg #[.int .i64 (v : Int), .int .i64 (f : Int), .slice s c.length cap], runV r vs vc ts tc ls lc, .slice is ins.length ic] w fun e w' => ∃ vv tv lv fv, e = .returned (.tuple #[.agg #[.int .i64 (stepSt f c ins r).at_, vv, tv, .int .i64 (stepSt f c ins r).taken, lv, .int .i64 (stepSt f c ins r).fin], .int .i64 0]) ∧ OwnRows w' w.heap.size (stepSt f c ins r) vv tv lv fv ∧ Below w.heap.size w w' := by
  have hp0 : ckProg v f c = 0 := by
    unfold ckBoth at h0
    split at h0
    · assumption
    · exact h0
  have hr0 : ckRun v f c r = 0 := by
    unfold ckBoth at h0
    rw [if_pos hp0] at h0
    exact h0
  have hp := progOk_of hp0
  have hk := ckRun_ok hr0
  have hb0 : Below w.heap.size w (((w.alloc (.cells #[.int .i64 (v : Int), .int .i64 (f : Int), .slice s c.length cap] 24)).alloc (.cells #[.int .i64 r.at_, .slice vs r.vars.length vc, .slice ts r.things.length tc, .int .i64 r.taken, .slice ls r.lines.length lc, .int .i64 r.fin] 46)).alloc (.cells #[.int .i64 0, .slice none 0 0, .slice none 0 0, .int .i64 0, .slice none 0 0, .int .i64 0] 46)) := by go_grown
  have P0 := (P3.new w v f s c.length cap).call (w' := (((w.alloc (.cells #[.int .i64 (v : Int), .int .i64 (f : Int), .slice s c.length cap] 24)).alloc (.cells #[.int .i64 r.at_, .slice vs r.vars.length vc, .slice ts r.things.length tc, .int .i64 r.taken, .slice ls r.lines.length lc, .int .i64 r.fin] 46)).alloc (.cells #[.int .i64 0, .slice none 0 0, .slice none 0 0, .int .i64 0, .slice none 0 0, .int .i64 0] 46))) (by go_grown)
  have Q0 := (R6.new (w.alloc (.cells #[.int .i64 (v : Int), .int .i64 (f : Int), .slice s c.length cap] 24)) 46 (.int .i64 r.at_) (.slice vs r.vars.length vc) (.slice ts r.things.length tc) (.int .i64 r.taken) (.slice ls r.lines.length lc) (.int .i64 r.fin)).call (w' := (((w.alloc (.cells #[.int .i64 (v : Int), .int .i64 (f : Int), .slice s c.length cap] 24)).alloc (.cells #[.int .i64 r.at_, .slice vs r.vars.length vc, .slice ts r.things.length tc, .int .i64 r.taken, .slice ls r.lines.length lc, .int .i64 r.fin] 46)).alloc (.cells #[.int .i64 0, .slice none 0 0, .slice none 0 0, .int .i64 0, .slice none 0 0, .int .i64 0] 46))) (by go_grown)
  have Z0 := R6.new ((w.alloc (.cells #[.int .i64 (v : Int), .int .i64 (f : Int), .slice s c.length cap] 24)).alloc (.cells #[.int .i64 r.at_, .slice vs r.vars.length vc, .slice ts r.things.length tc, .int .i64 r.taken, .slice ls r.lines.length lc, .int .i64 r.fin] 46)) 46 (.int .i64 0) (.slice none 0 0) (.slice none 0 0) (.int .i64 0) (.slice none 0 0) (.int .i64 0)
  rw [World.size_alloc] at Q0
  rw [World.size_alloc, World.size_alloc] at Z0
  have HC := hideK (runCheck_any v f s c cap r vs vc ts tc ls lc (((w.alloc (.cells #[.int .i64 (v : Int), .int .i64 (f : Int), .slice s c.length cap] 24)).alloc (.cells #[.int .i64 r.at_, .slice vs r.vars.length vc, .slice ts r.things.length tc, .int .i64 r.taken, .slice ls r.lines.length lc, .int .i64 r.fin] 46)).alloc (.cells #[.int .i64 0, .slice none 0 0, .slice none 0 0, .int .i64 0, .slice none 0 0, .int .i64 0] 46)) (hc.below hb0 (Nat.le_refl _)) hl (hr.below hb0 (Nat.le_refl _)))
  rw [h0] at HC
  have HCR := hideK (fun (wx : World) (hx : Below w.heap.size w wx) => copyRun_any r vs vc ts tc ls lc wx (hr.below hx (Nat.le_refl _)) (by have := hk.vars; have := hp.v8; omega) (fun t ht => by have := hk.fields t ht; have := hp.f3; omega) hk.things (by omega))
  unfold runV at HC HCR ⊢
  have HCD := hideK (fun (wx : World) (hx : Below w.heap.size w wx) => And.intro (hc.below hx (Nat.le_refl _)) (And.intro (hI.below hx (Nat.le_refl _)) (hT.below hx)))
  have HP := hideK (And.intro hp hk)
  clear hc hl hr h0 hp0 hr0 hI hT hp hk
  have hz3 : (((w.alloc (.cells #[.int .i64 (v : Int), .int .i64 (f : Int), .slice s c.length cap] 24)).alloc (.cells #[.int .i64 r.at_, .slice vs r.vars.length vc, .slice ts r.things.length tc, .int .i64 r.taken, .slice ls r.lines.length lc, .int .i64 r.fin] 46)).alloc (.cells #[.int .i64 0, .slice none 0 0, .slice none 0 0, .int .i64 0, .slice none 0 0, .int .i64 0] 46)).heap.size = w.heap.size + 1 + 1 + 1 := by simp
  go_enter Tryd.func20, Tryd.ntmps20
  go_wp2_with (go_at_call 25; fail)
  generalize (((w.alloc (.cells #[.int .i64 (v : Int), .int .i64 (f : Int), .slice s c.length cap] 24)).alloc (.cells #[.int .i64 r.at_, .slice vs r.vars.length vc, .slice ts r.things.length tc, .int .i64 r.taken, .slice ls r.lines.length lc, .int .i64 r.fin] 46)).alloc (.cells #[.int .i64 0, .slice none 0 0, .slice none 0 0, .int .i64 0, .slice none 0 0, .int .i64 0] 46)) = w3 at *
  refine HC.out.mono ?_
  rintro e w4 ⟨rfl, hb4⟩
  clear HC
  have H4 := hb0.trans (hb4.mono hb0.size)
  have P4 := P0.call hb4
  have Q4 := Q0.call hb4
  have Z4 := Z0.call hb4
  have hz4 : w.heap.size + 1 + 1 + 1 ≤ w4.heap.size := by have := hb4.size; omega
  have KS : ∀ wx, Below w4.heap.size w4 wx → wx.cell? ⟨w.heap.size, 0, none⟩ = some (.int .i64 v) ∧ wx.cell? ⟨w.heap.size, 1, none⟩ = some (.int .i64 f) ∧ wx.cell? ⟨w.heap.size, 2, none⟩ = some (.slice s c.length cap) ∧ wx.cell? ⟨w.heap.size + 1, 0, none⟩ = some (.int .i64 r.at_) ∧ wx.cell? ⟨w.heap.size + 1, 1, none⟩ = some (.slice vs r.vars.length vc) ∧ wx.cell? ⟨w.heap.size + 1, 2, none⟩ = some (.slice ts r.things.length tc) ∧ wx.cell? ⟨w.heap.size + 1, 3, none⟩ = some (.int .i64 r.taken) ∧ wx.cell? ⟨w.heap.size + 1, 4, none⟩ = some (.slice ls r.lines.length lc) ∧ wx.cell? ⟨w.heap.size + 1, 5, none⟩ = some (.int .i64 r.fin) := fun wx hx => by
    obtain ⟨⟨p0, p1, p2⟩, -⟩ := P4.call hx
    obtain ⟨⟨r0, r1, r2, r3, r4, r5⟩, -, -⟩ := Q4.call hx
    exact ⟨p0, p1, p2, r0, r1, r2, r3, r4, r5⟩
  clear P0 Q0 Z0 hb4 P4 Q4
  go_upto_region 4 with fail
  go_cut [9] (fun p9 wy => ∃ m vv tv lv fv, p9 = .pointer (some ⟨m, 0, none⟩) ∧ OwnRun wy w4.heap.size m r vv tv lv fv ∧ wy.cell? ⟨m, 7, none⟩ = some (.int .i64 f) ∧ wy.cell? ⟨m, 8, none⟩ = some (.slice s c.length cap) ∧ wy.cell? ⟨m, 9, none⟩ = some (.slice is ins.length ic) ∧ Below w4.heap.size w4 wy)
  case first =>
    rename_i J1 K1' hJ1 hK1
    refine wp_region_z (S := fun wx => wx.cell? ⟨w.heap.size, 0, none⟩ = some (.int .i64 v) ∧ wx.cell? ⟨w.heap.size, 1, none⟩ = some (.int .i64 f) ∧ wx.cell? ⟨w.heap.size, 2, none⟩ = some (.slice s c.length cap) ∧ wx.cell? ⟨w.heap.size + 1, 0, none⟩ = some (.int .i64 r.at_) ∧ wx.cell? ⟨w.heap.size + 1, 1, none⟩ = some (.slice vs r.vars.length vc) ∧ wx.cell? ⟨w.heap.size + 1, 2, none⟩ = some (.slice ts r.things.length tc) ∧ wx.cell? ⟨w.heap.size + 1, 3, none⟩ = some (.int .i64 r.taken) ∧ wx.cell? ⟨w.heap.size + 1, 4, none⟩ = some (.slice ls r.lines.length lc) ∧ wx.cell? ⟨w.heap.size + 1, 5, none⟩ = some (.int .i64 r.fin)) [6] (by kernel_rfl) (KS _ (Below.refl _ _).drew) (fun hHeld => ?_)
    have HB0 : Below w4.heap.size w4 w4.drew := (Below.refl _ _).drew
    have hzd : w4.drew.heap.size = w4.heap.size := rfl
    generalize w4.drew = wq at *
    refine wpAnyZ_take (i := 0) (v := ?_) rfl (by kernel_rfl) (by kernel_rfl) (by kernel_rfl) (fun _ _ _ h => h) (Or.inl ⟨?_, ?_⟩) (by assumption) ?_
    rotate_left
    · rfl
    · (intro w hSw; (try dsimp only at hSw); first | (go_simp; done) | (go_simp; with_reducible rfl))
    (try simp only [Act.put, List.getElem_toArray, List.getElem_cons_zero, List.getElem_cons_succ, List.setIfInBounds_toArray, List.set_cons_zero, List.set_cons_succ])
    refine wpAnyZ_take (i := 2) (v := ?_) rfl (by kernel_rfl) (by kernel_rfl) (by kernel_rfl) (fun _ _ _ h => h) (Or.inl ⟨?_, ?_⟩) (by assumption) ?_
    rotate_left
    · rfl
    · (intro w hSw; (try dsimp only at hSw); first | (go_simp; done) | (go_simp; with_reducible rfl))
    (try simp only [Act.put, List.getElem_toArray, List.getElem_cons_zero, List.getElem_cons_succ, List.setIfInBounds_toArray, List.set_cons_zero, List.set_cons_succ])
    refine wpAnyZ_take (i := 3) (v := ?_) rfl (by kernel_rfl) (by kernel_rfl) (by kernel_rfl) (fun _ _ _ h => h) (Or.inl ⟨?_, ?_⟩) (by assumption) ?_
    rotate_left
    · rfl
    · (intro w hSw; (try dsimp only at hSw); first | (go_simp; done) | (go_simp; with_reducible rfl))
    (try simp only [Act.put, List.getElem_toArray, List.getElem_cons_zero, List.getElem_cons_succ, List.setIfInBounds_toArray, List.set_cons_zero, List.set_cons_succ])
    refine wpAnyZ_two (i := 1) (j := 5) rfl rfl (by kernel_rfl) (fun K hK => ?_) (fun K hK => ?_)
    · go_simp
      go_at_call 47
      refine (HCR.out wq (H4.trans (HB0.mono H4.size))).mono ?_
      rintro e w5 ⟨vv, tv, lv, fv, rfl, OR, hb5⟩
      obtain ⟨vs1, vc1, ts1, tc1, ls1, lc1, rfl, rfl, rfl, -⟩ := OR.at
      have HB5 : Below w4.heap.size w4 w5 := HB0.trans (hb5.mono HB0.size)
      go_wp2_with fail
      refine hK.out _ _ (KS _ HB5) (fun hHeld => ?_)
      clear hK K
      (try simp only [Act.put, List.getElem_toArray, List.getElem_cons_zero, List.getElem_cons_succ, List.setIfInBounds_toArray, List.set_cons_zero, List.set_cons_succ])
      refine wpAnyZ_take (i := 4) (v := ?_) rfl (by kernel_rfl) (by kernel_rfl) (by kernel_rfl) (fun _ _ _ h => h) (Or.inl ⟨?_, ?_⟩) (by assumption) ?_
      rotate_left
      · rfl
      · (intro w hSw; (try dsimp only at hSw); first | (go_simp; done) | (go_simp; with_reducible rfl))
      (try simp only [Act.put, List.getElem_toArray, List.getElem_cons_zero, List.getElem_cons_succ, List.setIfInBounds_toArray, List.set_cons_zero, List.set_cons_succ])
      refine wpAnyZ_one (i := 5) rfl (by kernel_rfl) (fun K hK => ?_)
      go_simp
      have HB6 : Below w4.heap.size w4 (w5.alloc (.cells #[.int .i64 0, .slice none 0 0, .slice none 0 0, .int .i64 0, .slice none 0 0, .int .i64 0, .int .i64 0, .int .i64 0, .slice none 0 0, .slice none 0 0] 92)) := HB5.alloc HB5.size _
      refine hK.out _ _ (KS _ HB6) (fun hHeld => ?_)
      clear hK K
      (try simp only [Act.put, List.getElem_toArray, List.getElem_cons_zero, List.getElem_cons_succ, List.setIfInBounds_toArray, List.set_cons_zero, List.set_cons_succ])
      refine wpAnyZ_last (i := 6) rfl (by kernel_rfl) (by kernel_rfl) (fun K hK => ?_)
      go_simp
      refine hK.out _ _ ?_
      clear hK K
      (try simp only [Act.put, List.getElem_toArray, List.getElem_cons_zero, List.getElem_cons_succ, List.setIfInBounds_toArray, List.set_cons_zero, List.set_cons_succ])
      refine wpAnyZ_done (by kernel_rfl) ?_ _
      refine hK1 _ _ (Met.intro (hJ1 _ _ ?_))
      (repeat apply Exists.intro)
      refine ⟨?_, rfl⟩
      have HB7 : Below w4.heap.size w4 (w5.alloc (.cells #[.int .i64 r.at_, .slice vs1 r.vars.length vc1, .slice ts1 r.things.length tc1, .int .i64 r.taken, .slice ls1 r.lines.length lc1, .int .i64 r.fin, .int .i64 v, .int .i64 f, .slice s c.length cap, .slice is ins.length ic] 92)) := HB5.alloc HB5.size _
      have OR7 := (OR.below (w' := w5.alloc (.cells #[.int .i64 r.at_, .slice vs1 r.vars.length vc1, .slice ts1 r.things.length tc1, .int .i64 r.taken, .slice ls1 r.lines.length lc1, .int .i64 r.fin, .int .i64 v, .int .i64 f, .slice s c.length cap, .slice is ins.length ic] 92)) (by go_grown)).down (show w4.heap.size ≤ wq.heap.size by omega)
      refine ⟨w5.heap.size, _, _, _, fv, rfl, OR7.run' ?_ HB5.size (fun hm => ?_), by simp [go_sem], by simp [go_sem], by simp [go_sem], HB7⟩
      · refine ⟨⟨?_, ?_, ?_, ?_, ?_, ?_⟩, fun j => ?_⟩ <;> simp [go_sem]
      · exact Nat.lt_irrefl _ (OR.lt hm).1
    · go_simp
      have HB1 : Below w4.heap.size w4 (wq.alloc (.cells #[.int .i64 0, .slice none 0 0, .slice none 0 0, .int .i64 0, .slice none 0 0, .int .i64 0, .int .i64 0, .int .i64 0, .slice none 0 0, .slice none 0 0] 92)) := HB0.alloc HB0.size _
      have hmz : ∀ j, j < 0 + 10 → ((wq.alloc (.cells #[.int .i64 0, .slice none 0 0, .slice none 0 0, .int .i64 0, .slice none 0 0, .int .i64 0, .int .i64 0, .int .i64 0, .slice none 0 0, .slice none 0 0] 92)).cell? ⟨w4.heap.size, j, none⟩).isSome = true := by
        intro j hj
        rw [← hzd]
        match j, hj with
        | 0, _ => simp [go_sem]
        | 1, _ => simp [go_sem]
        | 2, _ => simp [go_sem]
        | 3, _ => simp [go_sem]
        | 4, _ => simp [go_sem]
        | 5, _ => simp [go_sem]
        | 6, _ => simp [go_sem]
        | 7, _ => simp [go_sem]
        | 8, _ => simp [go_sem]
        | 9, _ => simp [go_sem]
        | n + 10, h => exact absurd h (by omega)
      have hmf : ∀ j, (wq.alloc (.cells #[.int .i64 0, .slice none 0 0, .slice none 0 0, .int .i64 0, .slice none 0 0, .int .i64 0, .int .i64 0, .int .i64 0, .slice none 0 0, .slice none 0 0] 92)).frozen? ⟨w4.heap.size, j, none⟩ = false := by
        intro j
        rw [← hzd]
        simp [go_sem]
      have hma : w4.heap.size < (wq.alloc (.cells #[.int .i64 0, .slice none 0 0, .slice none 0 0, .int .i64 0, .slice none 0 0, .int .i64 0, .int .i64 0, .int .i64 0, .slice none 0 0, .slice none 0 0] 92)).heap.size := by simp [hzd]
      have hma1 : (wq.alloc (.cells #[.int .i64 0, .slice none 0 0, .slice none 0 0, .int .i64 0, .slice none 0 0, .int .i64 0, .int .i64 0, .int .i64 0, .slice none 0 0, .slice none 0 0] 92)).heap.size = w4.heap.size + 1 := by simp [hzd]
      refine hK.out _ _ (KS _ HB1) (fun hHeld => ?_)
      clear hK K
      (try simp only [Act.put, List.getElem_toArray, List.getElem_cons_zero, List.getElem_cons_succ, List.setIfInBounds_toArray, List.set_cons_zero, List.set_cons_succ])
      (try rw [hzd])
      generalize wq.alloc (.cells #[.int .i64 0, .slice none 0 0, .slice none 0 0, .int .i64 0, .slice none 0 0, .int .i64 0, .int .i64 0, .int .i64 0, .slice none 0 0, .slice none 0 0] 92) = wa at *
      refine wpAnyZ_one (i := 1) rfl (by kernel_rfl) (fun K hK => ?_)
      go_simp
      go_at_call 47
      refine (HCR.out wa (H4.trans (HB1.mono H4.size))).mono ?_
      rintro e w5 ⟨vv, tv, lv, fv, rfl, OR, hb5⟩
      obtain ⟨vs1, vc1, ts1, tc1, ls1, lc1, rfl, rfl, rfl, -⟩ := OR.at
      have HB5 : Below w4.heap.size w4 w5 := HB1.trans (hb5.mono HB1.size)
      go_wp2_with fail
      refine hK.out _ _ (KS _ HB5) (fun hHeld => ?_)
      clear hK K
      (try simp only [Act.put, List.getElem_toArray, List.getElem_cons_zero, List.getElem_cons_succ, List.setIfInBounds_toArray, List.set_cons_zero, List.set_cons_succ])
      have hmz5 : ∀ j, j < 0 + 10 → (w5.cell? ⟨w4.heap.size, j, none⟩).isSome = true := fun j hj => by rw [hb5.cell (by simpa using hma)]; exact hmz j hj
      have hmf5 : ∀ j, w5.frozen? ⟨w4.heap.size, j, none⟩ = false := fun j => by rw [hb5.frozen (by simpa using hma)]; exact hmf j
      obtain ⟨u0, e0⟩ := Option.isSome_iff_exists.1 (hmz5 0 (by omega))
      have d0 := hmf5 0
      obtain ⟨u1, e1⟩ := Option.isSome_iff_exists.1 (hmz5 1 (by omega))
      have d1 := hmf5 1
      obtain ⟨u2, e2⟩ := Option.isSome_iff_exists.1 (hmz5 2 (by omega))
      have d2 := hmf5 2
      obtain ⟨u3, e3⟩ := Option.isSome_iff_exists.1 (hmz5 3 (by omega))
      have d3 := hmf5 3
      obtain ⟨u4, e4⟩ := Option.isSome_iff_exists.1 (hmz5 4 (by omega))
      have d4 := hmf5 4
      obtain ⟨u5, e5⟩ := Option.isSome_iff_exists.1 (hmz5 5 (by omega))
      have d5 := hmf5 5
      obtain ⟨u6, e6⟩ := Option.isSome_iff_exists.1 (hmz5 6 (by omega))
      have d6 := hmf5 6
      obtain ⟨u7, e7⟩ := Option.isSome_iff_exists.1 (hmz5 7 (by omega))
      have d7 := hmf5 7
      obtain ⟨u8, e8⟩ := Option.isSome_iff_exists.1 (hmz5 8 (by omega))
      have d8 := hmf5 8
      obtain ⟨u9, e9⟩ := Option.isSome_iff_exists.1 (hmz5 9 (by omega))
      have d9 := hmf5 9
      refine wpAnyZ_take (i := 4) (v := ?_) rfl (by kernel_rfl) (by kernel_rfl) (by kernel_rfl) (fun _ _ _ h => h) (Or.inl ⟨?_, ?_⟩) (by assumption) ?_
      rotate_left
      · rfl
      · (intro w hSw; (try dsimp only at hSw); first | (go_simp; done) | (go_simp; with_reducible rfl))
      (try simp only [Act.put, List.getElem_toArray, List.getElem_cons_zero, List.getElem_cons_succ, List.setIfInBounds_toArray, List.set_cons_zero, List.set_cons_succ])
      have HM5 := hideK (And.intro hmz5 hmf5)
      clear hmz hmf hmz5 hmf5
      refine wpAnyZ_last (i := 6) rfl (by kernel_rfl) (by kernel_rfl) (fun K hK => ?_)
      go_simp
      refine hK.out _ _ ?_
      clear hK K
      (try simp only [Act.put, List.getElem_toArray, List.getElem_cons_zero, List.getElem_cons_succ, List.setIfInBounds_toArray, List.set_cons_zero, List.set_cons_succ])
      refine wpAnyZ_done (by kernel_rfl) ?_ _
      refine hK1 _ _ (Met.intro (hJ1 _ _ ?_))
      (repeat apply Exists.intro)
      refine ⟨?_, rfl⟩
      show ∃ m vv tv lv fv, _ = _ ∧ OwnRun (setL w5 w4.heap.size 0 [.int .i64 r.at_, .slice vs1 r.vars.length vc1, .slice ts1 r.things.length tc1, .int .i64 r.taken, .slice ls1 r.lines.length lc1, .int .i64 r.fin, .int .i64 v, .int .i64 f, .slice s c.length cap, .slice is ins.length ic]) w4.heap.size m r vv tv lv fv ∧ (setL w5 w4.heap.size 0 [.int .i64 r.at_, .slice vs1 r.vars.length vc1, .slice ts1 r.things.length tc1, .int .i64 r.taken, .slice ls1 r.lines.length lc1, .int .i64 r.fin, .int .i64 v, .int .i64 f, .slice s c.length cap, .slice is ins.length ic]).cell? ⟨m, 7, none⟩ = some (.int .i64 f) ∧ (setL w5 w4.heap.size 0 [.int .i64 r.at_, .slice vs1 r.vars.length vc1, .slice ts1 r.things.length tc1, .int .i64 r.taken, .slice ls1 r.lines.length lc1, .int .i64 r.fin, .int .i64 v, .int .i64 f, .slice s c.length cap, .slice is ins.length ic]).cell? ⟨m, 8, none⟩ = some (.slice s c.length cap) ∧ (setL w5 w4.heap.size 0 [.int .i64 r.at_, .slice vs1 r.vars.length vc1, .slice ts1 r.things.length tc1, .int .i64 r.taken, .slice ls1 r.lines.length lc1, .int .i64 r.fin, .int .i64 v, .int .i64 f, .slice s c.length cap, .slice is ins.length ic]).cell? ⟨m, 9, none⟩ = some (.slice is ins.length ic) ∧ Below w4.heap.size w4 (setL w5 w4.heap.size 0 [.int .i64 r.at_, .slice vs1 r.vars.length vc1, .slice ts1 r.things.length tc1, .int .i64 r.taken, .slice ls1 r.lines.length lc1, .int .i64 r.fin, .int .i64 v, .int .i64 f, .slice s c.length cap, .slice is ins.length ic])
      have HS := setL_cell w4.heap.size [.int .i64 r.at_, .slice vs1 r.vars.length vc1, .slice ts1 r.things.length tc1, .int .i64 r.taken, .slice ls1 r.lines.length lc1, .int .i64 r.fin, .int .i64 v, .int .i64 f, .slice s c.length cap, .slice is ins.length ic] 0 w5 HM5.out.1
      have OR7 : OwnRows (setL w5 w4.heap.size 0 [.int .i64 r.at_, .slice vs1 r.vars.length vc1, .slice ts1 r.things.length tc1, .int .i64 r.taken, .slice ls1 r.lines.length lc1, .int .i64 r.fin, .int .i64 v, .int .i64 f, .slice s c.length cap, .slice is ins.length ic]) (w4.heap.size + 1) r _ _ _ fv := (by rw [← hma1]; exact OR.same fun k hk => setL_far _ _ (fun e => by have := (OR.lt hk).2; omega) _ _ _)
      refine ⟨w4.heap.size, _, _, _, fv, rfl, OR7.run ?_ (Nat.le_succ _) (Nat.le_refl _) (Nat.lt_succ_self _), ?_, ?_, ?_, setL_below _ (Nat.le_refl _) _ _ _ HB5⟩
      · refine ⟨⟨?_, ?_, ?_, ?_, ?_, ?_⟩, fun j => by rw [setL_frozen]; exact HM5.out.2 j⟩
        · simpa using HS 0 (by simp)
        · simpa using HS 1 (by simp)
        · simpa using HS 2 (by simp)
        · simpa using HS 3 (by simp)
        · simpa using HS 4 (by simp)
        · simpa using HS 5 (by simp)
      · simpa using HS 7 (by simp)
      · simpa using HS 8 (by simp)
      · simpa using HS 9 (by simp)
  obtain ⟨m, vv, tv, lv, fv, rfl, O, c7, c8, c9, HBc⟩ := hcut
  have Hc : Below w.heap.size w wc := H4.trans (HBc.mono H4.size)
  obtain ⟨CD, ID, TD⟩ := HCD.out wc Hc
  have HS := hideK (stepM_any v f c r HP.out.1 HP.out.2 ins m w4.heap.size vv tv lv fv s cap is ic wc O HBc.size c7 c8 c9 CD ID TD hln)
  clear HCR HCD HP KS CD ID TD
  go_wp2_with (go_at_call 48; fail)
  refine HS.out.mono ?_
  rintro e w6 ⟨rfl, ⟨vv6, tv6, lv6, fv6, O6⟩, M2, M3, M4⟩
  clear HS M3 M4 O
  have hm4 : w4.heap.size ≤ m := O6.low
  obtain ⟨vs6, vc6, ts6, tc6, ls6, lc6, rfl, rfl, rfl, -⟩ := O6.rows.at
  have H46 : Below w4.heap.size w4 w6 := HBc.trans M2
  have H6 : Below w.heap.size w w6 := H4.trans (H46.mono H4.size)
  have Z6 := Z4.call H46
  obtain ⟨⟨r0, r1, r2, r3, r4, r5⟩, rz, rf⟩ := id Z6
  have g0 := rf 0
  have g1 := rf 1
  have g2 := rf 2
  have g3 := rf 3
  have g4 := rf 4
  have g5 := rf 5
  obtain ⟨⟨m0, m1, m2, m3, m4, m5⟩, mz, mf⟩ := id O6.r6
  have hne : m ≠ w.heap.size + 1 + 1 := by omega
  have HY := hideK (And.intro ((O6.rows.set6 (b := w.heap.size + 1 + 1) (by omega) (.int .i64 (stepSt f c ins r).at_) (.slice vs6 (stepSt f c ins r).vars.length vc6) (.slice ts6 (stepSt f c ins r).things.length tc6) (.int .i64 (stepSt f c ins r).taken) (.slice ls6 (stepSt f c ins r).lines.length lc6) (.int .i64 (stepSt f c ins r).fin)).down (show w.heap.size ≤ w4.heap.size by omega)) (below_set6 H6 (show w.heap.size ≤ w.heap.size + 1 + 1 by omega) (.int .i64 (stepSt f c ins r).at_) (.slice vs6 (stepSt f c ins r).vars.length vc6) (.slice ts6 (stepSt f c ins r).things.length tc6) (.int .i64 (stepSt f c ins r).taken) (.slice ls6 (stepSt f c ins r).lines.length lc6) (.int .i64 (stepSt f c ins r).fin)))
  clear O6 Z6 Z4 rf mf H46 M2 HBc Hc
  generalize hst : stepSt f c ins r = st at *
  have HST := hideK hst
  clear hst
  go_wp2
  refine bodyPost_ret (v := .tuple #[.agg #[.int .i64 st.at_, .slice vs6 st.vars.length vc6, .slice ts6 st.things.length tc6, .int .i64 st.taken, .slice ls6 st.lines.length lc6, .int .i64 st.fin], .int .i64 0]) (by simp [results, Tryd.results20, go_sem, r0, r1, r2, r3, r4, r5]) rfl ?_
  rw [HST.out]
  exact ⟨_, _, _, fv6, rfl, HY.out.1, HY.out.2⟩
end Go.Proofs.YtmapdpcfanecdaaDoor

namespace Go.Proofs.YtmapdpcfanecdaaDoor
set_option linter.unusedVariables false
set_option linter.unusedSimpArgs false

theorem stepsSt_done {F : Int} {c : List Ins} {ins : List Int} {n : Nat} {r : St} (h : n = 0 ∨ r.fin ≠ 0) : stepsSt F c ins n r = (r, 0) := by
  cases n with
  | zero => rfl
  | succ n => unfold stepsSt; rw [if_pos (by rcases h with h | h; exact absurd h (by omega); exact h)]
theorem stepsSt_go {F : Int} {c : List Ins} {ins : List Int} {n : Nat} {r : St} (h : r.fin = 0) : stepsSt F c ins (n + 1) r = ((stepsSt F c ins n (stepSt F c ins r)).1, (stepsSt F c ins n (stepSt F c ins r)).2 + 1) := by
  rw [stepsSt.eq_def]
  simp [h]
theorem effSt_lines (F : Int) (ins : List Int) (r : St) (i : Ins) (a b : Val) : (effSt F ins r i a b).lines.length ≤ r.lines.length + 1 := by
  have h : ∀ q : St, q.lines.length ≤ r.lines.length + 1 → (if nTo i.k then putVar q i.to (makes r ins i a b) else q).lines.length ≤ r.lines.length + 1 := fun q h => by split <;> exact h
  unfold effSt
  simp only
  apply h
  split
  · simp
  split
  · simp [putField]
  split
  · simp
  split
  · simp
  · simp
theorem effSt_taken (F : Int) (ins : List Int) (r : St) (i : Ins) (a b : Val) (h0 : 0 ≤ r.taken) (h1 : r.taken < 9223372036854775807) : (effSt F ins r i a b).taken ≤ r.taken + 1 := by
  have h : ∀ q : St, q.taken ≤ r.taken + 1 → (if nTo i.k then putVar q i.to (makes r ins i a b) else q).taken ≤ r.taken + 1 := fun q h => by split <;> exact h
  unfold effSt
  simp only
  apply h
  split
  · simp only; omega
  split
  · simp only [putField]; omega
  split
  · simp only; rw [w64_of (by omega) (by omega)]; omega
  split
  · simp only; omega
  · omega
theorem stepSt_lines (F : Int) (c : List Ins) (ins : List Int) (r : St) : (stepSt F c ins r).lines.length ≤ r.lines.length + 1 := by
  rw [stepSt_eq]
  split
  · omega
  split
  · simp
  split
  · simp
  · exact effSt_lines F ins r _ _ _
theorem stepSt_taken (F : Int) (c : List Ins) (ins : List Int) (r : St) (h0 : 0 ≤ r.taken) (h1 : r.taken < 9223372036854775807) : (stepSt F c ins r).taken ≤ r.taken + 1 := by
  rw [stepSt_eq]
  split
  · omega
  split
  · simp only; omega
  split
  · simp only; omega
  · exact effSt_taken F ins r _ _ _ h0 h1
theorem beginSt_ok {V F : Int} {c : List Ins} (hp : ProgOk V F c) : RunOk V F c (beginSt V) := by
  have := hp.v1
  refine ⟨by simp [beginSt], by simp [beginSt], by simp [beginSt], by simp [beginSt], by simp [beginSt], by simp [beginSt]; omega, by simp [beginSt], fun t ht => ?_, fun t ht => ?_, fun v hv => ?_, fun t ht => ?_⟩
  · simp [beginSt] at ht
  · simp [beginSt] at ht
  · simp only [beginSt] at hv
    rw [(List.mem_replicate.1 hv).2]
    exact okVal_zero
  · simp [beginSt] at ht
theorem runSt_of {V F : Int} {c : List Ins} {ins : List Int} {fuel k : Nat} {s : St} (h : stepsSt F c ins fuel (beginSt V) = (s, k)) : runSt V F c ins fuel = (if s.fin = 0 then { s with fin := 4 } else s, k) := by
  unfold runSt
  rw [h]
end Go.Proofs.YtmapdpcfanecdaaDoor

namespace Go.Proofs.YtmapdpcfanecdaaDoor
set_option linter.unusedVariables false
set_option linter.unusedSimpArgs false
open Go.RowKit
attribute [local go_sem ↓] Go.wp_at_zero Go.wp_at_succ

/-- What is known at the head of a round of the run's loop. -/
structure RunRound (w0 wr : World) (m : Nat) (v f : Nat) (c : List Ins) (ins : List Int) (fuel k : Nat) (st : St) (s : Option Addr) (cap : Nat) (is : Option Addr) (ic : Nat) : Prop where
  own : ∃ vv tv lv fv, OwnRun wr w0.heap.size m st vv tv lv fv
  low : Below w0.heap.size w0 wr
  c7 : wr.cell? ⟨m, 7, none⟩ = some (.int .i64 f)
  c8 : wr.cell? ⟨m, 8, none⟩ = some (.slice s c.length cap)
  c9 : wr.cell? ⟨m, 9, none⟩ = some (.slice is ins.length ic)
  ok : RunOk v f c st
  le : k ≤ fuel
  rel : stepsSt f c ins fuel (beginSt v) = ((stepsSt f c ins (fuel - k) st).1, (stepsSt f c ins (fuel - k) st).2 + k)
  lines : st.lines.length ≤ k
  taken : st.taken ≤ k
theorem RunRound.next {w0 wr w' : World} {m v f : Nat} {c : List Ins} {ins : List Int} {fuel k : Nat} {st : St} {s : Option Addr} {cap : Nat} {is : Option Addr} {ic : Nat} {bs : List (Option Nat)} (h : RunRound w0 wr m v f c ins fuel k st s cap is ic) (hp : ProgOk v f c) (hf : st.fin = 0) (hk : k < fuel) (hf5 : fuel ≤ 5000) (hs : MStep wr w' w0.heap.size m bs (stepSt f c ins st)) : RunRound w0 w' m v f c ins fuel (k + 1) (stepSt f c ins st) s cap is ic := by
  have ht := h.taken
  have hl := h.lines
  refine ⟨hs.1, h.low.trans hs.2.1, by rw [hs.2.2.1 7 (by omega)]; exact h.c7, by rw [hs.2.2.1 8 (by omega)]; exact h.c8, by rw [hs.2.2.1 9 (by omega)]; exact h.c9, stepSt_ok ins hp h.ok (by omega), hk, ?_, ?_, ?_⟩
  · rw [h.rel, show fuel - k = (fuel - (k + 1)) + 1 by omega, stepsSt_go hf]
    simp only [Prod.mk.injEq, true_and]
    omega
  · have := stepSt_lines f c ins st; omega
  · have := stepSt_taken f c ins st h.ok.tk (by omega); omega
set_option maxHeartbeats 4000000 in
set_option maxRecDepth 20000 in
theorem runM_ok (v f : Nat) (s : Option Addr) (c : List Ins) (cap : Nat) (is : Option Addr) (ic : Nat) (ins : List Int) (fuel : Nat) (w : World) (hc : CodeAt w s c) (hI : IntsAt w is ins) (hT : Tab w) (h0 : ckProg v f c = 0) (hf5 : fuel ≤ 5000) :
    Calls Tryd.prog 27 #[.agg #[.int .i64 (v : Int), .int .i64 (f : Int), .slice s c.length cap], .slice is ins.length ic, .int .i64 (fuel : Int)] w fun e w' => ∃ vv tv lv fv, e = .returned (.tuple #[.agg #[.int .i64 (runSt v f c ins fuel).1.at_, vv, tv, .int .i64 (runSt v f c ins fuel).1.taken, lv, .int .i64 (runSt v f c ins fuel).1.fin], .int .i64 (runSt v f c ins fuel).2, .int .i64 0]) ∧ OwnRows w' w.heap.size (runSt v f c ins fuel).1 vv tv lv fv ∧ RunOk v f c (runSt v f c ins fuel).1 ∧ (runSt v f c ins fuel).1.lines.length ≤ 5000 ∧ Below w.heap.size w w' := by
  have hp := progOk_of h0
  have hv8 : v ≤ 8 := by have := hp.v8; omega
  have hb0 : Below w.heap.size w ((w.alloc (.cells #[.int .i64 (v : Int), .int .i64 (f : Int), .slice s c.length cap] 24)).alloc (.cells #[.int .i64 0, .slice none 0 0, .slice none 0 0, .int .i64 0, .slice none 0 0, .int .i64 0] 46)) := by go_grown
  have Z0 := R6.new (w.alloc (.cells #[.int .i64 (v : Int), .int .i64 (f : Int), .slice s c.length cap] 24)) 46 (.int .i64 0) (.slice none 0 0) (.slice none 0 0) (.int .i64 0) (.slice none 0 0) (.int .i64 0)
  rw [World.size_alloc] at Z0
  have hc0 := hc.below hb0 (Nat.le_refl _)
  have hI0 := hI.below hb0 (Nat.le_refl _)
  have hT0 := hT.below hb0
  have HB := hideK (begin_ok v f s c cap ((w.alloc (.cells #[.int .i64 (v : Int), .int .i64 (f : Int), .slice s c.length cap] 24)).alloc (.cells #[.int .i64 0, .slice none 0 0, .slice none 0 0, .int .i64 0, .slice none 0 0, .int .i64 0] 46)) hc0 h0)
  have p0 : ((w.alloc (.cells #[.int .i64 (v : Int), .int .i64 (f : Int), .slice s c.length cap] 24)).alloc (.cells #[.int .i64 0, .slice none 0 0, .slice none 0 0, .int .i64 0, .slice none 0 0, .int .i64 0] 46)).cell? ⟨w.heap.size, 0, none⟩ = some (.int .i64 v) := by simp [go_sem]
  have p1 : ((w.alloc (.cells #[.int .i64 (v : Int), .int .i64 (f : Int), .slice s c.length cap] 24)).alloc (.cells #[.int .i64 0, .slice none 0 0, .slice none 0 0, .int .i64 0, .slice none 0 0, .int .i64 0] 46)).cell? ⟨w.heap.size, 1, none⟩ = some (.int .i64 f) := by simp [go_sem]
  have p2 : ((w.alloc (.cells #[.int .i64 (v : Int), .int .i64 (f : Int), .slice s c.length cap] 24)).alloc (.cells #[.int .i64 0, .slice none 0 0, .slice none 0 0, .int .i64 0, .slice none 0 0, .int .i64 0] 46)).cell? ⟨w.heap.size, 2, none⟩ = some (.slice s c.length cap) := by simp [go_sem]
  have hzw : ((w.alloc (.cells #[.int .i64 (v : Int), .int .i64 (f : Int), .slice s c.length cap] 24)).alloc (.cells #[.int .i64 0, .slice none 0 0, .slice none 0 0, .int .i64 0, .slice none 0 0, .int .i64 0] 46)).heap.size = w.heap.size + 1 + 1 := by simp
  have HQ := hideK hp
  clear hc hI hT h0 hp
  go_enter Tryd.func27, Tryd.ntmps27
  go_wp2_with (go_at_call 19; fail)
  generalize ((w.alloc (.cells #[.int .i64 (v : Int), .int .i64 (f : Int), .slice s c.length cap] 24)).alloc (.cells #[.int .i64 0, .slice none 0 0, .slice none 0 0, .int .i64 0, .slice none 0 0, .int .i64 0] 46)) = w0 at *
  refine HB.out.mono ?_
  rintro e w1 ⟨g, rfl, hown, hb1⟩
  clear HB
  rw [made_zero v hv8] at hown
  have hz1 : w0.heap.size ≤ w1.heap.size := hb1.size
  have H2 : Below w0.heap.size w0 (w1.alloc (.cells #[.int .i64 0, .slice (some ⟨g, 0, none⟩) v v, .slice none 0 0, .int .i64 0, .slice none 0 0, .int .i64 0] 46)) := hb1.alloc hz1 _
  have H3 : Below w0.heap.size w0 ((w1.alloc (.cells #[.int .i64 0, .slice (some ⟨g, 0, none⟩) v v, .slice none 0 0, .int .i64 0, .slice none 0 0, .int .i64 0] 46)).alloc (.cells #[.int .i64 0, .slice (some ⟨g, 0, none⟩) v v, .slice none 0 0, .int .i64 0, .slice none 0 0, .int .i64 0, .int .i64 v, .int .i64 f, .slice s c.length cap, .slice is ins.length ic] 92)) := H2.alloc (by simp; omega) _
  have R1 := begin_rows hv8 hown
  have R3 := R1.below (w' := (w1.alloc (.cells #[.int .i64 0, .slice (some ⟨g, 0, none⟩) v v, .slice none 0 0, .int .i64 0, .slice none 0 0, .int .i64 0] 46)).alloc (.cells #[.int .i64 0, .slice (some ⟨g, 0, none⟩) v v, .slice none 0 0, .int .i64 0, .slice none 0 0, .int .i64 0, .int .i64 v, .int .i64 f, .slice s c.length cap, .slice is ins.length ic] 92)) (by go_grown)
  have C3 : RunCells ((w1.alloc (.cells #[.int .i64 0, .slice (some ⟨g, 0, none⟩) v v, .slice none 0 0, .int .i64 0, .slice none 0 0, .int .i64 0] 46)).alloc (.cells #[.int .i64 0, .slice (some ⟨g, 0, none⟩) v v, .slice none 0 0, .int .i64 0, .slice none 0 0, .int .i64 0, .int .i64 v, .int .i64 f, .slice s c.length cap, .slice is ins.length ic] 92)) (w1.heap.size + 1) (beginSt v) (.slice (some ⟨g, 0, none⟩) v v) (.slice none 0 0) (.slice none 0 0) := by
    refine ⟨⟨?_, ?_, ?_, ?_, ?_, ?_⟩, fun j => ?_⟩ <;> simp [go_sem, beginSt]
  have O3 := R3.run' C3 (by omega) (fun hm => by have := (R1.lt hm).1; omega)
  have RR : RunRound w0 ((w1.alloc (.cells #[.int .i64 0, .slice (some ⟨g, 0, none⟩) v v, .slice none 0 0, .int .i64 0, .slice none 0 0, .int .i64 0] 46)).alloc (.cells #[.int .i64 0, .slice (some ⟨g, 0, none⟩) v v, .slice none 0 0, .int .i64 0, .slice none 0 0, .int .i64 0, .int .i64 v, .int .i64 f, .slice s c.length cap, .slice is ins.length ic] 92)) (w1.heap.size + 1) v f c ins fuel 0 (beginSt v) s cap is ic :=
    ⟨⟨_, _, _, _, O3⟩, H3, by simp [go_sem], by simp [go_sem], by simp [go_sem], beginSt_ok HQ.out, Nat.zero_le _, by simp, by simp [beginSt], by simp [beginSt]⟩
  have nf0 : ¬ ((fuel : Int) < 0) := by omega
  have hl0 : w.heap.size < w1.heap.size := by omega
  have hl1 : w.heap.size + 1 < w1.heap.size := by omega
  have nf5 : ¬ (5000 < (fuel : Int)) := by omega
  have q0 : w1.cell? ⟨w.heap.size, 0, none⟩ = some (.int .i64 v) := by rw [hb1.cell (by simp; omega)]; exact p0
  have q1 : w1.cell? ⟨w.heap.size, 1, none⟩ = some (.int .i64 f) := by rw [hb1.cell (by simp; omega)]; exact p1
  have q2 : w1.cell? ⟨w.heap.size, 2, none⟩ = some (.slice s c.length cap) := by rw [hb1.cell (by simp; omega)]; exact p2
  have HRR := hideK RR
  clear R1 R3 C3 O3 H2 H3 hown p0 p1 p2 RR
  go_wp2

  generalize (w1.alloc (.cells #[.int .i64 0, .slice (some ⟨g, 0, none⟩) v v, .slice none 0 0, .int .i64 0, .slice none 0 0, .int .i64 0] 46)).alloc (.cells #[.int .i64 0, .slice (some ⟨g, 0, none⟩) v v, .slice none 0 0, .int .i64 0, .slice none 0 0, .int .i64 0, .int .i64 v, .int .i64 f, .slice s c.length cap, .slice is ins.length ic] 92) = w3 at *
  go_loopw [12] (fun i wr => ∃ (k : Nat) (st : St), i = .int .i64 k ∧ RunRound w0 wr (w1.heap.size + 1) v f c ins fuel k st s cap is ic) (fun i _ => fuel - (intOf i).toNat)
  case atStart => exact ⟨0, _, rfl, HRR.out⟩
  case round =>
    obtain ⟨k, st, rfl, hR⟩ := hrel
    obtain ⟨vv, tv, lv, fv, O⟩ := hR.own
    obtain ⟨vs, vc, ts, tc, ls, lc, rfl, rfl, rfl, -⟩ := O.rows.at
    have l5 := O.fin_
    have hkf := hR.le
    by_cases hfin : st.fin = 0
    · by_cases hlt : k < fuel
      · have n1 : (k : Int) < (fuel : Int) := by omega
        rw [hfin] at l5
        have HS := hideK (stepM_any v f c st HQ.out hR.ok ins (w1.heap.size + 1) w0.heap.size (.slice vs st.vars.length vc) (.slice ts st.things.length tc) (.slice ls st.lines.length lc) fv s cap is ic wr O hR.low.size hR.c7 hR.c8 hR.c9 (hc0.below hR.low (Nat.le_refl _)) (hI0.below hR.low (Nat.le_refl _)) (hT0.below hR.low) (by have := hR.lines; omega))
        have HN := hideK (fun (w' : World) (bs : List (Option Nat)) (hs : MStep wr w' w0.heap.size (w1.heap.size + 1) bs (stepSt f c ins st)) => hR.next HQ.out hfin hlt hf5 hs)
        clear O hR
        go_wp2_with (go_at_call 48; fail)
        refine HS.out.mono ?_
        rintro e w5 ⟨rfl, hms⟩
        have HR5 := hideK (HN.out _ _ hms)
        clear HS HN hms
        go_wp2
        go_roundw
        case rel => exact ⟨k + 1, _, by go_num, HR5.out⟩
        case measure => simp [intOf]; omega
      · have hkk : k = fuel := by omega
        subst hkk
        rw [hfin] at l5
        have HX := hideK (And.intro O hR)
        have HE : Hid (runSt v f c ins k = ({ st with fin := 4 }, k)) := by
          show _ = _
          rw [runSt_of (s := st) (k := k) (by rw [hR.rel, Nat.sub_self, stepsSt_done (.inl rfl)]; simp), if_pos hfin]
        have d5 := O.thaw 5
        have O4 := O.withFin 4
        have Z5 := ((Z0.below hR.low Z0.2.1).same (w' := wr.setCell ⟨w1.heap.size + 1, 5, none⟩ (.int .i64 4)) (Below.heap_setCell _ _ _ _ (by simp; omega)) (by simp [World.setCell]))
        obtain ⟨⟨r0, r1, r2, r3, r4, r5⟩, rz, rf⟩ := id (Z0.below hR.low Z0.2.1)
        have g0 := rf 0
        have g1 := rf 1
        have g2 := rf 2
        have g3 := rf 3
        have g4 := rf 4
        have g5 := rf 5
        obtain ⟨⟨m0, m1, m2, m3, m4, m5⟩, mz, mf⟩ := id O.r6
        rw [hfin] at m5
        have hbne : w.heap.size ≠ w1.heap.size := by omega
        have hbne' : w1.heap.size ≠ w.heap.size := by omega
        have Z6 := Z5.put (.int .i64 st.at_) (.slice vs st.vars.length vc) (.slice ts st.things.length tc) (.int .i64 st.taken) (.slice ls st.lines.length lc) (.int .i64 4)
        obtain ⟨⟨s0, s1, s2, s3, s4, s5⟩, sz, sf⟩ := id Z6
        have R6' := (O4.rows.set6 (b := w.heap.size + 1) (by omega) (.int .i64 st.at_) (.slice vs st.vars.length vc) (.slice ts st.things.length tc) (.int .i64 st.taken) (.slice ls st.lines.length lc) (.int .i64 4)).down (show w.heap.size ≤ w0.heap.size by omega)
        have HL : Below w.heap.size w (set6 (wr.setCell ⟨w1.heap.size + 1, 5, none⟩ (.int .i64 4)) (w.heap.size + 1) (.int .i64 st.at_) (.slice vs st.vars.length vc) (.slice ts st.things.length tc) (.int .i64 st.taken) (.slice ls st.lines.length lc) (.int .i64 4)) := below_set6 ((hb0.trans (hR.low.mono (by omega))).setCell (by simp; omega) _) (by omega) _ _ _ _ _ _
        have HY := hideK (And.intro R6' (And.intro HL (hR.ok.finish 4 (by omega) (by omega))))
        have hln := hR.lines
        clear O hR O4 Z5 Z6 R6' HL HX
        go_wp2
        refine bodyPost_ret (v := .tuple #[.agg #[.int .i64 st.at_, .slice vs st.vars.length vc, .slice ts st.things.length tc, .int .i64 st.taken, .slice ls st.lines.length lc, .int .i64 4], .int .i64 k, .int .i64 0]) (by simp [results, Tryd.results27, go_sem, r0, r1, r2, r3, r4, r5]) rfl ?_
        rw [HE.out]
        exact ⟨_, _, _, fv, rfl, HY.out.1, HY.out.2.2, by show st.lines.length ≤ 5000; omega, HY.out.2.1⟩
    · have b5 : (st.fin == 0) = false := by simpa using hfin
      have HE : Hid (runSt v f c ins fuel = (st, k)) := by
        show _ = _
        rw [runSt_of (s := st) (k := k) (by rw [hR.rel, stepsSt_done (.inr hfin)]; simp), if_neg hfin]
      have Z5 := Z0.below hR.low Z0.2.1
      obtain ⟨⟨r0, r1, r2, r3, r4, r5⟩, rz, rf⟩ := id Z5
      have g0 := rf 0
      have g1 := rf 1
      have g2 := rf 2
      have g3 := rf 3
      have g4 := rf 4
      have g5 := rf 5
      obtain ⟨⟨m0, m1, m2, m3, m4, m5⟩, mz, mf⟩ := id O.r6
      have Z6 := Z5.put (.int .i64 st.at_) (.slice vs st.vars.length vc) (.slice ts st.things.length tc) (.int .i64 st.taken) (.slice ls st.lines.length lc) (.int .i64 st.fin)
      obtain ⟨⟨s0, s1, s2, s3, s4, s5⟩, sz, sf⟩ := id Z6
      have R6' := (O.rows.set6 (b := w.heap.size + 1) (by omega) (.int .i64 st.at_) (.slice vs st.vars.length vc) (.slice ts st.things.length tc) (.int .i64 st.taken) (.slice ls st.lines.length lc) (.int .i64 st.fin)).down (show w.heap.size ≤ w0.heap.size by omega)
      have HL : Below w.heap.size w (set6 wr (w.heap.size + 1) (.int .i64 st.at_) (.slice vs st.vars.length vc) (.slice ts st.things.length tc) (.int .i64 st.taken) (.slice ls st.lines.length lc) (.int .i64 st.fin)) := below_set6 (hb0.trans (hR.low.mono (by omega))) (by omega) _ _ _ _ _ _
      have HY := hideK (And.intro R6' (And.intro HL hR.ok))
      have hln := hR.lines
      clear O hR Z5 Z6 R6' HL
      go_wp2
      refine bodyPost_ret (v := .tuple #[.agg #[.int .i64 st.at_, .slice vs st.vars.length vc, .slice ts st.things.length tc, .int .i64 st.taken, .slice ls st.lines.length lc, .int .i64 st.fin], .int .i64 k, .int .i64 0]) (by simp [results, Tryd.results27, go_sem, r0, r1, r2, r3, r4, r5]) rfl ?_
      rw [HE.out]
      exact ⟨_, _, _, fv, rfl, HY.out.1, HY.out.2.2, by show st.lines.length ≤ 5000; omega, HY.out.2.1⟩
end Go.Proofs.YtmapdpcfanecdaaDoor

namespace Go.Proofs.YtmapdpcfanecdaaDoor
set_option linter.unusedVariables false
set_option linter.unusedSimpArgs false
open Go.RowKit

theorem hideR {p : Prop} (h : p) : Hid p := h
/-- No run. -/
def zeroSt : St := ⟨0, [], [], 0, [], 0⟩
theorem zeroSt_at (w : World) : RunAt w zeroSt none none none := ⟨.inl rfl, .inl rfl, .inl rfl⟩
theorem zeroSt_len : LenSt zeroSt := ⟨by simp [zeroSt], by simp [zeroSt], by simp [zeroSt], fun t ht => by simp [zeroSt] at ht⟩

set_option maxHeartbeats 2000000 in
set_option maxRecDepth 10000 in
theorem runIs_ok (r : St) (vs1 : Option Addr) (vc1 : Nat) (ts1 : Option Addr) (tc1 : Nat) (ls1 : Option Addr) (lc1 : Nat) (vs2 : Option Addr) (vc2 : Nat) (ts2 : Option Addr) (tc2 : Nat) (ls2 : Option Addr) (lc2 : Nat) (w : World) (hl : LenSt r) (h1 : RunAt w r vs1 ts1 ls1) (h2 : RunAt w r vs2 ts2 ls2) :
    Calls Tryd.prog 26 #[runV r vs1 vc1 ts1 tc1 ls1 lc1, .int .i64 0, .int .i64 0, runV r vs2 vc2 ts2 tc2 ls2 lc2] w fun e w' => e = .returned (.bool true) ∧ Below w.heap.size w w' := by
  have HS : Hid (∀ wx, Below w.heap.size w wx → Calls Tryd.prog 59 #[runV r vs1 vc1 ts1 tc1 ls1 lc1, runV r vs2 vc2 ts2 tc2 ls2 lc2] wx fun e w' => e = .returned (.bool true) ∧ Below wx.heap.size wx w') := fun wx hx => sameRun_any r vs1 vc1 ts1 tc1 ls1 lc1 vs2 vc2 ts2 tc2 ls2 lc2 wx hl (h1.below hx (Nat.le_refl _)) (h2.below hx (Nat.le_refl _))
  clear hl h1 h2
  unfold runV at HS ⊢
  go_enter Tryd.func26, Tryd.ntmps26
  go_wp2_with (go_at_call 59; fail)
  refine (HS.out _ (by go_grown)).mono ?_
  rintro e w1 ⟨rfl, hb1⟩
  go_wp2
  go_ret
  exact ⟨rfl, Below.trans (by go_grown) (hb1.mono (by simp; omega))⟩

set_option maxHeartbeats 2000000 in
set_option maxRecDepth 10000 in
theorem runIs_err (c : Int) (r : St) (vs2 : Option Addr) (vc2 : Nat) (ts2 : Option Addr) (tc2 : Nat) (ls2 : Option Addr) (lc2 : Nat) (w : World) (hne : (c != 0) = true) :
    Calls Tryd.prog 26 #[runV zeroSt none 0 none 0 none 0, .int .i64 c, .int .i64 c, runV r vs2 vc2 ts2 tc2 ls2 lc2] w fun e w' => e = .returned (.bool true) ∧ Below w.heap.size w w' := by
  have HS := hideR (fun wx => sameRun_any zeroSt none 0 none 0 none 0 none 0 none 0 none 0 wx zeroSt_len (zeroSt_at _) (zeroSt_at _))
  unfold runV at HS ⊢
  simp only [zeroSt, List.length_nil] at HS
  go_enter Tryd.func26, Tryd.ntmps26
  simp only [zeroSt, List.length_nil]
  go_wp2_with (go_at_call 59; fail)
  refine (HS.out _).mono ?_
  rintro e w1 ⟨rfl, hb1⟩
  go_wp2
  go_ret
  exact ⟨rfl, Below.trans (by go_grown) (hb1.mono (by simp; omega))⟩
end Go.Proofs.YtmapdpcfanecdaaDoor

namespace Go.Proofs.YtmapdpcfanecdaaDoor
set_option linter.unusedVariables false
set_option linter.unusedSimpArgs false
open Go.RowKit

/-- A run, and the errno beside it. -/
def RunE (w' : World) (e : Ending) (st : St) (er : Int) : Prop := ∃ vs vc ts tc ls lc, e = .returned (.tuple #[.agg #[.int .i64 st.at_, .slice vs st.vars.length vc, .slice ts st.things.length tc, .int .i64 st.taken, .slice ls st.lines.length lc, .int .i64 st.fin], .int .i64 er]) ∧ RunAt w' st vs ts ls
def begOf (V F : Int) (c : List Ins) : St := if ckProg V F c = 0 then beginSt V else zeroSt
def stpOf (V F : Int) (c : List Ins) (ins : List Int) (r : St) : St := if ckBoth V F c r = 0 then stepSt F c ins r else zeroSt
theorem OwnRows.runAt {w : World} {B : Nat} {st : St} {cv ct cl : Option Addr} {n1 n2 n3 cvc ctc clc : Nat} {fv : List Value} (h : OwnRows w B st (.slice cv n1 cvc) (.slice ct n2 ctc) (.slice cl n3 clc) fv) : RunAt w st cv ct cl := by
  obtain ⟨_, _, _, _, _, _, e1, e2, e3, h1⟩ := h.at
  cases e1
  cases e2
  cases e3
  exact h1
theorem beginU (V F : Int) (s : Option Addr) (c : List Ins) (cap : Nat) (w : World) (hc : CodeAt w s c) :
    Calls Tryd.prog 19 #[.agg #[.int .i64 V, .int .i64 F, .slice s c.length cap]] w fun e w' => RunE w' e (begOf V F c) (ckProg V F c) ∧ Below w.heap.size w w' := by
  unfold begOf
  by_cases h0 : ckProg V F c = 0
  · have hp := progOk_of h0
    have hv8 := hp.v8
    obtain ⟨v, rfl⟩ := Int.eq_ofNat_of_zero_le (show 0 ≤ V by have := hp.v1; omega)
    refine (begin_ok v F s c cap w hc h0).mono ?_
    rintro e w' ⟨g, rfl, hown, hb⟩
    rw [made_zero v (by omega)] at hown
    obtain ⟨vs, vc, ts, tc, ls, lc, e1, e2, e3, hat⟩ := (begin_rows (by omega) hown).at
    rw [h0, if_pos rfl]
    refine ⟨⟨vs, vc, ts, tc, ls, lc, ?_, hat⟩, hb⟩
    rw [← e1, ← e2, ← e3]
    rfl
  · refine (begin_err V F s c cap w hc h0).mono ?_
    rintro e w' ⟨rfl, hb⟩
    rw [if_neg h0]
    exact ⟨⟨none, 0, none, 0, none, 0, rfl, zeroSt_at _⟩, hb⟩
theorem stepU (V F : Int) (s : Option Addr) (c : List Ins) (cap : Nat) (r : St) (vs : Option Addr) (vc : Nat) (ts : Option Addr) (tc : Nat) (ls : Option Addr) (lc : Nat) (is : Option Addr) (ic : Nat) (ins : List Int) (w : World) (hc : CodeAt w s c) (hl : LenSt r) (hr : RunAt w r vs ts ls) (hI : IntsAt w is ins) (hT : Tab w) (hln : (r.lines.length + 1) * 16 ≤ 140737488355328) :
    Calls Tryd.prog 20 #[.agg #[.int .i64 V, .int .i64 F, .slice s c.length cap], runV r vs vc ts tc ls lc, .slice is ins.length ic] w fun e w' => RunE w' e (stpOf V F c ins r) (ckBoth V F c r) ∧ Below w.heap.size w w' := by
  unfold stpOf
  by_cases h0 : ckBoth V F c r = 0
  · have hp0 : ckProg V F c = 0 := by
      unfold ckBoth at h0
      split at h0
      · assumption
      · exact h0
    have hp := progOk_of hp0
    obtain ⟨v, rfl⟩ := Int.eq_ofNat_of_zero_le (show 0 ≤ V by have := hp.v1; omega)
    obtain ⟨f, rfl⟩ := Int.eq_ofNat_of_zero_le hp.f0
    refine (runStep_ok v f s c cap r vs vc ts tc ls lc is ic ins w hc hl hr hI hT hln h0).mono ?_
    rintro e w' ⟨vv, tv, lv, fv, rfl, OR, hb⟩
    obtain ⟨vs2, vc2, ts2, tc2, ls2, lc2, rfl, rfl, rfl, hat⟩ := OR.at
    rw [h0, if_pos rfl]
    exact ⟨⟨_, _, _, _, _, _, rfl, hat⟩, hb⟩
  · refine (runStep_err V F s c cap r vs vc ts tc ls lc is ic ins w hc hl hr h0).mono ?_
    rintro e w' ⟨rfl, hb⟩
    rw [if_neg h0]
    exact ⟨⟨none, 0, none, 0, none, 0, rfl, zeroSt_at _⟩, hb⟩
end Go.Proofs.YtmapdpcfanecdaaDoor

namespace Go.Proofs.YtmapdpcfanecdaaDoor
set_option linter.unusedVariables false
set_option linter.unusedSimpArgs false
open Go.RowKit

theorem ret_boolR {a b : Bool} (h : a = b) : Ending.returned (.bool a) = .returned (.bool b) := by rw [h]

set_option maxHeartbeats 1000000 in
set_option maxRecDepth 10000 in
theorem isNewR_any (V F : Int) (s : Option Addr) (c : List Ins) (cap : Nat) (x : Int) (w : World) (hc : CodeAt w s c) (hl : c.length ≤ 60) :
    Calls Tryd.prog 77 #[.agg #[.int .i64 V, .int .i64 F, .slice s c.length cap], .int .i64 x] w fun e w' => e = .returned (.bool (isNew c x)) ∧ Below w.heap.size w w' := by
  have hl' : (c.length : Int) ≤ 60 := by omega
  by_cases hx : 0 ≤ x ∧ x ≤ (c.length : Int) - 1
  · have hb := btw_true hx.1 hx.2
    obtain ⟨k, rfl⟩ := Int.eq_ofNat_of_zero_le hx.1
    have hk : k < c.length := by omega
    have hg : Below w.heap.size w (w.alloc (.cells #[.int .i64 V, .int .i64 F, .slice s c.length cap] 24)) := by go_grown
    have CA := hc.below hg (Nat.le_refl _)
    rcases CA with CA | ⟨b, off, rfl, hbl, hi⟩
    · rw [CA] at hk; simp at hk
    · obtain ⟨i0, -, -, -, -, -⟩ := hi k hk
      have HR : Hid (isNew c k = decide (c[k].k = 11)) := by
        show _ = _
        unfold isNew insAt
        rw [hb, Int.toNat_natCast, show c.getD k zeroIns = c[k] by simp [List.getD, List.getElem?_eq_getElem hk]]
        simp
      have n0 : (0 : Int) ≤ (k : Int) := by omega
      have n1 : (k : Int) < (c.length : Int) := by omega
      clear hi hc hx hg
      go_enter Tryd.func77, Tryd.ntmps77
      go_wp2_with (go_at_call 36; fail)
      refine (between_any _ _ _ _).mono ?_
      rintro e w1 ⟨rfl, rfl⟩
      rw [hb]
      go_wp2
      go_ret
      exact ⟨ret_boolR (by rw [HR.out]; first | rfl | (simp; done) | exact (Bool.beq_eq_decide_eq _ _)), by go_grown⟩
  · have hb : btw x 0 ((c.length : Int) - 1) = false := by simp [btw]; omega
    have HR : Hid (isNew c x = false) := by
      show _ = _
      unfold isNew
      rw [hb]
      rfl
    clear hc hx
    go_enter Tryd.func77, Tryd.ntmps77
    go_wp2_with (go_at_call 36; fail)
    refine (between_any _ _ _ _).mono ?_
    rintro e w1 ⟨rfl, rfl⟩
    rw [hb]
    go_wp2
    go_ret
    exact ⟨ret_boolR (by rw [HR.out]), by go_grown⟩
end Go.Proofs.YtmapdpcfanecdaaDoor

namespace Go.Proofs.YtmapdpcfanecdaaDoor
set_option linter.unusedVariables false
set_option linter.unusedSimpArgs false
open Go.RowKit

set_option maxHeartbeats 1000000 in
set_option maxRecDepth 10000 in
theorem isValueR_any (k n : Int) (T : Nat) (w : World) (hT : T ≤ 1000000) :
    Calls Tryd.prog 78 #[.agg #[.int .i64 k, .int .i64 n], .int .i64 T] w fun e w' => e = .returned (.bool (okValB T ⟨k, n⟩)) ∧ Below w.heap.size w w' := by
  have b0 : -9223372036854775808 ≤ (T : Int) - 1 := by omega
  have b1 : (T : Int) - 1 ≤ 9223372036854775807 := by omega
  by_cases h0 : k = 0
  · subst h0
    have e0 : okValB T ⟨0, n⟩ = decide (n = 0) := by simp [okValB]
    rw [e0]
    clear e0
    by_cases hn : n = 0
    · subst hn
      go_enter Tryd.func78, Tryd.ntmps78
      go_wp2_with (go_at_call 36; refine (between_any _ _ _ _).mono ?_; rintro e w' ⟨rfl, rfl⟩)
      go_ret
      exact ⟨rfl, by go_grown⟩
    · rw [decide_eq_false hn]
      have hb : (n == 0) = false := by simpa using hn
      clear hn
      go_enter Tryd.func78, Tryd.ntmps78
      go_wp2_with (go_at_call 36; refine (between_any _ _ _ _).mono ?_; rintro e w' ⟨rfl, rfl⟩)
      go_ret
      exact ⟨rfl, by go_grown⟩
  by_cases h1 : k = 1
  · subst h1
    have e0 : okValB T ⟨1, n⟩ = btw n (-2147483648) 2147483647 := by simp [okValB]
    rw [e0]
    clear e0
    go_enter Tryd.func78, Tryd.ntmps78
    go_wp2_with (go_at_call 36; refine (between_any _ _ _ _).mono ?_; rintro e w' ⟨rfl, rfl⟩)
    go_ret
    exact ⟨rfl, by go_grown⟩
  by_cases h2 : k = 2
  · subst h2
    have e0 : okValB T ⟨2, n⟩ = btw n 0 1 := by simp [okValB]
    rw [e0]
    clear e0
    go_enter Tryd.func78, Tryd.ntmps78
    go_wp2_with (go_at_call 36; refine (between_any _ _ _ _).mono ?_; rintro e w' ⟨rfl, rfl⟩)
    go_ret
    exact ⟨rfl, by go_grown⟩
  by_cases h3 : k = 3
  · subst h3
    have e0 : okValB T ⟨3, n⟩ = btw n 0 ((T : Int) - 1) := by simp [okValB]
    rw [e0]
    clear e0
    go_enter Tryd.func78, Tryd.ntmps78
    go_wp2_with (go_at_call 36; refine (between_any _ _ _ _).mono ?_; rintro e w' ⟨rfl, rfl⟩)
    go_ret
    exact ⟨rfl, by go_grown⟩
  have e0 : okValB T ⟨k, n⟩ = false := by simp [okValB, h0, h1, h2, h3]
  rw [e0]
  have q0 : (k == 0) = false := by simpa using h0
  have q1 : (k == 1) = false := by simpa using h1
  have q2 : (k == 2) = false := by simpa using h2
  have q3 : (k == 3) = false := by simpa using h3
  clear e0 h0 h1 h2 h3
  go_enter Tryd.func78, Tryd.ntmps78
  go_wp2
  go_ret
  exact ⟨rfl, by go_grown⟩
end Go.Proofs.YtmapdpcfanecdaaDoor
