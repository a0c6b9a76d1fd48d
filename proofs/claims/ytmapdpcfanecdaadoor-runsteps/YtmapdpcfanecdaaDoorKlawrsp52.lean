/- Walks over package run: what the machine does, kind by kind. -/
import Derived.Test.YtmapdpcfanecdaaDoorKlawrsp08
import Derived.Test.YtmapdpcfanecdaaDoorKlawrsp51
import Derived.Deep.DeepCutAuto
namespace Go.Proofs.YtmapdpcfanecdaaDoor
set_option linter.unusedVariables false
set_option linter.unusedSimpArgs false
open Go.RowKit
attribute [local go_sem ↓] Go.wp_at_zero Go.wp_at_succ

set_option maxHeartbeats 8000000 in
set_option maxRecDepth 20000 in
theorem runSteps_bad (V F : Int) (s : Option Addr) (c : List Ins) (cap : Nat) (r : St) (vs : Option Addr) (vc : Nat) (ts : Option Addr) (tc : Nat) (ls : Option Addr) (lc : Nat) (is : Option Addr) (ic : Nat) (ins : List Int) (w : World) (hc : CodeAt w s c) (hl : LenSt r) (hr : RunAt w r vs ts ls) (hI : IntsAt w is ins) (hT : Tab w) (hln : (r.lines.length + 1) * 16 ≤ 140737488355328) (h0 : ckProg V F c ≠ 0) (hbg : ∀ wx, Tab wx → Calls Tryd.prog 24 #[] wx fun e w' => e = .returned (.bool true) ∧ Below wx.heap.size wx w') :
    Calls Tryd.prog 6 #[.agg #[.int .i64 V, .int .i64 F, .slice s c.length cap], runV r vs vc ts tc ls lc, .slice is ins.length ic] w fun e w' => e = .returned (.bool true) ∧ Below w.heap.size w w' := by
  have hb0 : Below w.heap.size w ((w.alloc (.cells #[.int .i64 V, .int .i64 F, .slice s c.length cap] 24)).alloc (.cells #[.int .i64 r.at_, .slice vs r.vars.length vc, .slice ts r.things.length tc, .int .i64 r.taken, .slice ls r.lines.length lc, .int .i64 r.fin] 46)) := by go_grown
  have P0 := (P3.new w V F s c.length cap).call (w' := ((w.alloc (.cells #[.int .i64 V, .int .i64 F, .slice s c.length cap] 24)).alloc (.cells #[.int .i64 r.at_, .slice vs r.vars.length vc, .slice ts r.things.length tc, .int .i64 r.taken, .slice ls r.lines.length lc, .int .i64 r.fin] 46))) (by go_grown)
  have Q0 := R6.new (w.alloc (.cells #[.int .i64 V, .int .i64 F, .slice s c.length cap] 24)) 46 (.int .i64 r.at_) (.slice vs r.vars.length vc) (.slice ts r.things.length tc) (.int .i64 r.taken) (.slice ls r.lines.length lc) (.int .i64 r.fin)
  rw [World.size_alloc] at Q0
  have hc0 := hc.below hb0 (Nat.le_refl _)
  have hr0 := hr.below hb0 (Nat.le_refl _)
  have hI0 := hI.below hb0 (Nat.le_refl _)
  have hT0 := hT.below hb0
  have HBE := hideK (fun wx hx => beginU V F s c cap wx hx)
  have HST := hideK (fun wx h1 h2 h3 h4 => stepU V F s c cap r vs vc ts tc ls lc is ic ins wx h1 hl h2 h3 h4 hln)
  have h1 : ckBoth V F c r = ckProg V F c := by unfold ckBoth; rw [if_neg h0]
  have HCP := hideK (fun wx hx => checkProgram_any V F s cap c wx hx)
  have HCB := hideK (fun wx hx hy => checkBoth_any V F s c cap r vs vc ts tc ls lc wx hx hl hy)
  have HCK := hideK (fun wx hx hy => runCheck_any V F s c cap r vs vc ts tc ls lc wx hx hl hy)
  have hsb : Hid (begOf V F c = zeroSt) := if_neg h0
  have hsp : Hid (stpOf V F c ins r = zeroSt) := if_neg (by rw [h1]; exact h0)
  have HL1 := hideK (begOf_len V F c)
  have HL2 := hideK (stpOf_len V F c ins r hln)
  rw [h1] at HCB HCK HST
  have h0' := hideK h0
  have e0 : (ckProg V F c == 0) = false := by simpa using h0
  clear h1 h0
  generalize ckProg V F c = E0 at *
  have HBG := hideK hbg
  unfold runV at HST HCB HCK
  clear hbg hc hr hI
  unfold runV
  generalize begOf V F c = sb at *
  generalize stpOf V F c ins r = sp at *
  unfold RunE at HBE HST
  go_enter Tryd.func6, Tryd.ntmps6
  go_wp2_with (go_at_call 19; fail)
  generalize ((w.alloc (.cells #[.int .i64 V, .int .i64 F, .slice s c.length cap] 24)).alloc (.cells #[.int .i64 r.at_, .slice vs r.vars.length vc, .slice ts r.things.length tc, .int .i64 r.taken, .slice ls r.lines.length lc, .int .i64 r.fin] 46)) = w0 at *
  refine (HBE.out _ hc0).mono ?_
  rintro e w1 ⟨⟨vs1, vc1, ts1, tc1, ls1, lc1, rfl, A1⟩, hb1⟩
  have hb2 : Below w0.heap.size w0 (w1.alloc (.cells #[.int .i64 sb.at_, .slice vs1 sb.vars.length vc1, .slice ts1 sb.things.length tc1, .int .i64 sb.taken, .slice ls1 sb.lines.length lc1, .int .i64 sb.fin] 46)) := hb1.alloc hb1.size _
  have A2 := A1.below (w' := w1.alloc (.cells #[.int .i64 sb.at_, .slice vs1 sb.vars.length vc1, .slice ts1 sb.things.length tc1, .int .i64 sb.taken, .slice ls1 sb.lines.length lc1, .int .i64 sb.fin] 46)) (by go_grown) (Nat.le_refl _)
  have X2 := R6.new w1 46 (.int .i64 sb.at_) (.slice vs1 sb.vars.length vc1) (.slice ts1 sb.things.length tc1) (.int .i64 sb.taken) (.slice ls1 sb.lines.length lc1) (.int .i64 sb.fin)
  have P2 := P0.call hb2
  have Q2 := Q0.call hb2
  clear A1 hb1
  go_upto_region 2 with fail
  generalize (w1.alloc (.cells #[.int .i64 sb.at_, .slice vs1 sb.vars.length vc1, .slice ts1 sb.things.length tc1, .int .i64 sb.taken, .slice ls1 sb.lines.length lc1, .int .i64 sb.fin] 46)) = w2 at *
  obtain ⟨⟨p0, p1, p2⟩, pz⟩ := id P2
  obtain ⟨⟨q0, q1, q2, q3, q4, q5⟩, qz, -⟩ := id Q2
  go_wp2_with (go_at_call 20; fail)
  refine (HST.out _ (hc0.below hb2 (Nat.le_refl _)) (hr0.below hb2 (Nat.le_refl _)) (hI0.below hb2 (Nat.le_refl _)) (hT0.below hb2)).mono ?_
  rintro e w3 ⟨⟨vs2, vc2, ts2, tc2, ls2, lc2, rfl, B3⟩, hb3⟩
  clear p0 p1 p2 pz q0 q1 q2 q3 q4 q5 qz
  have hbn : Below w2.heap.size w2 (w3.alloc (.cells #[.int .i64 sp.at_, .slice vs2 sp.vars.length vc2, .slice ts2 sp.things.length tc2, .int .i64 sp.taken, .slice ls2 sp.lines.length lc2, .int .i64 sp.fin] 46)) := hb3.alloc hb3.size _
  have hb4 := hb2.trans (hbn.mono hb2.size)
  have B4 := B3.below (w' := w3.alloc (.cells #[.int .i64 sp.at_, .slice vs2 sp.vars.length vc2, .slice ts2 sp.things.length tc2, .int .i64 sp.taken, .slice ls2 sp.lines.length lc2, .int .i64 sp.fin] 46)) (by go_grown) (Nat.le_refl _)
  have A4 := A2.below hbn (Nat.le_refl _)
  have X4 := X2.call hbn
  have Y4 := R6.new w3 46 (.int .i64 sp.at_) (.slice vs2 sp.vars.length vc2) (.slice ts2 sp.things.length tc2) (.int .i64 sp.taken) (.slice ls2 sp.lines.length lc2) (.int .i64 sp.fin)
  have P4 := P2.call hbn
  have Q4 := Q2.call hbn
  have hc4 := hc0.below hb4 (Nat.le_refl _)
  have hr4 := hr0.below hb4 (Nat.le_refl _)
  have hI4 := hI0.below hb4 (Nat.le_refl _)
  have H4 := hb0.trans (hb4.mono hb0.size)
  clear B3 A2 X2 P2 Q2 hb3 hb2 hbn P0 Q0 hb4 hc0 hr0 hI0 hT0 hb0
  go_upto_region 3 with fail
  generalize (w3.alloc (.cells #[.int .i64 sp.at_, .slice vs2 sp.vars.length vc2, .slice ts2 sp.things.length tc2, .int .i64 sp.taken, .slice ls2 sp.lines.length lc2, .int .i64 sp.fin] 46)) = w4 at *
  obtain ⟨⟨p0, p1, p2⟩, pz⟩ := id P4
  obtain ⟨⟨q0, q1, q2, q3, q4, q5⟩, qz, -⟩ := id Q4
  have KZ : ∀ wx, Below w4.heap.size w4 wx → wx.cell? ⟨w.heap.size, 0, none⟩ = some (.int .i64 V) ∧ wx.cell? ⟨w.heap.size, 1, none⟩ = some (.int .i64 F) ∧ wx.cell? ⟨w.heap.size, 2, none⟩ = some (.slice s c.length cap) ∧ wx.cell? ⟨w.heap.size + 1, 0, none⟩ = some (.int .i64 r.at_) ∧ wx.cell? ⟨w.heap.size + 1, 1, none⟩ = some (.slice vs r.vars.length vc) ∧ wx.cell? ⟨w.heap.size + 1, 2, none⟩ = some (.slice ts r.things.length tc) ∧ wx.cell? ⟨w.heap.size + 1, 3, none⟩ = some (.int .i64 r.taken) ∧ wx.cell? ⟨w.heap.size + 1, 4, none⟩ = some (.slice ls r.lines.length lc) ∧ wx.cell? ⟨w.heap.size + 1, 5, none⟩ = some (.int .i64 r.fin) := fun wx hx => ⟨by rw [hx.cell (by simp only; exact pz)]; exact p0, by rw [hx.cell (by simp only; exact pz)]; exact p1, by rw [hx.cell (by simp only; exact pz)]; exact p2, by rw [hx.cell (by simp only; exact qz)]; exact q0, by rw [hx.cell (by simp only; exact qz)]; exact q1, by rw [hx.cell (by simp only; exact qz)]; exact q2, by rw [hx.cell (by simp only; exact qz)]; exact q3, by rw [hx.cell (by simp only; exact qz)]; exact q4, by rw [hx.cell (by simp only; exact qz)]; exact q5⟩
  have HKZ := hideK KZ
  clear KZ p0 p1 p2 pz q0 q1 q2 q3 q4 q5 qz
  refine wp_region_z (S := (fun wx => wx.cell? ⟨w.heap.size, 0, none⟩ = some (.int .i64 V) ∧ wx.cell? ⟨w.heap.size, 1, none⟩ = some (.int .i64 F) ∧ wx.cell? ⟨w.heap.size, 2, none⟩ = some (.slice s c.length cap) ∧ wx.cell? ⟨w.heap.size + 1, 0, none⟩ = some (.int .i64 r.at_) ∧ wx.cell? ⟨w.heap.size + 1, 1, none⟩ = some (.slice vs r.vars.length vc) ∧ wx.cell? ⟨w.heap.size + 1, 2, none⟩ = some (.slice ts r.things.length tc) ∧ wx.cell? ⟨w.heap.size + 1, 3, none⟩ = some (.int .i64 r.taken) ∧ wx.cell? ⟨w.heap.size + 1, 4, none⟩ = some (.slice ls r.lines.length lc) ∧ wx.cell? ⟨w.heap.size + 1, 5, none⟩ = some (.int .i64 r.fin))) [] (by kernel_rfl) (HKZ.out _ (Below.refl _ _).drew) (fun hHeld => ?_)
  refine tkZ 0 ?_ ?_ ?_
  rotate_left
  · exact rn
  (try simp only [stp, List.set])
  refine tkZ 2 ?_ ?_ ?_
  rotate_left
  · exact rn
  (try simp only [stp, List.set])
  refine tkZ 3 ?_ ?_ ?_
  rotate_left
  · exact rn
  (try simp only [stp, List.set])
  refine wpAnyZ_one (i := 1) rfl (by kernel_rfl) (fun K hK => ?_)
  go_simp
  go_at_call 10
  refine (HCP.out _ (hc4.below (Below.refl _ _).drew (Nat.le_refl _))).mono ?_
  rintro e w5 ⟨rfl, hb5⟩
  have HB5 : Below w4.heap.size w4 w5 := Below.trans (Below.refl _ _).drew (Below.mono hb5 (by simp))
  go_wp2_with fail
  refine hK.out _ _ (HKZ.out _ HB5) (fun hHeld => ?_)
  clear hK K
  (try simp only [stp, List.set])
  refine wpAnyZ_one (i := 4) rfl (by kernel_rfl) (fun K hK => ?_)
  go_simp
  go_at_call 21
  refine (HCB.out _ (hc4.below HB5 (Nat.le_refl _)) (hr4.below HB5 (Nat.le_refl _))).mono ?_
  rintro e w6 ⟨rfl, hb6⟩
  have HB6 : Below w4.heap.size w4 w6 := HB5.trans (hb6.mono HB5.size)
  go_wp2_with fail
  refine hK.out _ _ (HKZ.out _ HB6) (fun hHeld => ?_)
  clear hK K
  (try simp only [stp, List.set])
  refine tkZ 5 ?_ ?_ ?_
  rotate_left
  · exact rn
  (try simp only [stp, List.set])
  refine tkZ 6 ?_ ?_ ?_
  rotate_left
  · exact rn
  (try simp only [stp, List.set])
  refine wpAnyZ_done (by kernel_rfl) ?_ _
  have hb7 : Below w4.heap.size w4 ((w6.alloc (.cells #[.int .i64 0, .slice none 0 0, .slice none 0 0, .int .i64 0, .slice none 0 0, .int .i64 0] 46)).alloc (.cells #[.int .i64 0, .slice none 0 0, .slice none 0 0, .int .i64 0, .slice none 0 0, .int .i64 0] 46)) := HB6.trans (Below.mono (show Below w6.heap.size w6 ((w6.alloc (.cells #[.int .i64 0, .slice none 0 0, .slice none 0 0, .int .i64 0, .slice none 0 0, .int .i64 0] 46)).alloc (.cells #[.int .i64 0, .slice none 0 0, .slice none 0 0, .int .i64 0, .slice none 0 0, .int .i64 0] 46)) by go_grown) HB6.size)
  have M7 : R6 ((w6.alloc (.cells #[.int .i64 0, .slice none 0 0, .slice none 0 0, .int .i64 0, .slice none 0 0, .int .i64 0] 46)).alloc (.cells #[.int .i64 0, .slice none 0 0, .slice none 0 0, .int .i64 0, .slice none 0 0, .int .i64 0] 46)) w6.heap.size (.int .i64 0) (.slice none 0 0) (.slice none 0 0) (.int .i64 0) (.slice none 0 0) (.int .i64 0) := (R6.new w6 46 (.int .i64 0) (.slice none 0 0) (.slice none 0 0) (.int .i64 0) (.slice none 0 0) (.int .i64 0)).call (by go_grown)
  have N7 : R6 ((w6.alloc (.cells #[.int .i64 0, .slice none 0 0, .slice none 0 0, .int .i64 0, .slice none 0 0, .int .i64 0] 46)).alloc (.cells #[.int .i64 0, .slice none 0 0, .slice none 0 0, .int .i64 0, .slice none 0 0, .int .i64 0] 46)) (w6.heap.size + 1) (.int .i64 0) (.slice none 0 0) (.slice none 0 0) (.int .i64 0) (.slice none 0 0) (.int .i64 0) := by
    have := R6.new (w6.alloc (.cells #[.int .i64 0, .slice none 0 0, .slice none 0 0, .int .i64 0, .slice none 0 0, .int .i64 0] 46)) 46 (.int .i64 0) (.slice none 0 0) (.slice none 0 0) (.int .i64 0) (.slice none 0 0) (.int .i64 0)
    rw [World.size_alloc] at this
    exact this
  have z46 : w4.heap.size ≤ w6.heap.size := HB6.size
  clear hb5 hb6 HB5 HB6 HKZ
  go_upto_region 9 with fail
  generalize ((w6.alloc (.cells #[.int .i64 0, .slice none 0 0, .slice none 0 0, .int .i64 0, .slice none 0 0, .int .i64 0] 46)).alloc (.cells #[.int .i64 0, .slice none 0 0, .slice none 0 0, .int .i64 0, .slice none 0 0, .int .i64 0] 46)) = w7 at *
  generalize w6.heap.size = b3 at *
  have P7 := P4.call hb7
  have HW := H4.trans (hb7.mono H4.size)
  go_wp2_with (go_at_call 24; fail)
  refine (HBG.out _ (hT.below HW)).mono ?_
  rintro e wg ⟨rfl, hbg⟩
  have h4g := hb7.trans (hbg.mono hb7.size)
  obtain ⟨⟨p0, p1, p2⟩, pz⟩ := id (P4.call h4g)
  obtain ⟨⟨q0, q1, q2, q3, q4, q5⟩, qz, -⟩ := id (Q4.call h4g)
  go_wp2_with (go_at_call 25; fail)
  refine (HCK.out _ (hc4.below h4g (Nat.le_refl _)) (hr4.below h4g (Nat.le_refl _))).mono ?_
  rintro e wh ⟨rfl, hbh⟩
  clear p0 p1 p2 pz q0 q1 q2 q3 q4 q5 qz
  have h4h := h4g.trans (hbh.mono h4g.size)
  have hgh := hbg.trans (hbh.mono hbg.size)
  obtain ⟨⟨x0, x1, x2, x3, x4, x5⟩, xz, -⟩ := id (X4.call h4h)
  obtain ⟨⟨m0, m1, m2, m3, m4, m5⟩, mz, -⟩ := id (M7.call hgh)
  have HI := hideK (runIsU E0 sb zeroSt vs1 vc1 ts1 tc1 ls1 lc1 none 0 none 0 none 0 wh (fun h => absurd h h0'.out) (fun _ => hsb.out) HL1.out (A4.below h4h (Nat.le_refl _)) (zeroSt_at _))
  unfold runV at HI; simp only [zeroSt, List.length_nil] at HI
  go_wp2_with (go_at_call 26; fail)
  refine HI.out.mono ?_
  rintro e wi ⟨rfl, hbi⟩
  clear HI x0 x1 x2 x3 x4 x5 xz m0 m1 m2 m3 m4 m5 mz
  have h4i := h4h.trans (hbi.mono h4h.size)
  have hgi := hgh.trans (hbi.mono hgh.size)
  obtain ⟨⟨x0, x1, x2, x3, x4, x5⟩, xz, -⟩ := id (Y4.call h4i)
  obtain ⟨⟨m0, m1, m2, m3, m4, m5⟩, mz, -⟩ := id (N7.call hgi)
  have HI := hideK (runIsU E0 sp zeroSt vs2 vc2 ts2 tc2 ls2 lc2 none 0 none 0 none 0 wi (fun h => absurd h h0'.out) (fun _ => hsp.out) HL2.out (B4.below h4i (Nat.le_refl _)) (zeroSt_at _))
  unfold runV at HI; simp only [zeroSt, List.length_nil] at HI
  go_wp2_with (go_at_call 26; fail)
  refine HI.out.mono ?_
  rintro e wj ⟨rfl, hbj⟩
  go_wp2
  go_ret
  exact ⟨rfl, H4.trans ((h4i.trans (hbj.mono h4i.size)).mono H4.size)⟩
end Go.Proofs.YtmapdpcfanecdaaDoor

namespace Go.Proofs.YtmapdpcfanecdaaDoor
set_option linter.unusedVariables false
set_option linter.unusedSimpArgs false
open Go.RowKit
attribute [local go_sem ↓] Go.wp_at_zero Go.wp_at_succ

set_option maxHeartbeats 8000000 in
set_option maxRecDepth 20000 in
theorem runSteps_half (v f : Nat) (s : Option Addr) (c : List Ins) (cap : Nat) (r : St) (vs : Option Addr) (vc : Nat) (ts : Option Addr) (tc : Nat) (ls : Option Addr) (lc : Nat) (is : Option Addr) (ic : Nat) (ins : List Int) (w : World) (hc : CodeAt w s c) (hl : LenSt r) (hr : RunAt w r vs ts ls) (hI : IntsAt w is ins) (hT : Tab w) (hln : (r.lines.length + 1) * 16 ≤ 140737488355328) (h0 : ckProg (v : Int) (f : Int) c = 0) (h1 : ckBoth (v : Int) (f : Int) c r ≠ 0) (hbg : ∀ wx, Tab wx → Calls Tryd.prog 24 #[] wx fun e w' => e = .returned (.bool true) ∧ Below wx.heap.size wx w') :
    Calls Tryd.prog 6 #[.agg #[.int .i64 (v : Int), .int .i64 (f : Int), .slice s c.length cap], runV r vs vc ts tc ls lc, .slice is ins.length ic] w fun e w' => e = .returned (.bool true) ∧ Below w.heap.size w w' := by
  have hb0 : Below w.heap.size w ((w.alloc (.cells #[.int .i64 (v : Int), .int .i64 (f : Int), .slice s c.length cap] 24)).alloc (.cells #[.int .i64 r.at_, .slice vs r.vars.length vc, .slice ts r.things.length tc, .int .i64 r.taken, .slice ls r.lines.length lc, .int .i64 r.fin] 46)) := by go_grown
  have P0 := (P3.new w (v : Int) (f : Int) s c.length cap).call (w' := ((w.alloc (.cells #[.int .i64 (v : Int), .int .i64 (f : Int), .slice s c.length cap] 24)).alloc (.cells #[.int .i64 r.at_, .slice vs r.vars.length vc, .slice ts r.things.length tc, .int .i64 r.taken, .slice ls r.lines.length lc, .int .i64 r.fin] 46))) (by go_grown)
  have Q0 := R6.new (w.alloc (.cells #[.int .i64 (v : Int), .int .i64 (f : Int), .slice s c.length cap] 24)) 46 (.int .i64 r.at_) (.slice vs r.vars.length vc) (.slice ts r.things.length tc) (.int .i64 r.taken) (.slice ls r.lines.length lc) (.int .i64 r.fin)
  rw [World.size_alloc] at Q0
  have hc0 := hc.below hb0 (Nat.le_refl _)
  have hr0 := hr.below hb0 (Nat.le_refl _)
  have hI0 := hI.below hb0 (Nat.le_refl _)
  have hT0 := hT.below hb0
  have HBE := hideK (fun wx hx => beginU (v : Int) (f : Int) s c cap wx hx)
  have HST := hideK (fun wx h1 h2 h3 h4 => stepU (v : Int) (f : Int) s c cap r vs vc ts tc ls lc is ic ins wx h1 hl h2 h3 h4 hln)
  have HCP := hideK (fun wx hx => checkProgram_any (v : Int) (f : Int) s cap c wx hx)
  have HCB := hideK (fun wx hx hy => checkBoth_any (v : Int) (f : Int) s c cap r vs vc ts tc ls lc wx hx hl hy)
  have HCK := hideK (fun wx hx hy => runCheck_any (v : Int) (f : Int) s c cap r vs vc ts tc ls lc wx hx hl hy)
  have HBO := hideK (fun wx => beginOfU v (f : Int) s c cap wx h0)
  have hsp : Hid (stpOf (v : Int) (f : Int) c ins r = zeroSt) := if_neg h1
  have HL1 := hideK (begOf_len (v : Int) (f : Int) c)
  have HL2 := hideK (stpOf_len (v : Int) (f : Int) c ins r hln)
  rw [h0] at HCP HBE
  have h1' := hideK h1
  have e1 : (ckBoth (v : Int) (f : Int) c r == 0) = false := by simpa using h1
  clear h1 h0
  generalize ckBoth (v : Int) (f : Int) c r = E1 at *
  have HBG := hideK hbg
  unfold runV at HST HCB HCK
  clear hbg hc hr hI
  unfold runV
  generalize begOf (v : Int) (f : Int) c = sb at *
  generalize stpOf (v : Int) (f : Int) c ins r = sp at *
  unfold RunE at HBE HST
  go_enter Tryd.func6, Tryd.ntmps6
  go_wp2_with (go_at_call 19; fail)
  generalize ((w.alloc (.cells #[.int .i64 (v : Int), .int .i64 (f : Int), .slice s c.length cap] 24)).alloc (.cells #[.int .i64 r.at_, .slice vs r.vars.length vc, .slice ts r.things.length tc, .int .i64 r.taken, .slice ls r.lines.length lc, .int .i64 r.fin] 46)) = w0 at *
  refine (HBE.out _ hc0).mono ?_
  rintro e w1 ⟨⟨vs1, vc1, ts1, tc1, ls1, lc1, rfl, A1⟩, hb1⟩
  have hb2 : Below w0.heap.size w0 (w1.alloc (.cells #[.int .i64 sb.at_, .slice vs1 sb.vars.length vc1, .slice ts1 sb.things.length tc1, .int .i64 sb.taken, .slice ls1 sb.lines.length lc1, .int .i64 sb.fin] 46)) := hb1.alloc hb1.size _
  have A2 := A1.below (w' := w1.alloc (.cells #[.int .i64 sb.at_, .slice vs1 sb.vars.length vc1, .slice ts1 sb.things.length tc1, .int .i64 sb.taken, .slice ls1 sb.lines.length lc1, .int .i64 sb.fin] 46)) (by go_grown) (Nat.le_refl _)
  have X2 := R6.new w1 46 (.int .i64 sb.at_) (.slice vs1 sb.vars.length vc1) (.slice ts1 sb.things.length tc1) (.int .i64 sb.taken) (.slice ls1 sb.lines.length lc1) (.int .i64 sb.fin)
  have P2 := P0.call hb2
  have Q2 := Q0.call hb2
  clear A1 hb1
  go_upto_region 2 with fail
  generalize (w1.alloc (.cells #[.int .i64 sb.at_, .slice vs1 sb.vars.length vc1, .slice ts1 sb.things.length tc1, .int .i64 sb.taken, .slice ls1 sb.lines.length lc1, .int .i64 sb.fin] 46)) = w2 at *
  obtain ⟨⟨p0, p1, p2⟩, pz⟩ := id P2
  obtain ⟨⟨q0, q1, q2, q3, q4, q5⟩, qz, -⟩ := id Q2
  go_wp2_with (go_at_call 20; fail)
  refine (HST.out _ (hc0.below hb2 (Nat.le_refl _)) (hr0.below hb2 (Nat.le_refl _)) (hI0.below hb2 (Nat.le_refl _)) (hT0.below hb2)).mono ?_
  rintro e w3 ⟨⟨vs2, vc2, ts2, tc2, ls2, lc2, rfl, B3⟩, hb3⟩
  clear p0 p1 p2 pz q0 q1 q2 q3 q4 q5 qz
  have hbn : Below w2.heap.size w2 (w3.alloc (.cells #[.int .i64 sp.at_, .slice vs2 sp.vars.length vc2, .slice ts2 sp.things.length tc2, .int .i64 sp.taken, .slice ls2 sp.lines.length lc2, .int .i64 sp.fin] 46)) := hb3.alloc hb3.size _
  have hb4 := hb2.trans (hbn.mono hb2.size)
  have B4 := B3.below (w' := w3.alloc (.cells #[.int .i64 sp.at_, .slice vs2 sp.vars.length vc2, .slice ts2 sp.things.length tc2, .int .i64 sp.taken, .slice ls2 sp.lines.length lc2, .int .i64 sp.fin] 46)) (by go_grown) (Nat.le_refl _)
  have A4 := A2.below hbn (Nat.le_refl _)
  have X4 := X2.call hbn
  have Y4 := R6.new w3 46 (.int .i64 sp.at_) (.slice vs2 sp.vars.length vc2) (.slice ts2 sp.things.length tc2) (.int .i64 sp.taken) (.slice ls2 sp.lines.length lc2) (.int .i64 sp.fin)
  have P4 := P2.call hbn
  have Q4 := Q2.call hbn
  have hc4 := hc0.below hb4 (Nat.le_refl _)
  have hr4 := hr0.below hb4 (Nat.le_refl _)
  have hI4 := hI0.below hb4 (Nat.le_refl _)
  have H4 := hb0.trans (hb4.mono hb0.size)
  clear B3 A2 X2 P2 Q2 hb3 hb2 hbn P0 Q0 hb4 hc0 hr0 hI0 hT0 hb0
  go_upto_region 3 with fail
  generalize (w3.alloc (.cells #[.int .i64 sp.at_, .slice vs2 sp.vars.length vc2, .slice ts2 sp.things.length tc2, .int .i64 sp.taken, .slice ls2 sp.lines.length lc2, .int .i64 sp.fin] 46)) = w4 at *
  obtain ⟨⟨p0, p1, p2⟩, pz⟩ := id P4
  obtain ⟨⟨q0, q1, q2, q3, q4, q5⟩, qz, -⟩ := id Q4
  have KZ : ∀ wx, Below w4.heap.size w4 wx → wx.cell? ⟨w.heap.size, 0, none⟩ = some (.int .i64 (v : Int)) ∧ wx.cell? ⟨w.heap.size, 1, none⟩ = some (.int .i64 (f : Int)) ∧ wx.cell? ⟨w.heap.size, 2, none⟩ = some (.slice s c.length cap) ∧ wx.cell? ⟨w.heap.size + 1, 0, none⟩ = some (.int .i64 r.at_) ∧ wx.cell? ⟨w.heap.size + 1, 1, none⟩ = some (.slice vs r.vars.length vc) ∧ wx.cell? ⟨w.heap.size + 1, 2, none⟩ = some (.slice ts r.things.length tc) ∧ wx.cell? ⟨w.heap.size + 1, 3, none⟩ = some (.int .i64 r.taken) ∧ wx.cell? ⟨w.heap.size + 1, 4, none⟩ = some (.slice ls r.lines.length lc) ∧ wx.cell? ⟨w.heap.size + 1, 5, none⟩ = some (.int .i64 r.fin) := fun wx hx => ⟨by rw [hx.cell (by simp only; exact pz)]; exact p0, by rw [hx.cell (by simp only; exact pz)]; exact p1, by rw [hx.cell (by simp only; exact pz)]; exact p2, by rw [hx.cell (by simp only; exact qz)]; exact q0, by rw [hx.cell (by simp only; exact qz)]; exact q1, by rw [hx.cell (by simp only; exact qz)]; exact q2, by rw [hx.cell (by simp only; exact qz)]; exact q3, by rw [hx.cell (by simp only; exact qz)]; exact q4, by rw [hx.cell (by simp only; exact qz)]; exact q5⟩
  have HKZ := hideK KZ
  clear KZ p0 p1 p2 pz q0 q1 q2 q3 q4 q5 qz
  refine wp_region_z (S := (fun wx => wx.cell? ⟨w.heap.size, 0, none⟩ = some (.int .i64 (v : Int)) ∧ wx.cell? ⟨w.heap.size, 1, none⟩ = some (.int .i64 (f : Int)) ∧ wx.cell? ⟨w.heap.size, 2, none⟩ = some (.slice s c.length cap) ∧ wx.cell? ⟨w.heap.size + 1, 0, none⟩ = some (.int .i64 r.at_) ∧ wx.cell? ⟨w.heap.size + 1, 1, none⟩ = some (.slice vs r.vars.length vc) ∧ wx.cell? ⟨w.heap.size + 1, 2, none⟩ = some (.slice ts r.things.length tc) ∧ wx.cell? ⟨w.heap.size + 1, 3, none⟩ = some (.int .i64 r.taken) ∧ wx.cell? ⟨w.heap.size + 1, 4, none⟩ = some (.slice ls r.lines.length lc) ∧ wx.cell? ⟨w.heap.size + 1, 5, none⟩ = some (.int .i64 r.fin))) [] (by kernel_rfl) (HKZ.out _ (Below.refl _ _).drew) (fun hHeld => ?_)
  refine tkZ 0 ?_ ?_ ?_
  rotate_left
  · exact rn
  (try simp only [stp, List.set])
  refine tkZ 2 ?_ ?_ ?_
  rotate_left
  · exact rn
  (try simp only [stp, List.set])
  refine tkZ 3 ?_ ?_ ?_
  rotate_left
  · exact rn
  (try simp only [stp, List.set])
  refine wpAnyZ_one (i := 1) rfl (by kernel_rfl) (fun K hK => ?_)
  go_simp
  go_at_call 10
  refine (HCP.out _ (hc4.below (Below.refl _ _).drew (Nat.le_refl _))).mono ?_
  rintro e w5 ⟨rfl, hb5⟩
  have HB5 : Below w4.heap.size w4 w5 := Below.trans (Below.refl _ _).drew (Below.mono hb5 (by simp))
  go_wp2_with fail
  refine hK.out _ _ (HKZ.out _ HB5) (fun hHeld => ?_)
  clear hK K
  (try simp only [stp, List.set])
  refine wpAnyZ_one (i := 4) rfl (by kernel_rfl) (fun K hK => ?_)
  go_simp
  go_at_call 21
  refine (HCB.out _ (hc4.below HB5 (Nat.le_refl _)) (hr4.below HB5 (Nat.le_refl _))).mono ?_
  rintro e w6 ⟨rfl, hb6⟩
  have HB6 : Below w4.heap.size w4 w6 := HB5.trans (hb6.mono HB5.size)
  go_wp2_with fail
  refine hK.out _ _ (HKZ.out _ HB6) (fun hHeld => ?_)
  clear hK K
  (try simp only [stp, List.set])
  refine tkZ 5 ?_ ?_ ?_
  rotate_left
  · exact rn
  (try simp only [stp, List.set])
  refine tkZ 6 ?_ ?_ ?_
  rotate_left
  · exact rn
  (try simp only [stp, List.set])
  refine wpAnyZ_done (by kernel_rfl) ?_ _
  have hb7 : Below w4.heap.size w4 ((w6.alloc (.cells #[.int .i64 0, .slice none 0 0, .slice none 0 0, .int .i64 0, .slice none 0 0, .int .i64 0] 46)).alloc (.cells #[.int .i64 0, .slice none 0 0, .slice none 0 0, .int .i64 0, .slice none 0 0, .int .i64 0] 46)) := HB6.trans (Below.mono (show Below w6.heap.size w6 ((w6.alloc (.cells #[.int .i64 0, .slice none 0 0, .slice none 0 0, .int .i64 0, .slice none 0 0, .int .i64 0] 46)).alloc (.cells #[.int .i64 0, .slice none 0 0, .slice none 0 0, .int .i64 0, .slice none 0 0, .int .i64 0] 46)) by go_grown) HB6.size)
  have M7 : R6 ((w6.alloc (.cells #[.int .i64 0, .slice none 0 0, .slice none 0 0, .int .i64 0, .slice none 0 0, .int .i64 0] 46)).alloc (.cells #[.int .i64 0, .slice none 0 0, .slice none 0 0, .int .i64 0, .slice none 0 0, .int .i64 0] 46)) w6.heap.size (.int .i64 0) (.slice none 0 0) (.slice none 0 0) (.int .i64 0) (.slice none 0 0) (.int .i64 0) := (R6.new w6 46 (.int .i64 0) (.slice none 0 0) (.slice none 0 0) (.int .i64 0) (.slice none 0 0) (.int .i64 0)).call (by go_grown)
  have N7 : R6 ((w6.alloc (.cells #[.int .i64 0, .slice none 0 0, .slice none 0 0, .int .i64 0, .slice none 0 0, .int .i64 0] 46)).alloc (.cells #[.int .i64 0, .slice none 0 0, .slice none 0 0, .int .i64 0, .slice none 0 0, .int .i64 0] 46)) (w6.heap.size + 1) (.int .i64 0) (.slice none 0 0) (.slice none 0 0) (.int .i64 0) (.slice none 0 0) (.int .i64 0) := by
    have := R6.new (w6.alloc (.cells #[.int .i64 0, .slice none 0 0, .slice none 0 0, .int .i64 0, .slice none 0 0, .int .i64 0] 46)) 46 (.int .i64 0) (.slice none 0 0) (.slice none 0 0) (.int .i64 0) (.slice none 0 0) (.int .i64 0)
    rw [World.size_alloc] at this
    exact this
  have z46 : w4.heap.size ≤ w6.heap.size := HB6.size
  clear hb5 hb6 HB5 HB6 HKZ
  go_upto_region 6 with fail
  generalize ((w6.alloc (.cells #[.int .i64 0, .slice none 0 0, .slice none 0 0, .int .i64 0, .slice none 0 0, .int .i64 0] 46)).alloc (.cells #[.int .i64 0, .slice none 0 0, .slice none 0 0, .int .i64 0, .slice none 0 0, .int .i64 0] 46)) = w7 at *
  generalize w6.heap.size = b3 at *
  have P7 := P4.call hb7
  obtain ⟨⟨p0, p1, p2⟩, pz⟩ := id P7
  go_wp2_with (go_at_call 22; fail)
  refine (HBO.out _).mono ?_
  rintro e w8 ⟨vs3, vc3, ts3, tc3, ls3, lc3, fv3, rfl, O8, hb8⟩
  clear p0 p1 p2 pz
  have M8 := M7.call hb8
  have N9 : R6 (set6 w8 b3 (.int .i64 sb.at_) (.slice vs3 sb.vars.length vc3) (.slice ts3 sb.things.length tc3) (.int .i64 sb.taken) (.slice ls3 sb.lines.length lc3) (.int .i64 sb.fin)) (b3 + 1) (.int .i64 0) (.slice none 0 0) (.slice none 0 0) (.int .i64 0) (.slice none 0 0) (.int .i64 0) := (N7.call hb8).apart (by omega) _ _ _ _ _ _
  have M9 := M8.put (.int .i64 sb.at_) (.slice vs3 sb.vars.length vc3) (.slice ts3 sb.things.length tc3) (.int .i64 sb.taken) (.slice ls3 sb.lines.length lc3) (.int .i64 sb.fin)
  have O9 := O8.set6 M7.2.1 (.int .i64 sb.at_) (.slice vs3 sb.vars.length vc3) (.slice ts3 sb.things.length tc3) (.int .i64 sb.taken) (.slice ls3 sb.lines.length lc3) (.int .i64 sb.fin)
  have hb9 : Below w4.heap.size w4 (set6 w8 b3 (.int .i64 sb.at_) (.slice vs3 sb.vars.length vc3) (.slice ts3 sb.things.length tc3) (.int .i64 sb.taken) (.slice ls3 sb.lines.length lc3) (.int .i64 sb.fin)) := below_set6 (hb7.trans (hb8.mono hb7.size)) z46 _ _ _ _ _ _
  have z79 : b3 + 1 < w7.heap.size := N7.2.1
  obtain ⟨⟨y0, y1, y2, y3, y4, y5⟩, yz, yf⟩ := id M8
  have g0 := yf 0
  have g1 := yf 1
  have g2 := yf 2
  have g3 := yf 3
  have g4 := yf 4
  have g5 := yf 5
  clear yf M7 M8 N7 P7 hb7 hb8 O8
  unfold set6 at M9 N9 O9 hb9
  go_upto_region 9 with fail
  clear y0 y1 y2 y3 y4 y5 yz g0 g1 g2 g3 g4 g5
  generalize ((((((w8.setCell ⟨b3, 0, none⟩ (.int .i64 sb.at_)).setCell ⟨b3, 1, none⟩ (.slice vs3 sb.vars.length vc3)).setCell ⟨b3, 2, none⟩ (.slice ts3 sb.things.length tc3)).setCell ⟨b3, 3, none⟩ (.int .i64 sb.taken)).setCell ⟨b3, 4, none⟩ (.slice ls3 sb.lines.length lc3)).setCell ⟨b3, 5, none⟩ (.int .i64 sb.fin)) = w9 at *
  have HW := H4.trans (hb9.mono H4.size)
  go_wp2_with (go_at_call 24; fail)
  refine (HBG.out _ (hT.below HW)).mono ?_
  rintro e wg ⟨rfl, hbg⟩
  have h4g := hb9.trans (hbg.mono hb9.size)
  obtain ⟨⟨p0, p1, p2⟩, pz⟩ := id (P4.call h4g)
  obtain ⟨⟨q0, q1, q2, q3, q4, q5⟩, qz, -⟩ := id (Q4.call h4g)
  go_wp2_with (go_at_call 25; fail)
  refine (HCK.out _ (hc4.below h4g (Nat.le_refl _)) (hr4.below h4g (Nat.le_refl _))).mono ?_
  rintro e wh ⟨rfl, hbh⟩
  clear p0 p1 p2 pz q0 q1 q2 q3 q4 q5 qz
  have h4h := h4g.trans (hbh.mono h4g.size)
  have hgh := hbg.trans (hbh.mono hbg.size)
  obtain ⟨⟨x0, x1, x2, x3, x4, x5⟩, xz, -⟩ := id (X4.call h4h)
  obtain ⟨⟨m0, m1, m2, m3, m4, m5⟩, mz, -⟩ := id (M9.call hgh)
  have HI := hideK (runIsU 0 sb sb vs1 vc1 ts1 tc1 ls1 lc1 vs3 vc3 ts3 tc3 ls3 lc3 wh (fun _ => rfl) (fun h => absurd rfl h) HL1.out (A4.below h4h (Nat.le_refl _)) (O9.runAt.below hgh (Nat.le_refl _)))
  unfold runV at HI
  go_wp2_with (go_at_call 26; fail)
  refine HI.out.mono ?_
  rintro e wi ⟨rfl, hbi⟩
  clear HI x0 x1 x2 x3 x4 x5 xz m0 m1 m2 m3 m4 m5 mz
  have h4i := h4h.trans (hbi.mono h4h.size)
  have hgi := hgh.trans (hbi.mono hgh.size)
  obtain ⟨⟨x0, x1, x2, x3, x4, x5⟩, xz, -⟩ := id (Y4.call h4i)
  obtain ⟨⟨m0, m1, m2, m3, m4, m5⟩, mz, -⟩ := id (N9.call hgi)
  have HI := hideK (runIsU E1 sp zeroSt vs2 vc2 ts2 tc2 ls2 lc2 none 0 none 0 none 0 wi (fun h => absurd h h1'.out) (fun _ => hsp.out) HL2.out (B4.below h4i (Nat.le_refl _)) (zeroSt_at _))
  unfold runV at HI; simp only [zeroSt, List.length_nil] at HI
  go_wp2_with (go_at_call 26; fail)
  refine HI.out.mono ?_
  rintro e wj ⟨rfl, hbj⟩
  go_wp2
  go_ret
  exact ⟨rfl, H4.trans ((h4i.trans (hbj.mono h4i.size)).mono H4.size)⟩
end Go.Proofs.YtmapdpcfanecdaaDoor
