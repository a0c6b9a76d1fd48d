/- The small program's run: what is told of it in any case. -/
import Derived.Test.YtmapdpcfanecdaaDoorKlawrsp08
import Derived.Test.YtmapdpcfanecdaaDoorKlawrsp51
import Derived.Deep.DeepCutAuto
import Derived.Test.YtmapdpcfanecdaaDoorKlawrsp52
import Derived.Lib.SmallJoins
import Derived.Deep.Slices
import Derived.ProofKit
import Derived.SizedLaws
import Derived.Test.YtmapdpcfanecdaaDoorKlawrsp09
import Derived.Test.YtmapdpcfanecdaaDoorKlawrsp03
import Derived.Test.YtmapdpcfanecdaaDoorKlawrsp26
import Derived.Test.YtmapdpcfanecdaaDoorKlawrsp27
namespace Go.Proofs.YtmapdpcfanecdaaDoor
set_option linter.unusedVariables false
set_option linter.unusedSimpArgs false
open Go.RowKit
attribute [local go_sem ↓] Go.wp_at_zero Go.wp_at_succ

set_option maxHeartbeats 8000000 in
set_option maxRecDepth 20000 in
theorem runSteps_good (v f : Nat) (s : Option Addr) (c : List Ins) (cap : Nat) (r : St) (vs : Option Addr) (vc : Nat) (ts : Option Addr) (tc : Nat) (ls : Option Addr) (lc : Nat) (is : Option Addr) (ic : Nat) (ins : List Int) (w : World) (hc : CodeAt w s c) (hl : LenSt r) (hr : RunAt w r vs ts ls) (hI : IntsAt w is ins) (hT : Tab w) (hln : (r.lines.length + 1) * 16 ≤ 140737488355328) (h1 : ckBoth (v : Int) (f : Int) c r = 0) (hbg : ∀ wx, Tab wx → Calls Tryd.prog 24 #[] wx fun e w' => e = .returned (.bool true) ∧ Below wx.heap.size wx w') :
    Calls Tryd.prog 6 #[.agg #[.int .i64 (v : Int), .int .i64 (f : Int), .slice s c.length cap], runV r vs vc ts tc ls lc, .slice is ins.length ic] w fun e w' => e = .returned (.bool true) ∧ Below w.heap.size w w' := by
  have hb0 : Below w.heap.size w ((w.alloc (.cells #[.int .i64 (v : Int), .int .i64 (f : Int), .slice s c.length cap] 24)).alloc (.cells #[.int .i64 r.at_, .slice vs r.vars.length vc, .slice ts r.things.length tc, .int .i64 r.taken, .slice ls r.lines.length lc, .int .i64 r.fin] 46)) := by go_grown
  have P0 := (P3.new w (v : Int) (f : Int) s c.length cap).call (w' := ((w.alloc (.cells #[.int .i64 (v : Int), .int .i64 (f : Int), .slice s c.length cap] 24)).alloc (.cells #[.int .i64 r.at_, .slice vs r.vars.length vc, .slice ts r.things.length tc, .int .i64 r.taken, .slice ls r.lines.length lc, .int .i64 r.fin] 46))) (by go_grown)
  have Q0 := R6.new (w.alloc (.cells #[.int .i64 (v : Int), .int .i64 (f : Int), .slice s c.length cap] 24)) 46 (.int .i64 r.at_) (.slice vs r.vars.length vc) (.slice ts r.things.length tc) (.int .i64 r.taken) (.slice ls r.lines.length lc) (.int .i64 r.fin)
  rw [World.size_alloc] at Q0
  have hc0 := hc.below hb0 (Nat.le_refl _)
  have hr0 := hr.below hb0 (Nat.le_refl _)
  have hI0 := hI.below hb0 (Nat.le_refl _)
  have hT0 := hT.below hb0
  have HBE := hideK (fun wx hx => beginU (v : Int) (f : Int) s c cap wx hx)
  have HST := hideK (fun wx h1 h2 h3 h4 => stepU (v : Int) (f : Int) s c cap r vs vc ts tc ls lc is ic ins wx h1 hl h2 h3 h4 hln)
  have h0 := ckBoth_prog h1
  have HCP := hideK (fun wx hx => checkProgram_any (v : Int) (f : Int) s cap c wx hx)
  have HCB := hideK (fun wx hx hy => checkBoth_any (v : Int) (f : Int) s c cap r vs vc ts tc ls lc wx hx hl hy)
  have HCK := hideK (fun wx hx hy => runCheck_any (v : Int) (f : Int) s c cap r vs vc ts tc ls lc wx hx hl hy)
  have HBO := hideK (fun wx => beginOfU v (f : Int) s c cap wx h0)
  have HSO := hideK (fun wx hx hy hz => stepOfU v f s c cap r vs vc ts tc ls lc is ic ins wx hx hy hz hln h1)
  have HL1 := hideK (begOf_len (v : Int) (f : Int) c)
  have HL2 := hideK (stpOf_len (v : Int) (f : Int) c ins r hln)
  rw [h0] at HCP HBE
  rw [h1] at HCB HCK HST
  unfold runV at HSO
  clear h1 h0
  have HBG := hideK hbg
  unfold runV at HST HCB HCK
  clear hbg hc hr hI
  unfold runV
  generalize begOf (v : Int) (f : Int) c = sb at *
  generalize stpOf (v : Int) (f : Int) c ins r = sp at *
  unfold RunE at HBE HST
  go_enter Tryd.func6, Tryd.ntmps6
  go_wp2_with (go_at_call 19; fail)
  generalize ((w.alloc (.cells #[.int .i64 (v : Int), .int .i64 (f : Int), .slice s c.length cap] 24)).alloc (.cells #[.int .i64 r.at_, .slice vs r.vars.length vc, .slice ts r.things.length tc, .int .i64 r.taken, .slice ls r.lines.length lc, .int .i64 r.fin] 46)) = w0 at *
  refine (HBE.out _ hc0).mono ?_
  rintro e w1 ⟨⟨vs1, vc1, ts1, tc1, ls1, lc1, rfl, A1⟩, hb1⟩
  have hb2 : Below w0.heap.size w0 (w1.alloc (.cells #[.int .i64 sb.at_, .slice vs1 sb.vars.length vc1, .slice ts1 sb.things.length tc1, .int .i64 sb.taken, .slice ls1 sb.lines.length lc1, .int .i64 sb.fin] 46)) := hb1.alloc hb1.size _
  have A2 := A1.below (w' := w1.alloc (.cells #[.int .i64 sb.at_, .slice vs1 sb.vars.length vc1, .slice ts1 sb.things.length tc1, .int .i64 sb.taken, .slice ls1 sb.lines.length lc1, .int .i64 sb.fin] 46)) (by go_grown) (Nat.le_refl _)
  have X2 := R6.new w1 46 (.int .i64 sb.at_) (.slice vs1 sb.vars.length vc1) (.slice ts1 sb.things.length tc1) (.int .i64 sb.taken) (.slice ls1 sb.lines.length lc1) (.int .i64 sb.fin)
  have P2 := P0.call hb2
  have Q2 := Q0.call hb2
  clear A1 hb1
  go_upto_region 2 with fail
  generalize (w1.alloc (.cells #[.int .i64 sb.at_, .slice vs1 sb.vars.length vc1, .slice ts1 sb.things.length tc1, .int .i64 sb.taken, .slice ls1 sb.lines.length lc1, .int .i64 sb.fin] 46)) = w2 at *
  obtain ⟨⟨p0, p1, p2⟩, pz⟩ := id P2
  obtain ⟨⟨q0, q1, q2, q3, q4, q5⟩, qz, -⟩ := id Q2
  go_wp2_with (go_at_call 20; fail)
  refine (HST.out _ (hc0.below hb2 (Nat.le_refl _)) (hr0.below hb2 (Nat.le_refl _)) (hI0.below hb2 (Nat.le_refl _)) (hT0.below hb2)).mono ?_
  rintro e w3 ⟨⟨vs2, vc2, ts2, tc2, ls2, lc2, rfl, B3⟩, hb3⟩
  clear p0 p1 p2 pz q0 q1 q2 q3 q4 q5 qz
  have hbn : Below w2.heap.size w2 (w3.alloc (.cells #[.int .i64 sp.at_, .slice vs2 sp.vars.length vc2, .slice ts2 sp.things.length tc2, .int .i64 sp.taken, .slice ls2 sp.lines.length lc2, .int .i64 sp.fin] 46)) := hb3.alloc hb3.size _
  have hb4 := hb2.trans (hbn.mono hb2.size)
  have B4 := B3.below (w' := w3.alloc (.cells #[.int .i64 sp.at_, .slice vs2 sp.vars.length vc2, .slice ts2 sp.things.length tc2, .int .i64 sp.taken, .slice ls2 sp.lines.length lc2, .int .i64 sp.fin] 46)) (by go_grown) (Nat.le_refl _)
  have A4 := A2.below hbn (Nat.le_refl _)
  have X4 := X2.call hbn
  have Y4 := R6.new w3 46 (.int .i64 sp.at_) (.slice vs2 sp.vars.length vc2) (.slice ts2 sp.things.length tc2) (.int .i64 sp.taken) (.slice ls2 sp.lines.length lc2) (.int .i64 sp.fin)
  have P4 := P2.call hbn
  have Q4 := Q2.call hbn
  have hc4 := hc0.below hb4 (Nat.le_refl _)
  have hr4 := hr0.below hb4 (Nat.le_refl _)
  have hI4 := hI0.below hb4 (Nat.le_refl _)
  have H4 := hb0.trans (hb4.mono hb0.size)
  clear B3 A2 X2 P2 Q2 hb3 hb2 hbn P0 Q0 hb4 hc0 hr0 hI0 hT0 hb0
  go_upto_region 3 with fail
  generalize (w3.alloc (.cells #[.int .i64 sp.at_, .slice vs2 sp.vars.length vc2, .slice ts2 sp.things.length tc2, .int .i64 sp.taken, .slice ls2 sp.lines.length lc2, .int .i64 sp.fin] 46)) = w4 at *
  obtain ⟨⟨p0, p1, p2⟩, pz⟩ := id P4
  obtain ⟨⟨q0, q1, q2, q3, q4, q5⟩, qz, -⟩ := id Q4
  have KZ : ∀ wx, Below w4.heap.size w4 wx → wx.cell? ⟨w.heap.size, 0, none⟩ = some (.int .i64 (v : Int)) ∧ wx.cell? ⟨w.heap.size, 1, none⟩ = some (.int .i64 (f : Int)) ∧ wx.cell? ⟨w.heap.size, 2, none⟩ = some (.slice s c.length cap) ∧ wx.cell? ⟨w.heap.size + 1, 0, none⟩ = some (.int .i64 r.at_) ∧ wx.cell? ⟨w.heap.size + 1, 1, none⟩ = some (.slice vs r.vars.length vc) ∧ wx.cell? ⟨w.heap.size + 1, 2, none⟩ = some (.slice ts r.things.length tc) ∧ wx.cell? ⟨w.heap.size + 1, 3, none⟩ = some (.int .i64 r.taken) ∧ wx.cell? ⟨w.heap.size + 1, 4, none⟩ = some (.slice ls r.lines.length lc) ∧ wx.cell? ⟨w.heap.size + 1, 5, none⟩ = some (.int .i64 r.fin) := fun wx hx => ⟨by rw [hx.cell (by simp only; exact pz)]; exact p0, by rw [hx.cell (by simp only; exact pz)]; exact p1, by rw [hx.cell (by simp only; exact pz)]; exact p2, by rw [hx.cell (by simp only; exact qz)]; exact q0, by rw [hx.cell (by simp only; exact qz)]; exact q1, by rw [hx.cell (by simp only; exact qz)]; exact q2, by rw [hx.cell (by simp only; exact qz)]; exact q3, by rw [hx.cell (by simp only; exact qz)]; exact q4, by rw [hx.cell (by simp only; exact qz)]; exact q5⟩
  have HKZ := hideK KZ
  clear KZ p0 p1 p2 pz q0 q1 q2 q3 q4 q5 qz
  refine wp_region_z (S := (fun wx => wx.cell? ⟨w.heap.size, 0, none⟩ = some (.int .i64 (v : Int)) ∧ wx.cell? ⟨w.heap.size, 1, none⟩ = some (.int .i64 (f : Int)) ∧ wx.cell? ⟨w.heap.size, 2, none⟩ = some (.slice s c.length cap) ∧ wx.cell? ⟨w.heap.size + 1, 0, none⟩ = some (.int .i64 r.at_) ∧ wx.cell? ⟨w.heap.size + 1, 1, none⟩ = some (.slice vs r.vars.length vc) ∧ wx.cell? ⟨w.heap.size + 1, 2, none⟩ = some (.slice ts r.things.length tc) ∧ wx.cell? ⟨w.heap.size + 1, 3, none⟩ = some (.int .i64 r.taken) ∧ wx.cell? ⟨w.heap.size + 1, 4, none⟩ = some (.slice ls r.lines.length lc) ∧ wx.cell? ⟨w.heap.size + 1, 5, none⟩ = some (.int .i64 r.fin))) [] (by kernel_rfl) (HKZ.out _ (Below.refl _ _).drew) (fun hHeld => ?_)
  refine tkZ 0 ?_ ?_ ?_
  rotate_left
  · exact rn
  (try simp only [stp, List.set])
  refine tkZ 2 ?_ ?_ ?_
  rotate_left
  · exact rn
  (try simp only [stp, List.set])
  refine tkZ 3 ?_ ?_ ?_
  rotate_left
  · exact rn
  (try simp only [stp, List.set])
  refine wpAnyZ_one (i := 1) rfl (by kernel_rfl) (fun K hK => ?_)
  go_simp
  go_at_call 10
  refine (HCP.out _ (hc4.below (Below.refl _ _).drew (Nat.le_refl _))).mono ?_
  rintro e w5 ⟨rfl, hb5⟩
  have HB5 : Below w4.heap.size w4 w5 := Below.trans (Below.refl _ _).drew (Below.mono hb5 (by simp))
  go_wp2_with fail
  refine hK.out _ _ (HKZ.out _ HB5) (fun hHeld => ?_)
  clear hK K
  (try simp only [stp, List.set])
  refine wpAnyZ_one (i := 4) rfl (by kernel_rfl) (fun K hK => ?_)
  go_simp
  go_at_call 21
  refine (HCB.out _ (hc4.below HB5 (Nat.le_refl _)) (hr4.below HB5 (Nat.le_refl _))).mono ?_
  rintro e w6 ⟨rfl, hb6⟩
  have HB6 : Below w4.heap.size w4 w6 := HB5.trans (hb6.mono HB5.size)
  go_wp2_with fail
  refine hK.out _ _ (HKZ.out _ HB6) (fun hHeld => ?_)
  clear hK K
  (try simp only [stp, List.set])
  refine tkZ 5 ?_ ?_ ?_
  rotate_left
  · exact rn
  (try simp only [stp, List.set])
  refine tkZ 6 ?_ ?_ ?_
  rotate_left
  · exact rn
  (try simp only [stp, List.set])
  refine wpAnyZ_done (by kernel_rfl) ?_ _
  have hb7 : Below w4.heap.size w4 ((w6.alloc (.cells #[.int .i64 0, .slice none 0 0, .slice none 0 0, .int .i64 0, .slice none 0 0, .int .i64 0] 46)).alloc (.cells #[.int .i64 0, .slice none 0 0, .slice none 0 0, .int .i64 0, .slice none 0 0, .int .i64 0] 46)) := HB6.trans (Below.mono (show Below w6.heap.size w6 ((w6.alloc (.cells #[.int .i64 0, .slice none 0 0, .slice none 0 0, .int .i64 0, .slice none 0 0, .int .i64 0] 46)).alloc (.cells #[.int .i64 0, .slice none 0 0, .slice none 0 0, .int .i64 0, .slice none 0 0, .int .i64 0] 46)) by go_grown) HB6.size)
  have M7 : R6 ((w6.alloc (.cells #[.int .i64 0, .slice none 0 0, .slice none 0 0, .int .i64 0, .slice none 0 0, .int .i64 0] 46)).alloc (.cells #[.int .i64 0, .slice none 0 0, .slice none 0 0, .int .i64 0, .slice none 0 0, .int .i64 0] 46)) w6.heap.size (.int .i64 0) (.slice none 0 0) (.slice none 0 0) (.int .i64 0) (.slice none 0 0) (.int .i64 0) := (R6.new w6 46 (.int .i64 0) (.slice none 0 0) (.slice none 0 0) (.int .i64 0) (.slice none 0 0) (.int .i64 0)).call (by go_grown)
  have N7 : R6 ((w6.alloc (.cells #[.int .i64 0, .slice none 0 0, .slice none 0 0, .int .i64 0, .slice none 0 0, .int .i64 0] 46)).alloc (.cells #[.int .i64 0, .slice none 0 0, .slice none 0 0, .int .i64 0, .slice none 0 0, .int .i64 0] 46)) (w6.heap.size + 1) (.int .i64 0) (.slice none 0 0) (.slice none 0 0) (.int .i64 0) (.slice none 0 0) (.int .i64 0) := by
    have := R6.new (w6.alloc (.cells #[.int .i64 0, .slice none 0 0, .slice none 0 0, .int .i64 0, .slice none 0 0, .int .i64 0] 46)) 46 (.int .i64 0) (.slice none 0 0) (.slice none 0 0) (.int .i64 0) (.slice none 0 0) (.int .i64 0)
    rw [World.size_alloc] at this
    exact this
  have z46 : w4.heap.size ≤ w6.heap.size := HB6.size
  clear hb5 hb6 HB5 HB6 HKZ
  go_upto_region 6 with fail
  generalize ((w6.alloc (.cells #[.int .i64 0, .slice none 0 0, .slice none 0 0, .int .i64 0, .slice none 0 0, .int .i64 0] 46)).alloc (.cells #[.int .i64 0, .slice none 0 0, .slice none 0 0, .int .i64 0, .slice none 0 0, .int .i64 0] 46)) = w7 at *
  generalize w6.heap.size = b3 at *
  have P7 := P4.call hb7
  obtain ⟨⟨p0, p1, p2⟩, pz⟩ := id P7
  go_wp2_with (go_at_call 22; fail)
  refine (HBO.out _).mono ?_
  rintro e w8 ⟨vs3, vc3, ts3, tc3, ls3, lc3, fv3, rfl, O8, hb8⟩
  clear p0 p1 p2 pz
  have M8 := M7.call hb8
  have N9 : R6 (set6 w8 b3 (.int .i64 sb.at_) (.slice vs3 sb.vars.length vc3) (.slice ts3 sb.things.length tc3) (.int .i64 sb.taken) (.slice ls3 sb.lines.length lc3) (.int .i64 sb.fin)) (b3 + 1) (.int .i64 0) (.slice none 0 0) (.slice none 0 0) (.int .i64 0) (.slice none 0 0) (.int .i64 0) := (N7.call hb8).apart (by omega) _ _ _ _ _ _
  have M9 := M8.put (.int .i64 sb.at_) (.slice vs3 sb.vars.length vc3) (.slice ts3 sb.things.length tc3) (.int .i64 sb.taken) (.slice ls3 sb.lines.length lc3) (.int .i64 sb.fin)
  have O9 := O8.set6 M7.2.1 (.int .i64 sb.at_) (.slice vs3 sb.vars.length vc3) (.slice ts3 sb.things.length tc3) (.int .i64 sb.taken) (.slice ls3 sb.lines.length lc3) (.int .i64 sb.fin)
  have hb9 : Below w4.heap.size w4 (set6 w8 b3 (.int .i64 sb.at_) (.slice vs3 sb.vars.length vc3) (.slice ts3 sb.things.length tc3) (.int .i64 sb.taken) (.slice ls3 sb.lines.length lc3) (.int .i64 sb.fin)) := below_set6 (hb7.trans (hb8.mono hb7.size)) z46 _ _ _ _ _ _
  have z79 : b3 + 1 < w7.heap.size := N7.2.1
  obtain ⟨⟨y0, y1, y2, y3, y4, y5⟩, yz, yf⟩ := id M8
  have g0 := yf 0
  have g1 := yf 1
  have g2 := yf 2
  have g3 := yf 3
  have g4 := yf 4
  have g5 := yf 5
  clear yf M7 M8 N7 P7 hb7 hb8 O8
  unfold set6 at M9 N9 O9 hb9
  go_upto_region 8 with fail
  clear y0 y1 y2 y3 y4 y5 yz g0 g1 g2 g3 g4 g5
  generalize ((((((w8.setCell ⟨b3, 0, none⟩ (.int .i64 sb.at_)).setCell ⟨b3, 1, none⟩ (.slice vs3 sb.vars.length vc3)).setCell ⟨b3, 2, none⟩ (.slice ts3 sb.things.length tc3)).setCell ⟨b3, 3, none⟩ (.int .i64 sb.taken)).setCell ⟨b3, 4, none⟩ (.slice ls3 sb.lines.length lc3)).setCell ⟨b3, 5, none⟩ (.int .i64 sb.fin)) = w9 at *
  obtain ⟨⟨p0, p1, p2⟩, pz⟩ := id (P4.call hb9)
  obtain ⟨⟨q0, q1, q2, q3, q4, q5⟩, qz, -⟩ := id (Q4.call hb9)
  go_wp2_with (go_at_call 23; fail)
  refine (HSO.out _ (hc4.below hb9 (Nat.le_refl _)) (hr4.below hb9 (Nat.le_refl _)) (hI4.below hb9 (Nat.le_refl _))).mono ?_
  rintro e w10 ⟨vs5, vc5, ts5, tc5, ls5, lc5, fv5, rfl, O10, hb10⟩
  clear p0 p1 p2 pz q0 q1 q2 q3 q4 q5 qz
  have N10 := N9.call hb10
  have M11 : R6 (set6 w10 (b3 + 1) (.int .i64 sp.at_) (.slice vs5 sp.vars.length vc5) (.slice ts5 sp.things.length tc5) (.int .i64 sp.taken) (.slice ls5 sp.lines.length lc5) (.int .i64 sp.fin)) b3 (.int .i64 sb.at_) (.slice vs3 sb.vars.length vc3) (.slice ts3 sb.things.length tc3) (.int .i64 sb.taken) (.slice ls3 sb.lines.length lc3) (.int .i64 sb.fin) := (M9.call hb10).apart (by omega) _ _ _ _ _ _
  have N11 := N10.put (.int .i64 sp.at_) (.slice vs5 sp.vars.length vc5) (.slice ts5 sp.things.length tc5) (.int .i64 sp.taken) (.slice ls5 sp.lines.length lc5) (.int .i64 sp.fin)
  have O11 := (O9.below hb10).set6 z79 (.int .i64 sp.at_) (.slice vs5 sp.vars.length vc5) (.slice ts5 sp.things.length tc5) (.int .i64 sp.taken) (.slice ls5 sp.lines.length lc5) (.int .i64 sp.fin)
  have T11 := O10.set6 N9.2.1 (.int .i64 sp.at_) (.slice vs5 sp.vars.length vc5) (.slice ts5 sp.things.length tc5) (.int .i64 sp.taken) (.slice ls5 sp.lines.length lc5) (.int .i64 sp.fin)
  have hb11 : Below w4.heap.size w4 (set6 w10 (b3 + 1) (.int .i64 sp.at_) (.slice vs5 sp.vars.length vc5) (.slice ts5 sp.things.length tc5) (.int .i64 sp.taken) (.slice ls5 sp.lines.length lc5) (.int .i64 sp.fin)) := below_set6 (hb9.trans (hb10.mono hb9.size)) (by omega) _ _ _ _ _ _
  obtain ⟨⟨y0, y1, y2, y3, y4, y5⟩, yz, yf⟩ := id N10
  have g0 := yf 0
  have g1 := yf 1
  have g2 := yf 2
  have g3 := yf 3
  have g4 := yf 4
  have g5 := yf 5
  clear yf M9 N9 N10 O9 O10 hb9 hb10
  unfold set6 at M11 N11 O11 T11 hb11
  go_upto_region 9 with fail
  clear y0 y1 y2 y3 y4 y5 yz g0 g1 g2 g3 g4 g5
  generalize ((((((w10.setCell ⟨(b3 + 1), 0, none⟩ (.int .i64 sp.at_)).setCell ⟨(b3 + 1), 1, none⟩ (.slice vs5 sp.vars.length vc5)).setCell ⟨(b3 + 1), 2, none⟩ (.slice ts5 sp.things.length tc5)).setCell ⟨(b3 + 1), 3, none⟩ (.int .i64 sp.taken)).setCell ⟨(b3 + 1), 4, none⟩ (.slice ls5 sp.lines.length lc5)).setCell ⟨(b3 + 1), 5, none⟩ (.int .i64 sp.fin)) = w11 at *
  have HW := H4.trans (hb11.mono H4.size)
  go_wp2_with (go_at_call 24; fail)
  refine (HBG.out _ (hT.below HW)).mono ?_
  rintro e wg ⟨rfl, hbg⟩
  have h4g := hb11.trans (hbg.mono hb11.size)
  obtain ⟨⟨p0, p1, p2⟩, pz⟩ := id (P4.call h4g)
  obtain ⟨⟨q0, q1, q2, q3, q4, q5⟩, qz, -⟩ := id (Q4.call h4g)
  go_wp2_with (go_at_call 25; fail)
  refine (HCK.out _ (hc4.below h4g (Nat.le_refl _)) (hr4.below h4g (Nat.le_refl _))).mono ?_
  rintro e wh ⟨rfl, hbh⟩
  clear p0 p1 p2 pz q0 q1 q2 q3 q4 q5 qz
  have h4h := h4g.trans (hbh.mono h4g.size)
  have hgh := hbg.trans (hbh.mono hbg.size)
  obtain ⟨⟨x0, x1, x2, x3, x4, x5⟩, xz, -⟩ := id (X4.call h4h)
  obtain ⟨⟨m0, m1, m2, m3, m4, m5⟩, mz, -⟩ := id (M11.call hgh)
  have HI := hideK (runIsU 0 sb sb vs1 vc1 ts1 tc1 ls1 lc1 vs3 vc3 ts3 tc3 ls3 lc3 wh (fun _ => rfl) (fun h => absurd rfl h) HL1.out (A4.below h4h (Nat.le_refl _)) (O11.runAt.below hgh (Nat.le_refl _)))
  unfold runV at HI
  go_wp2_with (go_at_call 26; fail)
  refine HI.out.mono ?_
  rintro e wi ⟨rfl, hbi⟩
  clear HI x0 x1 x2 x3 x4 x5 xz m0 m1 m2 m3 m4 m5 mz
  have h4i := h4h.trans (hbi.mono h4h.size)
  have hgi := hgh.trans (hbi.mono hgh.size)
  obtain ⟨⟨x0, x1, x2, x3, x4, x5⟩, xz, -⟩ := id (Y4.call h4i)
  obtain ⟨⟨m0, m1, m2, m3, m4, m5⟩, mz, -⟩ := id (N11.call hgi)
  have HI := hideK (runIsU 0 sp sp vs2 vc2 ts2 tc2 ls2 lc2 vs5 vc5 ts5 tc5 ls5 lc5 wi (fun _ => rfl) (fun h => absurd rfl h) HL2.out (B4.below h4i (Nat.le_refl _)) (T11.runAt.below hgi (Nat.le_refl _)))
  unfold runV at HI
  go_wp2_with (go_at_call 26; fail)
  refine HI.out.mono ?_
  rintro e wj ⟨rfl, hbj⟩
  go_wp2
  go_ret
  exact ⟨rfl, H4.trans ((h4i.trans (hbj.mono h4i.size)).mono H4.size)⟩
end Go.Proofs.YtmapdpcfanecdaaDoor

namespace Go.Proofs.YtmapdpcfanecdaaDoor
set_option linter.unusedVariables false
set_option linter.unusedSimpArgs false
open Go.RowKit
attribute [local go_sem ↓] Go.wp_at_zero Go.wp_at_succ

theorem runSteps_any (V F : Int) (s : Option Addr) (c : List Ins) (cap : Nat) (r : St) (vs : Option Addr) (vc : Nat) (ts : Option Addr) (tc : Nat) (ls : Option Addr) (lc : Nat) (is : Option Addr) (ic : Nat) (ins : List Int) (w : World) (hc : CodeAt w s c) (hl : LenSt r) (hr : RunAt w r vs ts ls) (hI : IntsAt w is ins) (hT : Tab w) (hln : (r.lines.length + 1) * 16 ≤ 140737488355328) (hbg : ∀ wx, Tab wx → Calls Tryd.prog 24 #[] wx fun e w' => e = .returned (.bool true) ∧ Below wx.heap.size wx w') :
    Calls Tryd.prog 6 #[.agg #[.int .i64 V, .int .i64 F, .slice s c.length cap], runV r vs vc ts tc ls lc, .slice is ins.length ic] w fun e w' => e = .returned (.bool true) ∧ Below w.heap.size w w' := by
  by_cases h0 : ckProg V F c = 0
  · have hp := progOk_of h0
    obtain ⟨v, rfl⟩ := Int.eq_ofNat_of_zero_le (show 0 ≤ V by have := hp.v1; omega)
    obtain ⟨f, rfl⟩ := Int.eq_ofNat_of_zero_le hp.f0
    by_cases h1 : ckBoth (v : Int) (f : Int) c r = 0
    · exact runSteps_good v f s c cap r vs vc ts tc ls lc is ic ins w hc hl hr hI hT hln h1 hbg
    · exact runSteps_half v f s c cap r vs vc ts tc ls lc is ic ins w hc hl hr hI hT hln h0 h1 hbg
  · exact runSteps_bad V F s c cap r vs vc ts tc ls lc is ic ins w hc hl hr hI hT hln h0 hbg
end Go.Proofs.YtmapdpcfanecdaaDoor

namespace Go.Proofs.YtmapdpcfanecdaaDoor
set_option linter.unusedVariables false
set_option linter.unusedSimpArgs false
open Go.RowKit Go.ChangeShapes Go.WideShapes Go.Joins Go.Deep

section
variable {H : Type} {enc : TypeId × Value → H} {P : Program} {w : World} {base : Nat} {spare : Nat → Bool} {held : Bool}

theorem choose_to {α : Type} (inh : Nonempty α) {len : Nat} {R : Nat → α → Prop} (h : ∀ i, i < len → ∃ q, R i q) : ∃ f : Nat → α, ∀ i, i < len → R i (f i) := by
  refine ⟨fun i => if hi : i < len then Classical.choose (h i hi) else Classical.choice inh, fun i hi => ?_⟩
  simp only [dif_pos hi]
  exact Classical.choose_spec (h i hi)

/-- A slice of elements, each of them read by its own law. -/
theorem read_list {α : Type} {t e : TypeId} {n : Nat} (hn : 0 < n) (ht : P.underlying t = some (.slice e)) (hcn : P.cellsOf e = n) (Q : α → List Value → Prop) (inh : Nonempty α)
    (each : ∀ fuel cs x, DataW.trod enc P w base spare held fuel e cs = some x → ∃ q, Q q cs) {fuel : Nat} {v : Value} {x : DataW H × List MemPlace} (h : DataW.trod enc P w base spare held fuel t [v] = some x) :
    ∃ (s : Option Addr) (cap : Nat) (l : List α), v = .slice s l.length cap ∧ l.length ≤ cap ∧ cap ≤ maxLen ∧ (l = [] ∨ ∃ b off, s = some ⟨b, off, none⟩ ∧ b < w.heap.size ∧ ∀ k (hk : k < l.length), ∃ cs, (∀ j, j < n → w.cell? ⟨b, off + k * n + j, none⟩ = cs[j]?) ∧ Q l[k] cs) ∧
      (l ≠ [] → ∃ m, l.length ≤ m ∧ m * P.bytesOf e ∈ x.1.weights P t) := by
  rcases open_slice ht h with ⟨hv, _⟩ | ⟨a, len, cap, m, n', D, Pl, hv, hb, hl, hm, hmm, hx, hi⟩
  · simp at hv
    subst hv
    exact ⟨none, 0, [], rfl, Nat.le_refl _, by unfold maxLen; omega, .inl rfl, fun h => absurd rfl h⟩
  · simp at hv
    subst hv
    have hlm : len ≤ m := by rw [hmm]; split <;> omega
    have ea : ∀ i, i < len → ∃ q : α, ∃ cs, (∀ j, j < n → w.cell? (a.add (i * n + j)) = cs[j]?) ∧ cs.length = n ∧ Q q cs := by
      intro i hil
      obtain ⟨cs', h1, h2⟩ := hi i (by omega)
      rw [hcn] at h1
      obtain ⟨_, hlen, hcell⟩ := World.cells?_some h1
      obtain ⟨q, hq⟩ := each _ _ _ h2
      refine ⟨q, cs', fun j hj => ?_, hlen, hq⟩
      rw [← Deep.add_add]
      exact hcell j hj
    obtain ⟨f, hf⟩ := choose_to inh ea
    refine ⟨some a, cap, (List.range len).map f, by simp, by simpa using hl, hm, ?_, fun _ => ⟨m, by simpa using hlm, ?_⟩⟩
    · by_cases h0 : len = 0
      · left; subst h0; rfl
      · right
        obtain ⟨cs0, hc0, hn0, -⟩ := hf 0 (by omega)
        have ha := hc0 0 hn
        rw [List.getElem?_eq_getElem (by omega)] at ha
        simp [Addr.add] at ha
        obtain ⟨b, off, sp⟩ := a
        have hsp : sp = none := by
          cases sp with
          | none => rfl
          | some z => simp [World.cell?] at ha; split at ha <;> simp_all
        subst hsp
        refine ⟨b, off, rfl, World.block_lt_of_cell? w _ ha, fun k hk => ?_⟩
        have hkl : k < len := by simpa using hk
        obtain ⟨cs, hc, hn, hq⟩ := hf k hkl
        have pl : ∀ n, (⟨b, off, none⟩ : Addr).add n = ⟨b, off + n, none⟩ := fun n => by unfold Addr.add; split <;> simp_all
        refine ⟨cs, fun j hj => ?_, by simpa using hq⟩
        have := hc j hj
        rw [pl] at this
        rw [Nat.add_assoc]
        exact this
    · subst hx
      simp only [DataW.weights, ht, List.length_map, List.length_range]
      have : len + (m - len) = m := by omega
      rw [this]
      exact List.mem_cons_self
end
end Go.Proofs.YtmapdpcfanecdaaDoor

namespace Go.Proofs.YtmapdpcfanecdaaDoor
set_option linter.unusedVariables false
set_option linter.unusedSimpArgs false
open Go.RowKit Go.ChangeShapes Go.WideShapes Go.Joins Go.Deep

theorem cellsR_int : Tryd.prog.cellsOf 3 = 1 := by kernel_rfl
theorem cellsR_string : Tryd.prog.cellsOf 9 = 1 := by kernel_rfl
theorem cellsR_value : Tryd.prog.cellsOf 94 = 2 := by kernel_rfl
theorem cellsR_thing : Tryd.prog.cellsOf 99 = 2 := by kernel_rfl
theorem cellsR_run : Tryd.prog.cellsOf 46 = 6 := by kernel_rfl
theorem cellsR_values : Tryd.prog.cellsOf 42 = 1 := by kernel_rfl
theorem cellsR_things : Tryd.prog.cellsOf 43 = 1 := by kernel_rfl
theorem cellsR_strings : Tryd.prog.cellsOf 44 = 1 := by kernel_rfl
theorem listR_two {α : Type} (l : List α) (h : l.length = 2) : ∃ a b, l = [a, b] := by
  match l, h with
  | [a, b], _ => exact ⟨a, b, rfl⟩
theorem listR_six {α : Type} (l : List α) (h : l.length = 6) : ∃ a b c d e f, l = [a, b, c, d, e, f] := by
  match l, h with
  | [a, b, c, d, e, f], _ => exact ⟨a, b, c, d, e, f, rfl⟩

section
variable {H : Type} {enc : TypeId × Value → H} {w : World} {base : Nat} {spare : Nat → Bool} {held : Bool}

theorem read_intsR {fuel : Nat} {v : Value} {x : DataW H × List MemPlace} (h : DataW.trod enc Tryd.prog w base spare held fuel 28 [v] = some x) :
    ∃ (s : Option Addr) (cap : Nat) (c : List Int), v = .slice s c.length cap ∧ c.length ≤ cap ∧ cap ≤ maxLen ∧ IntsAt w s c := by
  obtain ⟨s, cap, l, rfl, h1, h2, h3, -⟩ := read_list (n := 1) (by omega) Tryd.underlying28 cellsR_int (fun (q : Int) cs => cs = [.int .i64 q]) ⟨0⟩ (fun fuel cs x h => by
    obtain ⟨q, e, _, _⟩ := DataW.trod_int Tryd.underlying3 h
    exact ⟨q, e⟩) h
  refine ⟨s, cap, l, rfl, h1, h2, ?_⟩
  rcases h3 with h3 | ⟨b, off, rfl, hb, hc⟩
  · exact .inl h3
  · refine .inr ⟨b, off, rfl, hb, fun k hk => ?_⟩
    obtain ⟨cs, hc1, rfl⟩ := hc k hk
    have h0 := hc1 0 (by omega)
    rw [Nat.mul_one] at h0
    exact h0

set_option maxRecDepth 100000 in
theorem open_ints {r : Reach} {b0 : Nat} {v : Value} {d : DataW H} {p : List MemPlace} (hv : Value.okWide Tryd.prog w r b0 28 v) (h : DataW.Trod enc Tryd.prog w base spare held 28 v d p) :
    ∃ (s : Option Addr) (cap : Nat) (c : List Int), v = .slice s c.length cap ∧ c.length ≤ cap ∧ cap ≤ maxLen ∧ IntsAt w s c := by
  obtain ⟨s, len, cap, rfl⟩ := okWide_slice Tryd.underlying28 hv
  obtain ⟨fuel, hf⟩ := h
  exact read_intsR (by simpa [Value.cells] using hf)

set_option maxRecDepth 100000 in
theorem read_val2 {fuel : Nat} {cs : List Value} {x : DataW H × List MemPlace} (h : DataW.trod enc Tryd.prog w base spare held fuel 94 cs = some x) :
    ∃ q : Val, cs = [.int .i64 q.k, .int .i64 q.n] := by
  obtain ⟨xs, n, _, _, hl, hx, hf⟩ := DataW.trod_struct Tryd.underlying94 h
  rw [cellsR_value] at hl
  obtain ⟨c0, c1, rfl⟩ := listR_two cs hl
  obtain ⟨y0, y1, rfl⟩ := listR_two xs hx
  have g0 := hf 0 _ rfl
  have g1 := hf 1 _ rfl
  simp [cellsR_int] at g0 g1
  obtain ⟨a0, e0, _, _⟩ := DataW.trod_int Tryd.underlying3 g0
  obtain ⟨a1, e1, _, _⟩ := DataW.trod_int Tryd.underlying3 g1
  simp at e0 e1
  subst e0 e1
  exact ⟨⟨a0, a1⟩, rfl⟩

theorem read_vals {fuel : Nat} {v : Value} {x : DataW H × List MemPlace} (h : DataW.trod enc Tryd.prog w base spare held fuel 42 [v] = some x) :
    ∃ (s : Option Addr) (cap : Nat) (c : List Val), v = .slice s c.length cap ∧ c.length ≤ cap ∧ cap ≤ maxLen ∧ ValsAt w s c := by
  obtain ⟨s, cap, l, rfl, h1, h2, h3, -⟩ := read_list (n := 2) (by omega) Tryd.underlying42 cellsR_value (fun (q : Val) cs => cs = [.int .i64 q.k, .int .i64 q.n]) ⟨⟨0, 0⟩⟩ (fun fuel cs x h => read_val2 h) h
  refine ⟨s, cap, l, rfl, h1, h2, ?_⟩
  rcases h3 with h3 | ⟨b, off, rfl, hb, hc⟩
  · exact .inl h3
  · refine .inr ⟨b, off, rfl, hb, fun k hk => ?_⟩
    obtain ⟨cs, hc1, rfl⟩ := hc k hk
    exact ⟨hc1 0 (by omega), hc1 1 (by omega)⟩

set_option maxRecDepth 100000 in
theorem read_thing {fuel : Nat} {cs : List Value} {x : DataW H × List MemPlace} (h : DataW.trod enc Tryd.prog w base spare held fuel 99 cs = some x) :
    ∃ q : Thg, ∃ f fc, cs = [.int .i64 q.site, .slice f q.fs.length fc] ∧ q.fs.length ≤ maxLen ∧ ValsAt w f q.fs := by
  obtain ⟨xs, n, _, _, hl, hx, hf⟩ := DataW.trod_struct Tryd.underlying99 h
  rw [cellsR_thing] at hl
  obtain ⟨c0, c1, rfl⟩ := listR_two cs hl
  obtain ⟨y0, y1, rfl⟩ := listR_two xs hx
  have g0 := hf 0 _ rfl
  have g1 := hf 1 _ rfl
  simp [cellsR_int, cellsR_values] at g0 g1
  obtain ⟨a0, e0, _, _⟩ := DataW.trod_int Tryd.underlying3 g0
  obtain ⟨f, fc, l, e1, q1, q2, q3⟩ := read_vals g1
  simp at e0
  subst e0 e1
  exact ⟨⟨a0, l⟩, f, fc, rfl, by simp only; omega, q3⟩

theorem read_things {fuel : Nat} {v : Value} {x : DataW H × List MemPlace} (h : DataW.trod enc Tryd.prog w base spare held fuel 43 [v] = some x) :
    ∃ (s : Option Addr) (cap : Nat) (c : List Thg), v = .slice s c.length cap ∧ c.length ≤ cap ∧ cap ≤ maxLen ∧ (∀ q ∈ c, q.fs.length ≤ maxLen) ∧ ThgsAt w s c := by
  obtain ⟨s, cap, l, rfl, h1, h2, h3, -⟩ := read_list (n := 2) (by omega) Tryd.underlying43 cellsR_thing (fun (q : Thg) cs => ∃ f fc, cs = [.int .i64 q.site, .slice f q.fs.length fc] ∧ q.fs.length ≤ maxLen ∧ ValsAt w f q.fs) ⟨⟨0, []⟩⟩ (fun fuel cs x h => read_thing h) h
  rcases h3 with h3 | ⟨b, off, rfl, hb, hc⟩
  · subst h3
    exact ⟨s, cap, [], rfl, h1, h2, fun q hq => by simp at hq, .inl rfl⟩
  · refine ⟨_, cap, l, rfl, h1, h2, fun q hq => ?_, .inr ⟨b, off, rfl, hb, fun k hk => ?_⟩⟩
    · obtain ⟨k, hk, rfl⟩ := List.getElem_of_mem hq
      obtain ⟨cs, hc1, f, fc, rfl, hl, hq⟩ := hc k hk
      exact hl
    · obtain ⟨cs, hc1, f, fc, rfl, hl, hq⟩ := hc k hk
      exact ⟨hc1 0 (by omega), f, fc, hc1 1 (by omega), hq⟩

theorem read_strs {fuel : Nat} {v : Value} {x : DataW H × List MemPlace} (h : DataW.trod enc Tryd.prog w base spare held fuel 44 [v] = some x) :
    ∃ (s : Option Addr) (cap : Nat) (c : List ByteArray), v = .slice s c.length cap ∧ c.length ≤ cap ∧ cap ≤ maxLen ∧ StrsAt w s c ∧ (c ≠ [] → ∃ m, c.length ≤ m ∧ m * Tryd.prog.bytesOf 9 ∈ x.1.weights Tryd.prog 44) := by
  obtain ⟨s, cap, l, rfl, h1, h2, h3, h4⟩ := read_list (n := 1) (by omega) Tryd.underlying44 cellsR_string (fun (q : ByteArray) cs => cs = [.string q]) ⟨⟨#[]⟩⟩ (fun fuel cs x h => by
    obtain ⟨q, e, _, _⟩ := DataW.trod_string Tryd.underlying9 h
    exact ⟨q, e⟩) h
  refine ⟨s, cap, l, rfl, h1, h2, ?_, h4⟩
  rcases h3 with h3 | ⟨b, off, rfl, hb, hc⟩
  · exact .inl h3
  · refine .inr ⟨b, off, rfl, hb, fun k hk => ?_⟩
    obtain ⟨cs, hc1, rfl⟩ := hc k hk
    have h0 := hc1 0 (by omega)
    rw [Nat.mul_one] at h0
    exact h0

set_option maxRecDepth 100000 in
/-- A run that is handed in. -/
theorem open_run {r : Reach} {b0 : Nat} {v : Value} {d : DataW H} {p : List MemPlace} (hv : Value.okWide Tryd.prog w r b0 46 v) (h : DataW.Trod enc Tryd.prog w base spare held 46 v d p) :
    ∃ (st : St) (vs : Option Addr) (vc : Nat) (ts : Option Addr) (tc : Nat) (ls : Option Addr) (lc : Nat), v = runV st vs vc ts tc ls lc ∧ LenSt st ∧ RunAt w st vs ts ls ∧ (st.lines ≠ [] → ∃ m, st.lines.length ≤ m ∧ m * 16 ∈ d.weights Tryd.prog 46) := by
  obtain ⟨cs, rfl, hsz⟩ := okWide_struct Tryd.underlying46 hv
  obtain ⟨fuel, hf⟩ := h
  obtain ⟨xs, n, _, hd, hl, hx, hf⟩ := DataW.trod_struct Tryd.underlying46 hf
  rw [cellsR_run] at hl
  obtain ⟨c0, c1, c2, c3, c4, c5, hcs⟩ := listR_six _ hl
  obtain ⟨y0, y1, y2, y3, y4, y5, rfl⟩ := listR_six xs hx
  have hcs' : cs.toList = [c0, c1, c2, c3, c4, c5] := by simpa [Value.cells] using hcs
  have e : cs = #[c0, c1, c2, c3, c4, c5] := by cases cs; simp_all
  subst e
  have g0 := hf 0 _ rfl
  have g1 := hf 1 _ rfl
  have g2 := hf 2 _ rfl
  have g3 := hf 3 _ rfl
  have g4 := hf 4 _ rfl
  have g5 := hf 5 _ rfl
  simp [cellsR_int, cellsR_values, cellsR_things, cellsR_strings, Value.cells] at g0 g1 g2 g3 g4 g5
  obtain ⟨a0, e0, _, _⟩ := DataW.trod_int Tryd.underlying3 g0
  obtain ⟨vs, vc, l1, e1, k1, m1, p1⟩ := read_vals g1
  obtain ⟨ts, tc, l2, e2, k2, m2, f2, p2⟩ := read_things g2
  obtain ⟨a3, e3, _, _⟩ := DataW.trod_int Tryd.underlying3 g3
  obtain ⟨ls, lc, l4, e4, k4, m4, p4, w4⟩ := read_strs g4
  obtain ⟨a5, e5, _, _⟩ := DataW.trod_int Tryd.underlying3 g5
  simp at e0 e3 e5
  subst e0 e1 e2 e3 e4 e5
  refine ⟨⟨a0, l1, l2, a3, l4, a5⟩, vs, vc, ts, tc, ls, lc, rfl, ⟨by simp only; omega, by simp only; omega, by simp only; omega, f2⟩, ⟨p1, p2, p4⟩, fun hne => ?_⟩
  obtain ⟨m, hm, hw⟩ := w4 hne
  refine ⟨m, hm, ?_⟩
  have hb : Tryd.prog.bytesOf 9 = 16 := by kernel_rfl
  rw [hb] at hw
  injection hd with hd1 hd2
  subst hd1
  simp only [DataW.weights, Tryd.underlying46]
  exact DataW.weights_mem_each (j := 4) rfl rfl _ hw
end
end Go.Proofs.YtmapdpcfanecdaaDoor

namespace Go.Proofs.YtmapdpcfanecdaaDoor
set_option linter.unusedVariables false
set_option linter.unusedSimpArgs false
open Go.RowKit

def smallC : List Ins := [⟨1, 0, 0, 0, 5, 0⟩, ⟨18, 0, 0, 0, 0, 0⟩]

set_option maxHeartbeats 1000000 in
set_option maxRecDepth 20000 in
theorem small_any (w : World) :
    Calls Tryd.prog 41 #[] w fun e w' => ∃ b, e = .returned (.agg #[.int .i64 1, .int .i64 0, .slice (some ⟨b, 0, none⟩) 2 2]) ∧ CodeAt w' (some ⟨b, 0, none⟩) smallC ∧ Below w.heap.size w w' := by
  go_enter Tryd.func41, Tryd.ntmps41
  go_wp2
  refine bodyPost_ret (v := .agg #[.int .i64 1, .int .i64 0, .slice (some ⟨w.heap.size + 1, 0, none⟩) 2 2]) (by simp [results, Tryd.results41, go_sem]) rfl ⟨w.heap.size + 1, rfl, .inr ⟨_, _, rfl, by simp, ?_⟩, by go_grown⟩
  intro k hk
  match k, hk with
  | 0, _ => refine ⟨?_, ?_, ?_, ?_, ?_, ?_⟩ <;> simp [go_sem, smallC]
  | 1, _ => refine ⟨?_, ?_, ?_, ?_, ?_, ?_⟩ <;> simp [go_sem, smallC]
  | k + 2, h => simp [smallC] at h; omega
end Go.Proofs.YtmapdpcfanecdaaDoor

namespace Go.Proofs.YtmapdpcfanecdaaDoor
set_option linter.unusedVariables false
set_option linter.unusedSimpArgs false
open Go.RowKit

theorem small_fin : (runSt 1 0 smallC [] 10).1.fin = 1 := by decide +kernel
theorem small_n : (runSt 1 0 smallC [] 10).2 = 3 := by decide +kernel
theorem small_lines : (runSt 1 0 smallC [] 10).1.lines.map (·.data) = [#[53]] := by decide +kernel
theorem small_at : (stepSt 0 smallC [] (beginSt 1)).at_ = 1 := by decide +kernel
theorem small_both : ckBoth 1 0 smallC (beginSt 1) = 0 := by decide +kernel
theorem small_both2 : ckBoth 1 0 smallC (stepSt 0 smallC [] (beginSt 1)) = 0 := by decide +kernel
theorem small_len : LenSt (beginSt 1) := ⟨by decide +kernel, by decide +kernel, by decide +kernel, fun t ht => by simp [beginSt] at ht⟩
theorem small_len2 : LenSt (stepSt 0 smallC [] (beginSt 1)) := by
  refine ⟨by decide +kernel, by decide +kernel, by decide +kernel, fun t ht => ?_⟩
  have h : (stepSt 0 smallC [] (beginSt 1)).things.length = 0 := by decide +kernel
  rw [List.eq_nil_of_length_eq_zero h] at ht
  simp at ht
theorem small_line : (runSt 1 0 smallC [] 10).1.lines = [⟨#[53]⟩] := by
  have h := small_lines
  generalize (runSt 1 0 smallC [] 10).1.lines = l at h ⊢
  match l, h with
  | [⟨d⟩], h => simp at h; rw [h]
end Go.Proofs.YtmapdpcfanecdaaDoor
