/- Walks over package run: what the machine does, kind by kind. -/
import Derived.Test.YtmapdpcfanecdaaDoorKlawrsp52
import Derived.Deep.DeepCutAuto
import Derived.Test.YtmapdpcfanecdaaDoorKlawrsp06
namespace Go.Proofs.YtmapdpcfanecdaaDoor
set_option linter.unusedVariables false
set_option linter.unusedSimpArgs false
open Go.RowKit
attribute [local go_sem ↓] Go.wp_at_zero Go.wp_at_succ

theorem lenSt_of {v f : Nat} {c : List Ins} {st : St} (hp : ProgOk v f c) (h : RunOk v f c st) (hl : st.lines.length ≤ 5000) : LenSt st := by
  have h1 := h.vars
  have h2 := hp.v8
  have h3 := h.things
  refine ⟨by unfold maxLen; omega, by unfold maxLen; omega, by unfold maxLen; omega, fun t ht => ?_⟩
  have := h.fields t ht
  have := hp.f3
  unfold maxLen
  omega
set_option maxHeartbeats 2000000 in
set_option maxRecDepth 20000 in
theorem runRuns_ok (v f : Nat) (s : Option Addr) (c : List Ins) (cap : Nat) (is : Option Addr) (ic : Nat) (ins : List Int) (fuel : Nat) (w : World) (hc : CodeAt w s c) (hI : IntsAt w is ins) (hT : Tab w) (h0 : ckProg v f c = 0) (hf5 : fuel ≤ 5000) (hbg : ∀ wx, Tab wx → Calls Tryd.prog 24 #[] wx fun e w' => e = .returned (.bool true) ∧ Below wx.heap.size wx w') :
    Calls Tryd.prog 7 #[.agg #[.int .i64 (v : Int), .int .i64 (f : Int), .slice s c.length cap], .slice is ins.length ic, .int .i64 (fuel : Int)] w fun e w' => e = .returned (.bool true) ∧ Below w.heap.size w w' := by
  have hb0 : Below w.heap.size w (w.alloc (.cells #[.int .i64 (v : Int), .int .i64 (f : Int), .slice s c.length cap] 24)) := by go_grown
  have P0 := P3.new w v f s c.length cap
  have hc0 := hc.below hb0 (Nat.le_refl _)
  have hI0 := hI.below hb0 (Nat.le_refl _)
  have hp := progOk_of h0
  have HR := hideK (runM_ok v f s c cap is ic ins fuel (w.alloc (.cells #[.int .i64 (v : Int), .int .i64 (f : Int), .slice s c.length cap] 24)) hc0 hI0 (hT.below hb0) h0 hf5)
  have HRO := hideK (fun wx hx hy => runOf_any v f s c cap is ic ins fuel wx hx hy hp hf5)
  have HBG := hideK hbg
  have HCK := hideK (fun wx hx => checkProgram_any (v : Int) (f : Int) s cap c wx hx)
  rw [h0] at HCK
  have HP := hideK hp
  have nf0 : ¬ ((fuel : Int) < 0) := by omega
  have nf5 : ¬ (5000 < (fuel : Int)) := by omega
  clear hbg h0 hp hc hI
  generalize runSt v f c ins fuel = rs at *
  obtain ⟨st, nn⟩ := rs
  simp only at HR HRO
  go_enter Tryd.func7, Tryd.ntmps7
  go_wp2_with (go_at_call 27; fail)
  generalize (w.alloc (.cells #[.int .i64 (v : Int), .int .i64 (f : Int), .slice s c.length cap] 24)) = w0 at *
  refine HR.out.mono ?_
  rintro e w1 ⟨vv, tv, lv, fv, rfl, OR, hok, hl5, hb1⟩
  clear HR
  have hlen := hideK (lenSt_of HP.out hok hl5)
  obtain ⟨vs, vc, ts, tc, ls, lc, rfl, rfl, rfl, A1⟩ := OR.at
  have hba : Below w1.heap.size w1 (w1.alloc (.cells #[.int .i64 st.at_, .slice vs st.vars.length vc, .slice ts st.things.length tc, .int .i64 st.taken, .slice ls st.lines.length lc, .int .i64 st.fin] 46)) := by go_grown
  have hb2 : Below w0.heap.size w0 (w1.alloc (.cells #[.int .i64 st.at_, .slice vs st.vars.length vc, .slice ts st.things.length tc, .int .i64 st.taken, .slice ls st.lines.length lc, .int .i64 st.fin] 46)) := hb1.alloc hb1.size _
  have A2 := A1.below hba (Nat.le_refl _)
  have P2 := P0.call hb2
  have Q2 := R6.new w1 46 (.int .i64 st.at_) (.slice vs st.vars.length vc) (.slice ts st.things.length tc) (.int .i64 st.taken) (.slice ls st.lines.length lc) (.int .i64 st.fin)
  have hc2 := hc0.below hb2 (Nat.le_refl _)
  have hI2 := hI0.below hb2 (Nat.le_refl _)
  have H2 := hb0.trans (hb2.mono hb0.size)
  clear OR A1 hb1 hba hok hl5
  go_upto_region 2 with fail
  generalize (w1.alloc (.cells #[.int .i64 st.at_, .slice vs st.vars.length vc, .slice ts st.things.length tc, .int .i64 st.taken, .slice ls st.lines.length lc, .int .i64 st.fin] 46)) = w2 at *
  obtain ⟨⟨p0, p1, p2⟩, pz⟩ := id P2
  go_wp2_with (go_at_call 10; fail)
  refine (HCK.out _ hc2).mono ?_
  rintro e w3 ⟨rfl, hb3⟩
  clear p0 p1 p2 pz
  have hbz : Below w3.heap.size w3 (w3.alloc (.cells #[.int .i64 0, .slice none 0 0, .slice none 0 0, .int .i64 0, .slice none 0 0, .int .i64 0] 46)) := by go_grown
  have hb4 := hb3.trans (hb3.size |> fun h => hbz.mono h)
  have H4 := H2.trans (hb4.mono H2.size)
  have P4 := P2.call hb4
  have Q4 := Q2.call hb4
  have A4 := A2.below hb4 (Nat.le_refl _)
  have hc4 := hc2.below hb4 (Nat.le_refl _)
  have hI4 := hI2.below hb4 (Nat.le_refl _)
  have Y4 := R6.new w3 46 (.int .i64 0) (.slice none 0 0) (.slice none 0 0) (.int .i64 0) (.slice none 0 0) (.int .i64 0)
  have z13 : w1.heap.size < w3.heap.size := Nat.lt_of_lt_of_le Q2.2.1 hb3.size
  have z03 : w.heap.size ≤ w3.heap.size := by have := H2.size; have := hb3.size; omega
  have z23 : w2.heap.size ≤ w3.heap.size := hb3.size
  have A2' := A2
  clear hb3 hbz P2 Q2 A2 hc2 hI2 H2
  go_upto_region 8 with fail
  generalize (w3.alloc (.cells #[.int .i64 0, .slice none 0 0, .slice none 0 0, .int .i64 0, .slice none 0 0, .int .i64 0] 46)) = w4 at *
  obtain ⟨⟨p0, p1, p2⟩, pz⟩ := id P4
  go_wp2_with (go_at_call 28; fail)
  refine (HRO.out _ hc4 hI4).mono ?_
  rintro e w5 ⟨vv, tv, lv, fv, rfl, OR, -, -, hb5⟩
  obtain ⟨vs2, vc2, ts2, tc2, ls2, lc2, rfl, rfl, rfl, -⟩ := OR.at
  have H5 := H4.trans (hb5.mono H4.size)
  have Y5 := Y4.call hb5
  have Q5 := Q4.call hb5
  have Y6 := Y5.put (.int .i64 st.at_) (.slice vs2 st.vars.length vc2) (.slice ts2 st.things.length tc2) (.int .i64 st.taken) (.slice ls2 st.lines.length lc2) (.int .i64 st.fin)
  have Q6 : R6 (set6 w5 w3.heap.size (.int .i64 st.at_) (.slice vs2 st.vars.length vc2) (.slice ts2 st.things.length tc2) (.int .i64 st.taken) (.slice ls2 st.lines.length lc2) (.int .i64 st.fin)) w1.heap.size (.int .i64 st.at_) (.slice vs st.vars.length vc) (.slice ts st.things.length tc) (.int .i64 st.taken) (.slice ls st.lines.length lc) (.int .i64 st.fin) := Q5.same (set6_far _ _ _ _ _ _ _ _ _ (by omega)) (by rw [set6_size]; exact Nat.le_refl _)
  have O6 := OR.set6 (b := w3.heap.size) Y4.2.1 (.int .i64 st.at_) (.slice vs2 st.vars.length vc2) (.slice ts2 st.things.length tc2) (.int .i64 st.taken) (.slice ls2 st.lines.length lc2) (.int .i64 st.fin)
  obtain ⟨_, _, _, _, _, _, e1, e2, e3, B6⟩ := O6.at
  cases e1
  cases e2
  cases e3
  have hb6 : Below w2.heap.size w2 (set6 w5 w3.heap.size (.int .i64 st.at_) (.slice vs2 st.vars.length vc2) (.slice ts2 st.things.length tc2) (.int .i64 st.taken) (.slice ls2 st.lines.length lc2) (.int .i64 st.fin)) := below_set6 (hb4.trans (hb5.mono hb4.size)) z23 _ _ _ _ _ _
  have A6 := A2'.below hb6 (Nat.le_refl _)
  have H6 : Below w.heap.size w (set6 w5 w3.heap.size (.int .i64 st.at_) (.slice vs2 st.vars.length vc2) (.slice ts2 st.things.length tc2) (.int .i64 st.taken) (.slice ls2 st.lines.length lc2) (.int .i64 st.fin)) := below_set6 H5 z03 _ _ _ _ _ _
  obtain ⟨⟨y0, y1, y2, y3, y4, y5⟩, yz, yf⟩ := id Y5
  have g0 := yf 0
  have g1 := yf 1
  have g2 := yf 2
  have g3 := yf 3
  have g4 := yf 4
  have g5 := yf 5
  clear yf p0 p1 p2 pz P4 Q4 Y4 A4 hc4 hI4 H4 H5 OR O6 Q5 Y5 hb5 hb4 hb6
  unfold set6 at Y6 Q6 B6 A6 H6
  go_upto_region 9 with fail
  clear y0 y1 y2 y3 y4 y5 yz g0 g1 g2 g3 g4 g5
  generalize ((((((w5.setCell ⟨w3.heap.size, 0, none⟩ (.int .i64 st.at_)).setCell ⟨w3.heap.size, 1, none⟩ (.slice vs2 st.vars.length vc2)).setCell ⟨w3.heap.size, 2, none⟩ (.slice ts2 st.things.length tc2)).setCell ⟨w3.heap.size, 3, none⟩ (.int .i64 st.taken)).setCell ⟨w3.heap.size, 4, none⟩ (.slice ls2 st.lines.length lc2)).setCell ⟨w3.heap.size, 5, none⟩ (.int .i64 st.fin)) = w6 at *
  go_wp2_with (go_at_call 24; fail)
  refine (HBG.out _ (hT.below H6)).mono ?_
  rintro e w7 ⟨rfl, hb7⟩
  have H7 := H6.trans (hb7.mono H6.size)
  obtain ⟨⟨r0, r1, r2, r3, r4, r5⟩, rz, -⟩ := id (Q6.call hb7)
  obtain ⟨⟨y0, y1, y2, y3, y4, y5⟩, yz, -⟩ := id (Y6.call hb7)
  have HI := hideK (runIs_ok st vs vc ts tc ls lc vs2 vc2 ts2 tc2 ls2 lc2 w7 hlen.out (A6.below hb7 (Nat.le_refl _)) (B6.below hb7 (Nat.le_refl _)))
  unfold runV at HI
  clear Q6 Y6 A6 B6 H6 hb7
  go_wp2_with (go_at_call 26; fail)
  refine HI.out.mono ?_
  rintro e w8 ⟨rfl, hb8⟩
  go_wp2
  go_ret
  exact ⟨rfl, H7.trans (hb8.mono H7.size)⟩

theorem runRuns_any (V F : Int) (s : Option Addr) (c : List Ins) (cap : Nat) (is : Option Addr) (ic : Nat) (ins : List Int) (fuel : Int) (w : World) (hc : CodeAt w s c) (hI : IntsAt w is ins) (hT : Tab w) (hbg : ∀ wx, Tab wx → Calls Tryd.prog 24 #[] wx fun e w' => e = .returned (.bool true) ∧ Below wx.heap.size wx w') :
    Calls Tryd.prog 7 #[.agg #[.int .i64 V, .int .i64 F, .slice s c.length cap], .slice is ins.length ic, .int .i64 fuel] w fun e w' => e = .returned (.bool true) ∧ Below w.heap.size w w' := by
  by_cases h0 : ckProg V F c = 0
  · have hp := progOk_of h0
    obtain ⟨v, rfl⟩ := Int.eq_ofNat_of_zero_le (show 0 ≤ V by have := hp.v1; omega)
    obtain ⟨f, rfl⟩ := Int.eq_ofNat_of_zero_le hp.f0
    by_cases h1 : fuel < 0
    · exact runRuns_low v f s c cap is ic ins fuel w hc hT h0 h1 hbg
    by_cases h2 : 5000 < fuel
    · exact runRuns_high v f s c cap is ic ins fuel w hc hT h0 h2 hbg
    obtain ⟨n, rfl⟩ := Int.eq_ofNat_of_zero_le (show 0 ≤ fuel by omega)
    exact runRuns_ok v f s c cap is ic ins n w hc hI hT h0 (by omega) hbg
  · exact runRuns_err V F s c cap is ic ins fuel w hc hT h0 hbg
end Go.Proofs.YtmapdpcfanecdaaDoor

namespace Go.Proofs.YtmapdpcfanecdaaDoor
set_option linter.unusedVariables false
set_option linter.unusedSimpArgs false
open Go.RowKit
attribute [local go_sem ↓] Go.wp_at_zero Go.wp_at_succ

theorem begOf_len (V F : Int) (c : List Ins) : LenSt (begOf V F c) := by
  unfold begOf
  split
  · rename_i h
    have hp := progOk_of h
    have h1 := hp.v8
    refine ⟨?_, by simp [beginSt], by simp [beginSt], fun t ht => by simp [beginSt] at ht⟩
    simp only [beginSt, List.length_replicate]
    unfold maxLen
    omega
  · exact zeroSt_len
theorem ckBoth_prog {V F : Int} {c : List Ins} {r : St} (h : ckBoth V F c r = 0) : ckProg V F c = 0 := by
  unfold ckBoth at h
  split at h
  · assumption
  · exact h
theorem ckBoth_ok {V F : Int} {c : List Ins} {r : St} (h : ckBoth V F c r = 0) : RunOk V F c r := by
  have h0 := ckBoth_prog h
  unfold ckBoth at h
  rw [if_pos h0] at h
  exact ckRun_ok h
theorem stpOf_len (V F : Int) (c : List Ins) (ins : List Int) (r : St) (hln : (r.lines.length + 1) * 16 ≤ 140737488355328) : LenSt (stpOf V F c ins r) := by
  unfold stpOf
  split
  · rename_i h
    exact stepSt_lens ins (progOk_of (ckBoth_prog h)) (ckBoth_ok h) hln
  · exact zeroSt_len
/-- The document's beginning, as rows of its own. -/
theorem beginOfU (v : Nat) (F : Int) (s : Option Addr) (c : List Ins) (cap : Nat) (w : World) (h0 : ckProg (v : Int) F c = 0) :
    Calls Tryd.prog 22 #[.agg #[.int .i64 (v : Int), .int .i64 F, .slice s c.length cap]] w fun e w' => ∃ vs vc ts tc ls lc fv, e = .returned (.agg #[.int .i64 (begOf v F c).at_, .slice vs (begOf v F c).vars.length vc, .slice ts (begOf v F c).things.length tc, .int .i64 (begOf v F c).taken, .slice ls (begOf v F c).lines.length lc, .int .i64 (begOf v F c).fin]) ∧ OwnRows w' w.heap.size (begOf v F c) (.slice vs (begOf v F c).vars.length vc) (.slice ts (begOf v F c).things.length tc) (.slice ls (begOf v F c).lines.length lc) fv ∧ Below w.heap.size w w' := by
  have hp := progOk_of h0
  have hv8 := hp.v8
  refine (beginOf_any F s c.length cap w v (by omega)).mono ?_
  rintro e w' ⟨g, rfl, hown, hb⟩
  rw [made_zero v (by omega)] at hown
  have O := begin_rows (by omega) hown
  have e1 : begOf v F c = beginSt v := if_pos h0
  rw [e1]
  have hvl : (beginSt (v : Int)).vars.length = v := by simp [beginSt]
  refine ⟨some ⟨g, 0, none⟩, v, none, 0, none, 0, [], ?_, ?_, hb⟩
  · rw [hvl]
    rfl
  · rw [hvl]
    exact O
theorem stepOfU (v f : Nat) (s : Option Addr) (c : List Ins) (cap : Nat) (r : St) (vs : Option Addr) (vc : Nat) (ts : Option Addr) (tc : Nat) (ls : Option Addr) (lc : Nat) (is : Option Addr) (ic : Nat) (ins : List Int) (w : World) (hc : CodeAt w s c) (hr : RunAt w r vs ts ls) (hI : IntsAt w is ins) (hln : (r.lines.length + 1) * 16 ≤ 140737488355328) (h0 : ckBoth (v : Int) (f : Int) c r = 0) :
    Calls Tryd.prog 23 #[.agg #[.int .i64 (v : Int), .int .i64 (f : Int), .slice s c.length cap], runV r vs vc ts tc ls lc, .slice is ins.length ic] w fun e w' => ∃ vs vc ts tc ls lc fv, e = .returned (.agg #[.int .i64 (stpOf v f c ins r).at_, .slice vs (stpOf v f c ins r).vars.length vc, .slice ts (stpOf v f c ins r).things.length tc, .int .i64 (stpOf v f c ins r).taken, .slice ls (stpOf v f c ins r).lines.length lc, .int .i64 (stpOf v f c ins r).fin]) ∧ OwnRows w' w.heap.size (stpOf v f c ins r) (.slice vs (stpOf v f c ins r).vars.length vc) (.slice ts (stpOf v f c ins r).things.length tc) (.slice ls (stpOf v f c ins r).lines.length lc) fv ∧ Below w.heap.size w w' := by
  refine (stepOf_any v f s c cap r vs vc ts tc ls lc is ic ins w hc hr (progOk_of (ckBoth_prog h0)) (ckBoth_ok h0) hI hln).mono ?_
  rintro e w' ⟨vv, tv, lv, fv, rfl, OR, hb⟩
  obtain ⟨vs2, vc2, ts2, tc2, ls2, lc2, rfl, rfl, rfl, -⟩ := OR.at
  have e1 : stpOf v f c ins r = stepSt f c ins r := if_pos h0
  rw [e1]
  exact ⟨_, _, _, _, _, _, fv, rfl, OR, hb⟩
theorem R6.apart {w : World} {b b' : Nat} {x0 x1 x2 x3 x4 x5 : Value} (h : R6 w b x0 x1 x2 x3 x4 x5) (hne : b ≠ b') (y0 y1 y2 y3 y4 y5 : Value) : R6 (set6 w b' y0 y1 y2 y3 y4 y5) b x0 x1 x2 x3 x4 x5 := h.same (set6_far _ _ _ _ _ _ _ _ _ hne) (by rw [set6_size]; exact Nat.le_refl _)
end Go.Proofs.YtmapdpcfanecdaaDoor

namespace Go.Proofs.YtmapdpcfanecdaaDoor
set_option linter.unusedVariables false
set_option linter.unusedSimpArgs false
open Go.RowKit
attribute [local go_sem ↓] Go.wp_at_zero Go.wp_at_succ

set_option maxHeartbeats 8000000 in
set_option maxRecDepth 20000 in
theorem runSteps_bad (V F : Int) (s : Option Addr) (c : List Ins) (cap : Nat) (r : St) (vs : Option Addr) (vc : Nat) (ts : Option Addr) (tc : Nat) (ls : Option Addr) (lc : Nat) (is : Option Addr) (ic : Nat) (ins : List Int) (w : World) (hc : CodeAt w s c) (hl : LenSt r) (hr : RunAt w r vs ts ls) (hI : IntsAt w is ins) (hT : Tab w) (hln : (r.lines.length + 1) * 16 ≤ 140737488355328) (h0 : ckProg V F c ≠ 0) (hbg : ∀ wx, Tab wx → Calls Tryd.prog 24 #[] wx fun e w' => e = .returned (.bool true) ∧ Below wx.heap.size wx w') :
    Calls Tryd.prog 6 #[.agg #[.int .i64 V, .int .i64 F, .slice s c.length cap], runV r vs vc ts tc ls lc, .slice is ins.length ic] w fun e w' => e = .returned (.bool true) ∧ Below w.heap.size w w' := by
  have hb0 : Below w.heap.size w ((w.alloc (.cells #[.int .i64 V, .int .i64 F, .slice s c.length cap] 24)).alloc (.cells #[.int .i64 r.at_, .slice vs r.vars.length vc, .slice ts r.things.length tc, .int .i64 r.taken, .slice ls r.lines.length lc, .int .i64 r.fin] 46)) := by go_grown
  have P0 := (P3.new w V F s c.length cap).call (w' := ((w.alloc (.cells #[.int .i64 V, .int .i64 F, .slice s c.length cap] 24)).alloc (.cells #[.int .i64 r.at_, .slice vs r.vars.length vc, .slice ts r.things.length tc, .int .i64 r.taken, .slice ls r.lines.length lc, .int .i64 r.fin] 46))) (by go_grown)
  have Q0 := R6.new (w.alloc (.cells #[.int .i64 V, .int .i64 F, .slice s c.length cap] 24)) 46 (.int .i64 r.at_) (.slice vs r.vars.length vc) (.slice ts r.things.length tc) (.int .i64 r.taken) (.slice ls r.lines.length lc) (.int .i64 r.fin)
  rw [World.size_alloc] at Q0
  have hc0 := hc.below hb0 (Nat.le_refl _)
  have hr0 := hr.below hb0 (Nat.le_refl _)
  have hI0 := hI.below hb0 (Nat.le_refl _)
  have hT0 := hT.below hb0
  have HBE := hideK (fun wx hx => beginU V F s c cap wx hx)
  have HST := hideK (fun wx h1 h2 h3 h4 => stepU V F s c cap r vs vc ts tc ls lc is ic ins wx h1 hl h2 h3 h4 hln)
  have h1 : ckBoth V F c r = ckProg V F c := by unfold ckBoth; rw [if_neg h0]
  have HCP := hideK (fun wx hx => checkProgram_any V F s cap c wx hx)
  have HCB := hideK (fun wx hx hy => checkBoth_any V F s c cap r vs vc ts tc ls lc wx hx hl hy)
  have HCK := hideK (fun wx hx hy => runCheck_any V F s c cap r vs vc ts tc ls lc wx hx hl hy)
  have hsb : Hid (begOf V F c = zeroSt) := if_neg h0
  have hsp : Hid (stpOf V F c ins r = zeroSt) := if_neg (by rw [h1]; exact h0)
  have HL1 := hideK (begOf_len V F c)
  have HL2 := hideK (stpOf_len V F c ins r hln)
  rw [h1] at HCB HCK HST
  have h0' := hideK h0
  have e0 : (ckProg V F c == 0) = false := by simpa using h0
  clear h1 h0
  generalize ckProg V F c = E0 at *
  have HBG := hideK hbg
  unfold runV at HST HCB HCK
  clear hbg hc hr hI
  unfold runV
  generalize begOf V F c = sb at *
  generalize stpOf V F c ins r = sp at *
  unfold RunE at HBE HST
  go_enter Tryd.func6, Tryd.ntmps6
  go_wp2_with (go_at_call 19; fail)
  generalize ((w.alloc (.cells #[.int .i64 V, .int .i64 F, .slice s c.length cap] 24)).alloc (.cells #[.int .i64 r.at_, .slice vs r.vars.length vc, .slice ts r.things.length tc, .int .i64 r.taken, .slice ls r.lines.length lc, .int .i64 r.fin] 46)) = w0 at *
  refine (HBE.out _ hc0).mono ?_
  rintro e w1 ⟨⟨vs1, vc1, ts1, tc1, ls1, lc1, rfl, A1⟩, hb1⟩
  have hb2 : Below w0.heap.size w0 (w1.alloc (.cells #[.int .i64 sb.at_, .slice vs1 sb.vars.length vc1, .slice ts1 sb.things.length tc1, .int .i64 sb.taken, .slice ls1 sb.lines.length lc1, .int .i64 sb.fin] 46)) := hb1.alloc hb1.size _
  have A2 := A1.below (w' := w1.alloc (.cells #[.int .i64 sb.at_, .slice vs1 sb.vars.length vc1, .slice ts1 sb.things.length tc1, .int .i64 sb.taken, .slice ls1 sb.lines.length lc1, .int .i64 sb.fin] 46)) (by go_grown) (Nat.le_refl _)
  have X2 := R6.new w1 46 (.int .i64 sb.at_) (.slice vs1 sb.vars.length vc1) (.slice ts1 sb.things.length tc1) (.int .i64 sb.taken) (.slice ls1 sb.lines.length lc1) (.int .i64 sb.fin)
  have P2 := P0.call hb2
  have Q2 := Q0.call hb2
  clear A1 hb1
  go_upto_region 2 with fail
  generalize (w1.alloc (.cells #[.int .i64 sb.at_, .slice vs1 sb.vars.length vc1, .slice ts1 sb.things.length tc1, .int .i64 sb.taken, .slice ls1 sb.lines.length lc1, .int .i64 sb.fin] 46)) = w2 at *
  obtain ⟨⟨p0, p1, p2⟩, pz⟩ := id P2
  obtain ⟨⟨q0, q1, q2, q3, q4, q5⟩, qz, -⟩ := id Q2
  go_wp2_with (go_at_call 20; fail)
  refine (HST.out _ (hc0.below hb2 (Nat.le_refl _)) (hr0.below hb2 (Nat.le_refl _)) (hI0.below hb2 (Nat.le_refl _)) (hT0.below hb2)).mono ?_
  rintro e w3 ⟨⟨vs2, vc2, ts2, tc2, ls2, lc2, rfl, B3⟩, hb3⟩
  clear p0 p1 p2 pz q0 q1 q2 q3 q4 q5 qz
  have hbn : Below w2.heap.size w2 (w3.alloc (.cells #[.int .i64 sp.at_, .slice vs2 sp.vars.length vc2, .slice ts2 sp.things.length tc2, .int .i64 sp.taken, .slice ls2 sp.lines.length lc2, .int .i64 sp.fin] 46)) := hb3.alloc hb3.size _
  have hb4 := hb2.trans (hbn.mono hb2.size)
  have B4 := B3.below (w' := w3.alloc (.cells #[.int .i64 sp.at_, .slice vs2 sp.vars.length vc2, .slice ts2 sp.things.length tc2, .int .i64 sp.taken, .slice ls2 sp.lines.length lc2, .int .i64 sp.fin] 46)) (by go_grown) (Nat.le_refl _)
  have A4 := A2.below hbn (Nat.le_refl _)
  have X4 := X2.call hbn
  have Y4 := R6.new w3 46 (.int .i64 sp.at_) (.slice vs2 sp.vars.length vc2) (.slice ts2 sp.things.length tc2) (.int .i64 sp.taken) (.slice ls2 sp.lines.length lc2) (.int .i64 sp.fin)
  have P4 := P2.call hbn
  have Q4 := Q2.call hbn
  have hc4 := hc0.below hb4 (Nat.le_refl _)
  have hr4 := hr0.below hb4 (Nat.le_refl _)
  have hI4 := hI0.below hb4 (Nat.le_refl _)
  have H4 := hb0.trans (hb4.mono hb0.size)
  clear B3 A2 X2 P2 Q2 hb3 hb2 hbn P0 Q0 hb4 hc0 hr0 hI0 hT0 hb0
  go_upto_region 3 with fail
  generalize (w3.alloc (.cells #[.int .i64 sp.at_, .slice vs2 sp.vars.length vc2, .slice ts2 sp.things.length tc2, .int .i64 sp.taken, .slice ls2 sp.lines.length lc2, .int .i64 sp.fin] 46)) = w4 at *
  obtain ⟨⟨p0, p1, p2⟩, pz⟩ := id P4
  obtain ⟨⟨q0, q1, q2, q3, q4, q5⟩, qz, -⟩ := id Q4
  have KZ : ∀ wx, Below w4.heap.size w4 wx → wx.cell? ⟨w.heap.size, 0, none⟩ = some (.int .i64 V) ∧ wx.cell? ⟨w.heap.size, 1, none⟩ = some (.int .i64 F) ∧ wx.cell? ⟨w.heap.size, 2, none⟩ = some (.slice s c.length cap) ∧ wx.cell? ⟨w.heap.size + 1, 0, none⟩ = some (.int .i64 r.at_) ∧ wx.cell? ⟨w.heap.size + 1, 1, none⟩ = some (.slice vs r.vars.length vc) ∧ wx.cell? ⟨w.heap.size + 1, 2, none⟩ = some (.slice ts r.things.length tc) ∧ wx.cell? ⟨w.heap.size + 1, 3, none⟩ = some (.int .i64 r.taken) ∧ wx.cell? ⟨w.heap.size + 1, 4, none⟩ = some (.slice ls r.lines.length lc) ∧ wx.cell? ⟨w.heap.size + 1, 5, none⟩ = some (.int .i64 r.fin) := fun wx hx => ⟨by rw [hx.cell (by simp only; exact pz)]; exact p0, by rw [hx.cell (by simp only; exact pz)]; exact p1, by rw [hx.cell (by simp only; exact pz)]; exact p2, by rw [hx.cell (by simp only; exact qz)]; exact q0, by rw [hx.cell (by simp only; exact qz)]; exact q1, by rw [hx.cell (by simp only; exact qz)]; exact q2, by rw [hx.cell (by simp only; exact qz)]; exact q3, by rw [hx.cell (by simp only; exact qz)]; exact q4, by rw [hx.cell (by simp only; exact qz)]; exact q5⟩
  have HKZ := hideK KZ
  clear KZ p0 p1 p2 pz q0 q1 q2 q3 q4 q5 qz
  refine wp_region_z (S := (fun wx => wx.cell? ⟨w.heap.size, 0, none⟩ = some (.int .i64 V) ∧ wx.cell? ⟨w.heap.size, 1, none⟩ = some (.int .i64 F) ∧ wx.cell? ⟨w.heap.size, 2, none⟩ = some (.slice s c.length cap) ∧ wx.cell? ⟨w.heap.size + 1, 0, none⟩ = some (.int .i64 r.at_) ∧ wx.cell? ⟨w.heap.size + 1, 1, none⟩ = some (.slice vs r.vars.length vc) ∧ wx.cell? ⟨w.heap.size + 1, 2, none⟩ = some (.slice ts r.things.length tc) ∧ wx.cell? ⟨w.heap.size + 1, 3, none⟩ = some (.int .i64 r.taken) ∧ wx.cell? ⟨w.heap.size + 1, 4, none⟩ = some (.slice ls r.lines.length lc) ∧ wx.cell? ⟨w.heap.size + 1, 5, none⟩ = some (.int .i64 r.fin))) [] (by kernel_rfl) (HKZ.out _ (Below.refl _ _).drew) (fun hHeld => ?_)
  refine wpAnyZ_take (i := 0) (v := ?_) rfl (by kernel_rfl) (by kernel_rfl) (by kernel_rfl) (fun _ _ _ h => h) (Or.inl ⟨?_, ?_⟩) (by assumption) ?_
  rotate_left
  · rfl
  · (intro w hSw; (try dsimp only at hSw); first | (go_simp; done) | (go_simp; with_reducible rfl))
  (try simp only [Act.put, List.getElem_toArray, List.getElem_cons_zero, List.getElem_cons_succ, List.setIfInBounds_toArray, List.set_cons_zero, List.set_cons_succ])
  refine wpAnyZ_take (i := 2) (v := ?_) rfl (by kernel_rfl) (by kernel_rfl) (by kernel_rfl) (fun _ _ _ h => h) (Or.inl ⟨?_, ?_⟩) (by assumption) ?_
  rotate_left
  · rfl
  · (intro w hSw; (try dsimp only at hSw); first | (go_simp; done) | (go_simp; with_reducible rfl))
  (try simp only [Act.put, List.getElem_toArray, List.getElem_cons_zero, List.getElem_cons_succ, List.setIfInBounds_toArray, List.set_cons_zero, List.set_cons_succ])
  refine wpAnyZ_take (i := 3) (v := ?_) rfl (by kernel_rfl) (by kernel_rfl) (by kernel_rfl) (fun _ _ _ h => h) (Or.inl ⟨?_, ?_⟩) (by assumption) ?_
  rotate_left
  · rfl
  · (intro w hSw; (try dsimp only at hSw); first | (go_simp; done) | (go_simp; with_reducible rfl))
  (try simp only [Act.put, List.getElem_toArray, List.getElem_cons_zero, List.getElem_cons_succ, List.setIfInBounds_toArray, List.set_cons_zero, List.set_cons_succ])
  refine wpAnyZ_one (i := 1) rfl (by kernel_rfl) (fun K hK => ?_)
  go_simp
  go_at_call 10
  refine (HCP.out _ (hc4.below (Below.refl _ _).drew (Nat.le_refl _))).mono ?_
  rintro e w5 ⟨rfl, hb5⟩
  have HB5 : Below w4.heap.size w4 w5 := Below.trans (Below.refl _ _).drew (Below.mono hb5 (by simp))
  go_wp2_with fail
  refine hK.out _ _ (HKZ.out _ HB5) (fun hHeld => ?_)
  clear hK K
  (try simp only [Act.put, List.getElem_toArray, List.getElem_cons_zero, List.getElem_cons_succ, List.setIfInBounds_toArray, List.set_cons_zero, List.set_cons_succ])
  refine wpAnyZ_one (i := 4) rfl (by kernel_rfl) (fun K hK => ?_)
  go_simp
  go_at_call 21
  refine (HCB.out _ (hc4.below HB5 (Nat.le_refl _)) (hr4.below HB5 (Nat.le_refl _))).mono ?_
  rintro e w6 ⟨rfl, hb6⟩
  have HB6 : Below w4.heap.size w4 w6 := HB5.trans (hb6.mono HB5.size)
  go_wp2_with fail
  refine hK.out _ _ (HKZ.out _ HB6) (fun hHeld => ?_)
  clear hK K
  (try simp only [Act.put, List.getElem_toArray, List.getElem_cons_zero, List.getElem_cons_succ, List.setIfInBounds_toArray, List.set_cons_zero, List.set_cons_succ])
  refine wpAnyZ_take (i := 5) (v := ?_) rfl (by kernel_rfl) (by kernel_rfl) (by kernel_rfl) (fun _ _ _ h => h) (Or.inl ⟨?_, ?_⟩) (by assumption) ?_
  rotate_left
  · rfl
  · (intro w hSw; (try dsimp only at hSw); first | (go_simp; done) | (go_simp; with_reducible rfl))
  (try simp only [Act.put, List.getElem_toArray, List.getElem_cons_zero, List.getElem_cons_succ, List.setIfInBounds_toArray, List.set_cons_zero, List.set_cons_succ])
  refine wpAnyZ_take (i := 6) (v := ?_) rfl (by kernel_rfl) (by kernel_rfl) (by kernel_rfl) (fun _ _ _ h => h) (Or.inl ⟨?_, ?_⟩) (by assumption) ?_
  rotate_left
  · rfl
  · (intro w hSw; (try dsimp only at hSw); first | (go_simp; done) | (go_simp; with_reducible rfl))
  (try simp only [Act.put, List.getElem_toArray, List.getElem_cons_zero, List.getElem_cons_succ, List.setIfInBounds_toArray, List.set_cons_zero, List.set_cons_succ])
  refine wpAnyZ_done (by kernel_rfl) ?_ _
  have hb7 : Below w4.heap.size w4 ((w6.alloc (.cells #[.int .i64 0, .slice none 0 0, .slice none 0 0, .int .i64 0, .slice none 0 0, .int .i64 0] 46)).alloc (.cells #[.int .i64 0, .slice none 0 0, .slice none 0 0, .int .i64 0, .slice none 0 0, .int .i64 0] 46)) := HB6.trans (Below.mono (show Below w6.heap.size w6 ((w6.alloc (.cells #[.int .i64 0, .slice none 0 0, .slice none 0 0, .int .i64 0, .slice none 0 0, .int .i64 0] 46)).alloc (.cells #[.int .i64 0, .slice none 0 0, .slice none 0 0, .int .i64 0, .slice none 0 0, .int .i64 0] 46)) by go_grown) HB6.size)
  have M7 : R6 ((w6.alloc (.cells #[.int .i64 0, .slice none 0 0, .slice none 0 0, .int .i64 0, .slice none 0 0, .int .i64 0] 46)).alloc (.cells #[.int .i64 0, .slice none 0 0, .slice none 0 0, .int .i64 0, .slice none 0 0, .int .i64 0] 46)) w6.heap.size (.int .i64 0) (.slice none 0 0) (.slice none 0 0) (.int .i64 0) (.slice none 0 0) (.int .i64 0) := (R6.new w6 46 (.int .i64 0) (.slice none 0 0) (.slice none 0 0) (.int .i64 0) (.slice none 0 0) (.int .i64 0)).call (by go_grown)
  have N7 : R6 ((w6.alloc (.cells #[.int .i64 0, .slice none 0 0, .slice none 0 0, .int .i64 0, .slice none 0 0, .int .i64 0] 46)).alloc (.cells #[.int .i64 0, .slice none 0 0, .slice none 0 0, .int .i64 0, .slice none 0 0, .int .i64 0] 46)) (w6.heap.size + 1) (.int .i64 0) (.slice none 0 0) (.slice none 0 0) (.int .i64 0) (.slice none 0 0) (.int .i64 0) := by
    have := R6.new (w6.alloc (.cells #[.int .i64 0, .slice none 0 0, .slice none 0 0, .int .i64 0, .slice none 0 0, .int .i64 0] 46)) 46 (.int .i64 0) (.slice none 0 0) (.slice none 0 0) (.int .i64 0) (.slice none 0 0) (.int .i64 0)
    rw [World.size_alloc] at this
    exact this
  have z46 : w4.heap.size ≤ w6.heap.size := HB6.size
  clear hb5 hb6 HB5 HB6 HKZ
  go_upto_region 9 with fail
  generalize ((w6.alloc (.cells #[.int .i64 0, .slice none 0 0, .slice none 0 0, .int .i64 0, .slice none 0 0, .int .i64 0] 46)).alloc (.cells #[.int .i64 0, .slice none 0 0, .slice none 0 0, .int .i64 0, .slice none 0 0, .int .i64 0] 46)) = w7 at *
  generalize w6.heap.size = b3 at *
  have P7 := P4.call hb7
  have HW := H4.trans (hb7.mono H4.size)
  go_wp2_with (go_at_call 24; fail)
  refine (HBG.out _ (hT.below HW)).mono ?_
  rintro e wg ⟨rfl, hbg⟩
  have h4g := hb7.trans (hbg.mono hb7.size)
  obtain ⟨⟨p0, p1, p2⟩, pz⟩ := id (P4.call h4g)
  obtain ⟨⟨q0, q1, q2, q3, q4, q5⟩, qz, -⟩ := id (Q4.call h4g)
  go_wp2_with (go_at_call 25; fail)
  refine (HCK.out _ (hc4.below h4g (Nat.le_refl _)) (hr4.below h4g (Nat.le_refl _))).mono ?_
  rintro e wh ⟨rfl, hbh⟩
  clear p0 p1 p2 pz q0 q1 q2 q3 q4 q5 qz
  have h4h := h4g.trans (hbh.mono h4g.size)
  have hgh := hbg.trans (hbh.mono hbg.size)
  obtain ⟨⟨x0, x1, x2, x3, x4, x5⟩, xz, -⟩ := id (X4.call h4h)
  obtain ⟨⟨m0, m1, m2, m3, m4, m5⟩, mz, -⟩ := id (M7.call hgh)
  have HI := hideK (runIsU E0 sb zeroSt vs1 vc1 ts1 tc1 ls1 lc1 none 0 none 0 none 0 wh (fun h => absurd h h0'.out) (fun _ => hsb.out) HL1.out (A4.below h4h (Nat.le_refl _)) (zeroSt_at _))
  unfold runV at HI; simp only [zeroSt, List.length_nil] at HI
  go_wp2_with (go_at_call 26; fail)
  refine HI.out.mono ?_
  rintro e wi ⟨rfl, hbi⟩
  clear HI x0 x1 x2 x3 x4 x5 xz m0 m1 m2 m3 m4 m5 mz
  have h4i := h4h.trans (hbi.mono h4h.size)
  have hgi := hgh.trans (hbi.mono hgh.size)
  obtain ⟨⟨x0, x1, x2, x3, x4, x5⟩, xz, -⟩ := id (Y4.call h4i)
  obtain ⟨⟨m0, m1, m2, m3, m4, m5⟩, mz, -⟩ := id (N7.call hgi)
  have HI := hideK (runIsU E0 sp zeroSt vs2 vc2 ts2 tc2 ls2 lc2 none 0 none 0 none 0 wi (fun h => absurd h h0'.out) (fun _ => hsp.out) HL2.out (B4.below h4i (Nat.le_refl _)) (zeroSt_at _))
  unfold runV at HI; simp only [zeroSt, List.length_nil] at HI
  go_wp2_with (go_at_call 26; fail)
  refine HI.out.mono ?_
  rintro e wj ⟨rfl, hbj⟩
  go_wp2
  go_ret
  exact ⟨rfl, H4.trans ((h4i.trans (hbj.mono h4i.size)).mono H4.size)⟩
end Go.Proofs.YtmapdpcfanecdaaDoor

namespace Go.Proofs.YtmapdpcfanecdaaDoor
set_option linter.unusedVariables false
set_option linter.unusedSimpArgs false
open Go.RowKit
attribute [local go_sem ↓] Go.wp_at_zero Go.wp_at_succ

set_option maxHeartbeats 8000000 in
set_option maxRecDepth 20000 in
theorem runSteps_half (v f : Nat) (s : Option Addr) (c : List Ins) (cap : Nat) (r : St) (vs : Option Addr) (vc : Nat) (ts : Option Addr) (tc : Nat) (ls : Option Addr) (lc : Nat) (is : Option Addr) (ic : Nat) (ins : List Int) (w : World) (hc : CodeAt w s c) (hl : LenSt r) (hr : RunAt w r vs ts ls) (hI : IntsAt w is ins) (hT : Tab w) (hln : (r.lines.length + 1) * 16 ≤ 140737488355328) (h0 : ckProg (v : Int) (f : Int) c = 0) (h1 : ckBoth (v : Int) (f : Int) c r ≠ 0) (hbg : ∀ wx, Tab wx → Calls Tryd.prog 24 #[] wx fun e w' => e = .returned (.bool true) ∧ Below wx.heap.size wx w') :
    Calls Tryd.prog 6 #[.agg #[.int .i64 (v : Int), .int .i64 (f : Int), .slice s c.length cap], runV r vs vc ts tc ls lc, .slice is ins.length ic] w fun e w' => e = .returned (.bool true) ∧ Below w.heap.size w w' := by
  have hb0 : Below w.heap.size w ((w.alloc (.cells #[.int .i64 (v : Int), .int .i64 (f : Int), .slice s c.length cap] 24)).alloc (.cells #[.int .i64 r.at_, .slice vs r.vars.length vc, .slice ts r.things.length tc, .int .i64 r.taken, .slice ls r.lines.length lc, .int .i64 r.fin] 46)) := by go_grown
  have P0 := (P3.new w (v : Int) (f : Int) s c.length cap).call (w' := ((w.alloc (.cells #[.int .i64 (v : Int), .int .i64 (f : Int), .slice s c.length cap] 24)).alloc (.cells #[.int .i64 r.at_, .slice vs r.vars.length vc, .slice ts r.things.length tc, .int .i64 r.taken, .slice ls r.lines.length lc, .int .i64 r.fin] 46))) (by go_grown)
  have Q0 := R6.new (w.alloc (.cells #[.int .i64 (v : Int), .int .i64 (f : Int), .slice s c.length cap] 24)) 46 (.int .i64 r.at_) (.slice vs r.vars.length vc) (.slice ts r.things.length tc) (.int .i64 r.taken) (.slice ls r.lines.length lc) (.int .i64 r.fin)
  rw [World.size_alloc] at Q0
  have hc0 := hc.below hb0 (Nat.le_refl _)
  have hr0 := hr.below hb0 (Nat.le_refl _)
  have hI0 := hI.below hb0 (Nat.le_refl _)
  have hT0 := hT.below hb0
  have HBE := hideK (fun wx hx => beginU (v : Int) (f : Int) s c cap wx hx)
  have HST := hideK (fun wx h1 h2 h3 h4 => stepU (v : Int) (f : Int) s c cap r vs vc ts tc ls lc is ic ins wx h1 hl h2 h3 h4 hln)
  have HCP := hideK (fun wx hx => checkProgram_any (v : Int) (f : Int) s cap c wx hx)
  have HCB := hideK (fun wx hx hy => checkBoth_any (v : Int) (f : Int) s c cap r vs vc ts tc ls lc wx hx hl hy)
  have HCK := hideK (fun wx hx hy => runCheck_any (v : Int) (f : Int) s c cap r vs vc ts tc ls lc wx hx hl hy)
  have HBO := hideK (fun wx => beginOfU v (f : Int) s c cap wx h0)
  have hsp : Hid (stpOf (v : Int) (f : Int) c ins r = zeroSt) := if_neg h1
  have HL1 := hideK (begOf_len (v : Int) (f : Int) c)
  have HL2 := hideK (stpOf_len (v : Int) (f : Int) c ins r hln)
  rw [h0] at HCP HBE
  have h1' := hideK h1
  have e1 : (ckBoth (v : Int) (f : Int) c r == 0) = false := by simpa using h1
  clear h1 h0
  generalize ckBoth (v : Int) (f : Int) c r = E1 at *
  have HBG := hideK hbg
  unfold runV at HST HCB HCK
  clear hbg hc hr hI
  unfold runV
  generalize begOf (v : Int) (f : Int) c = sb at *
  generalize stpOf (v : Int) (f : Int) c ins r = sp at *
  unfold RunE at HBE HST
  go_enter Tryd.func6, Tryd.ntmps6
  go_wp2_with (go_at_call 19; fail)
  generalize ((w.alloc (.cells #[.int .i64 (v : Int), .int .i64 (f : Int), .slice s c.length cap] 24)).alloc (.cells #[.int .i64 r.at_, .slice vs r.vars.length vc, .slice ts r.things.length tc, .int .i64 r.taken, .slice ls r.lines.length lc, .int .i64 r.fin] 46)) = w0 at *
  refine (HBE.out _ hc0).mono ?_
  rintro e w1 ⟨⟨vs1, vc1, ts1, tc1, ls1, lc1, rfl, A1⟩, hb1⟩
  have hb2 : Below w0.heap.size w0 (w1.alloc (.cells #[.int .i64 sb.at_, .slice vs1 sb.vars.length vc1, .slice ts1 sb.things.length tc1, .int .i64 sb.taken, .slice ls1 sb.lines.length lc1, .int .i64 sb.fin] 46)) := hb1.alloc hb1.size _
  have A2 := A1.below (w' := w1.alloc (.cells #[.int .i64 sb.at_, .slice vs1 sb.vars.length vc1, .slice ts1 sb.things.length tc1, .int .i64 sb.taken, .slice ls1 sb.lines.length lc1, .int .i64 sb.fin] 46)) (by go_grown) (Nat.le_refl _)
  have X2 := R6.new w1 46 (.int .i64 sb.at_) (.slice vs1 sb.vars.length vc1) (.slice ts1 sb.things.length tc1) (.int .i64 sb.taken) (.slice ls1 sb.lines.length lc1) (.int .i64 sb.fin)
  have P2 := P0.call hb2
  have Q2 := Q0.call hb2
  clear A1 hb1
  go_upto_region 2 with fail
  generalize (w1.alloc (.cells #[.int .i64 sb.at_, .slice vs1 sb.vars.length vc1, .slice ts1 sb.things.length tc1, .int .i64 sb.taken, .slice ls1 sb.lines.length lc1, .int .i64 sb.fin] 46)) = w2 at *
  obtain ⟨⟨p0, p1, p2⟩, pz⟩ := id P2
  obtain ⟨⟨q0, q1, q2, q3, q4, q5⟩, qz, -⟩ := id Q2
  go_wp2_with (go_at_call 20; fail)
  refine (HST.out _ (hc0.below hb2 (Nat.le_refl _)) (hr0.below hb2 (Nat.le_refl _)) (hI0.below hb2 (Nat.le_refl _)) (hT0.below hb2)).mono ?_
  rintro e w3 ⟨⟨vs2, vc2, ts2, tc2, ls2, lc2, rfl, B3⟩, hb3⟩
  clear p0 p1 p2 pz q0 q1 q2 q3 q4 q5 qz
  have hbn : Below w2.heap.size w2 (w3.alloc (.cells #[.int .i64 sp.at_, .slice vs2 sp.vars.length vc2, .slice ts2 sp.things.length tc2, .int .i64 sp.taken, .slice ls2 sp.lines.length lc2, .int .i64 sp.fin] 46)) := hb3.alloc hb3.size _
  have hb4 := hb2.trans (hbn.mono hb2.size)
  have B4 := B3.below (w' := w3.alloc (.cells #[.int .i64 sp.at_, .slice vs2 sp.vars.length vc2, .slice ts2 sp.things.length tc2, .int .i64 sp.taken, .slice ls2 sp.lines.length lc2, .int .i64 sp.fin] 46)) (by go_grown) (Nat.le_refl _)
  have A4 := A2.below hbn (Nat.le_refl _)
  have X4 := X2.call hbn
  have Y4 := R6.new w3 46 (.int .i64 sp.at_) (.slice vs2 sp.vars.length vc2) (.slice ts2 sp.things.length tc2) (.int .i64 sp.taken) (.slice ls2 sp.lines.length lc2) (.int .i64 sp.fin)
  have P4 := P2.call hbn
  have Q4 := Q2.call hbn
  have hc4 := hc0.below hb4 (Nat.le_refl _)
  have hr4 := hr0.below hb4 (Nat.le_refl _)
  have hI4 := hI0.below hb4 (Nat.le_refl _)
  have H4 := hb0.trans (hb4.mono hb0.size)
  clear B3 A2 X2 P2 Q2 hb3 hb2 hbn P0 Q0 hb4 hc0 hr0 hI0 hT0 hb0
  go_upto_region 3 with fail
  generalize (w3.alloc (.cells #[.int .i64 sp.at_, .slice vs2 sp.vars.length vc2, .slice ts2 sp.things.length tc2, .int .i64 sp.taken, .slice ls2 sp.lines.length lc2, .int .i64 sp.fin] 46)) = w4 at *
  obtain ⟨⟨p0, p1, p2⟩, pz⟩ := id P4
  obtain ⟨⟨q0, q1, q2, q3, q4, q5⟩, qz, -⟩ := id Q4
  have KZ : ∀ wx, Below w4.heap.size w4 wx → wx.cell? ⟨w.heap.size, 0, none⟩ = some (.int .i64 (v : Int)) ∧ wx.cell? ⟨w.heap.size, 1, none⟩ = some (.int .i64 (f : Int)) ∧ wx.cell? ⟨w.heap.size, 2, none⟩ = some (.slice s c.length cap) ∧ wx.cell? ⟨w.heap.size + 1, 0, none⟩ = some (.int .i64 r.at_) ∧ wx.cell? ⟨w.heap.size + 1, 1, none⟩ = some (.slice vs r.vars.length vc) ∧ wx.cell? ⟨w.heap.size + 1, 2, none⟩ = some (.slice ts r.things.length tc) ∧ wx.cell? ⟨w.heap.size + 1, 3, none⟩ = some (.int .i64 r.taken) ∧ wx.cell? ⟨w.heap.size + 1, 4, none⟩ = some (.slice ls r.lines.length lc) ∧ wx.cell? ⟨w.heap.size + 1, 5, none⟩ = some (.int .i64 r.fin) := fun wx hx => ⟨by rw [hx.cell (by simp only; exact pz)]; exact p0, by rw [hx.cell (by simp only; exact pz)]; exact p1, by rw [hx.cell (by simp only; exact pz)]; exact p2, by rw [hx.cell (by simp only; exact qz)]; exact q0, by rw [hx.cell (by simp only; exact qz)]; exact q1, by rw [hx.cell (by simp only; exact qz)]; exact q2, by rw [hx.cell (by simp only; exact qz)]; exact q3, by rw [hx.cell (by simp only; exact qz)]; exact q4, by rw [hx.cell (by simp only; exact qz)]; exact q5⟩
  have HKZ := hideK KZ
  clear KZ p0 p1 p2 pz q0 q1 q2 q3 q4 q5 qz
  refine wp_region_z (S := (fun wx => wx.cell? ⟨w.heap.size, 0, none⟩ = some (.int .i64 (v : Int)) ∧ wx.cell? ⟨w.heap.size, 1, none⟩ = some (.int .i64 (f : Int)) ∧ wx.cell? ⟨w.heap.size, 2, none⟩ = some (.slice s c.length cap) ∧ wx.cell? ⟨w.heap.size + 1, 0, none⟩ = some (.int .i64 r.at_) ∧ wx.cell? ⟨w.heap.size + 1, 1, none⟩ = some (.slice vs r.vars.length vc) ∧ wx.cell? ⟨w.heap.size + 1, 2, none⟩ = some (.slice ts r.things.length tc) ∧ wx.cell? ⟨w.heap.size + 1, 3, none⟩ = some (.int .i64 r.taken) ∧ wx.cell? ⟨w.heap.size + 1, 4, none⟩ = some (.slice ls r.lines.length lc) ∧ wx.cell? ⟨w.heap.size + 1, 5, none⟩ = some (.int .i64 r.fin))) [] (by kernel_rfl) (HKZ.out _ (Below.refl _ _).drew) (fun hHeld => ?_)
  refine wpAnyZ_take (i := 0) (v := ?_) rfl (by kernel_rfl) (by kernel_rfl) (by kernel_rfl) (fun _ _ _ h => h) (Or.inl ⟨?_, ?_⟩) (by assumption) ?_
  rotate_left
  · rfl
  · (intro w hSw; (try dsimp only at hSw); first | (go_simp; done) | (go_simp; with_reducible rfl))
  (try simp only [Act.put, List.getElem_toArray, List.getElem_cons_zero, List.getElem_cons_succ, List.setIfInBounds_toArray, List.set_cons_zero, List.set_cons_succ])
  refine wpAnyZ_take (i := 2) (v := ?_) rfl (by kernel_rfl) (by kernel_rfl) (by kernel_rfl) (fun _ _ _ h => h) (Or.inl ⟨?_, ?_⟩) (by assumption) ?_
  rotate_left
  · rfl
  · (intro w hSw; (try dsimp only at hSw); first | (go_simp; done) | (go_simp; with_reducible rfl))
  (try simp only [Act.put, List.getElem_toArray, List.getElem_cons_zero, List.getElem_cons_succ, List.setIfInBounds_toArray, List.set_cons_zero, List.set_cons_succ])
  refine wpAnyZ_take (i := 3) (v := ?_) rfl (by kernel_rfl) (by kernel_rfl) (by kernel_rfl) (fun _ _ _ h => h) (Or.inl ⟨?_, ?_⟩) (by assumption) ?_
  rotate_left
  · rfl
  · (intro w hSw; (try dsimp only at hSw); first | (go_simp; done) | (go_simp; with_reducible rfl))
  (try simp only [Act.put, List.getElem_toArray, List.getElem_cons_zero, List.getElem_cons_succ, List.setIfInBounds_toArray, List.set_cons_zero, List.set_cons_succ])
  refine wpAnyZ_one (i := 1) rfl (by kernel_rfl) (fun K hK => ?_)
  go_simp
  go_at_call 10
  refine (HCP.out _ (hc4.below (Below.refl _ _).drew (Nat.le_refl _))).mono ?_
  rintro e w5 ⟨rfl, hb5⟩
  have HB5 : Below w4.heap.size w4 w5 := Below.trans (Below.refl _ _).drew (Below.mono hb5 (by simp))
  go_wp2_with fail
  refine hK.out _ _ (HKZ.out _ HB5) (fun hHeld => ?_)
  clear hK K
  (try simp only [Act.put, List.getElem_toArray, List.getElem_cons_zero, List.getElem_cons_succ, List.setIfInBounds_toArray, List.set_cons_zero, List.set_cons_succ])
  refine wpAnyZ_one (i := 4) rfl (by kernel_rfl) (fun K hK => ?_)
  go_simp
  go_at_call 21
  refine (HCB.out _ (hc4.below HB5 (Nat.le_refl _)) (hr4.below HB5 (Nat.le_refl _))).mono ?_
  rintro e w6 ⟨rfl, hb6⟩
  have HB6 : Below w4.heap.size w4 w6 := HB5.trans (hb6.mono HB5.size)
  go_wp2_with fail
  refine hK.out _ _ (HKZ.out _ HB6) (fun hHeld => ?_)
  clear hK K
  (try simp only [Act.put, List.getElem_toArray, List.getElem_cons_zero, List.getElem_cons_succ, List.setIfInBounds_toArray, List.set_cons_zero, List.set_cons_succ])
  refine wpAnyZ_take (i := 5) (v := ?_) rfl (by kernel_rfl) (by kernel_rfl) (by kernel_rfl) (fun _ _ _ h => h) (Or.inl ⟨?_, ?_⟩) (by assumption) ?_
  rotate_left
  · rfl
  · (intro w hSw; (try dsimp only at hSw); first | (go_simp; done) | (go_simp; with_reducible rfl))
  (try simp only [Act.put, List.getElem_toArray, List.getElem_cons_zero, List.getElem_cons_succ, List.setIfInBounds_toArray, List.set_cons_zero, List.set_cons_succ])
  refine wpAnyZ_take (i := 6) (v := ?_) rfl (by kernel_rfl) (by kernel_rfl) (by kernel_rfl) (fun _ _ _ h => h) (Or.inl ⟨?_, ?_⟩) (by assumption) ?_
  rotate_left
  · rfl
  · (intro w hSw; (try dsimp only at hSw); first | (go_simp; done) | (go_simp; with_reducible rfl))
  (try simp only [Act.put, List.getElem_toArray, List.getElem_cons_zero, List.getElem_cons_succ, List.setIfInBounds_toArray, List.set_cons_zero, List.set_cons_succ])
  refine wpAnyZ_done (by kernel_rfl) ?_ _
  have hb7 : Below w4.heap.size w4 ((w6.alloc (.cells #[.int .i64 0, .slice none 0 0, .slice none 0 0, .int .i64 0, .slice none 0 0, .int .i64 0] 46)).alloc (.cells #[.int .i64 0, .slice none 0 0, .slice none 0 0, .int .i64 0, .slice none 0 0, .int .i64 0] 46)) := HB6.trans (Below.mono (show Below w6.heap.size w6 ((w6.alloc (.cells #[.int .i64 0, .slice none 0 0, .slice none 0 0, .int .i64 0, .slice none 0 0, .int .i64 0] 46)).alloc (.cells #[.int .i64 0, .slice none 0 0, .slice none 0 0, .int .i64 0, .slice none 0 0, .int .i64 0] 46)) by go_grown) HB6.size)
  have M7 : R6 ((w6.alloc (.cells #[.int .i64 0, .slice none 0 0, .slice none 0 0, .int .i64 0, .slice none 0 0, .int .i64 0] 46)).alloc (.cells #[.int .i64 0, .slice none 0 0, .slice none 0 0, .int .i64 0, .slice none 0 0, .int .i64 0] 46)) w6.heap.size (.int .i64 0) (.slice none 0 0) (.slice none 0 0) (.int .i64 0) (.slice none 0 0) (.int .i64 0) := (R6.new w6 46 (.int .i64 0) (.slice none 0 0) (.slice none 0 0) (.int .i64 0) (.slice none 0 0) (.int .i64 0)).call (by go_grown)
  have N7 : R6 ((w6.alloc (.cells #[.int .i64 0, .slice none 0 0, .slice none 0 0, .int .i64 0, .slice none 0 0, .int .i64 0] 46)).alloc (.cells #[.int .i64 0, .slice none 0 0, .slice none 0 0, .int .i64 0, .slice none 0 0, .int .i64 0] 46)) (w6.heap.size + 1) (.int .i64 0) (.slice none 0 0) (.slice none 0 0) (.int .i64 0) (.slice none 0 0) (.int .i64 0) := by
    have := R6.new (w6.alloc (.cells #[.int .i64 0, .slice none 0 0, .slice none 0 0, .int .i64 0, .slice none 0 0, .int .i64 0] 46)) 46 (.int .i64 0) (.slice none 0 0) (.slice none 0 0) (.int .i64 0) (.slice none 0 0) (.int .i64 0)
    rw [World.size_alloc] at this
    exact this
  have z46 : w4.heap.size ≤ w6.heap.size := HB6.size
  clear hb5 hb6 HB5 HB6 HKZ
  go_upto_region 6 with fail
  generalize ((w6.alloc (.cells #[.int .i64 0, .slice none 0 0, .slice none 0 0, .int .i64 0, .slice none 0 0, .int .i64 0] 46)).alloc (.cells #[.int .i64 0, .slice none 0 0, .slice none 0 0, .int .i64 0, .slice none 0 0, .int .i64 0] 46)) = w7 at *
  generalize w6.heap.size = b3 at *
  have P7 := P4.call hb7
  obtain ⟨⟨p0, p1, p2⟩, pz⟩ := id P7
  go_wp2_with (go_at_call 22; fail)
  refine (HBO.out _).mono ?_
  rintro e w8 ⟨vs3, vc3, ts3, tc3, ls3, lc3, fv3, rfl, O8, hb8⟩
  clear p0 p1 p2 pz
  have M8 := M7.call hb8
  have N9 : R6 (set6 w8 b3 (.int .i64 sb.at_) (.slice vs3 sb.vars.length vc3) (.slice ts3 sb.things.length tc3) (.int .i64 sb.taken) (.slice ls3 sb.lines.length lc3) (.int .i64 sb.fin)) (b3 + 1) (.int .i64 0) (.slice none 0 0) (.slice none 0 0) (.int .i64 0) (.slice none 0 0) (.int .i64 0) := (N7.call hb8).apart (by omega) _ _ _ _ _ _
  have M9 := M8.put (.int .i64 sb.at_) (.slice vs3 sb.vars.length vc3) (.slice ts3 sb.things.length tc3) (.int .i64 sb.taken) (.slice ls3 sb.lines.length lc3) (.int .i64 sb.fin)
  have O9 := O8.set6 M7.2.1 (.int .i64 sb.at_) (.slice vs3 sb.vars.length vc3) (.slice ts3 sb.things.length tc3) (.int .i64 sb.taken) (.slice ls3 sb.lines.length lc3) (.int .i64 sb.fin)
  have hb9 : Below w4.heap.size w4 (set6 w8 b3 (.int .i64 sb.at_) (.slice vs3 sb.vars.length vc3) (.slice ts3 sb.things.length tc3) (.int .i64 sb.taken) (.slice ls3 sb.lines.length lc3) (.int .i64 sb.fin)) := below_set6 (hb7.trans (hb8.mono hb7.size)) z46 _ _ _ _ _ _
  have z79 : b3 + 1 < w7.heap.size := N7.2.1
  obtain ⟨⟨y0, y1, y2, y3, y4, y5⟩, yz, yf⟩ := id M8
  have g0 := yf 0
  have g1 := yf 1
  have g2 := yf 2
  have g3 := yf 3
  have g4 := yf 4
  have g5 := yf 5
  clear yf M7 M8 N7 P7 hb7 hb8 O8
  unfold set6 at M9 N9 O9 hb9
  go_upto_region 9 with fail
  clear y0 y1 y2 y3 y4 y5 yz g0 g1 g2 g3 g4 g5
  generalize ((((((w8.setCell ⟨b3, 0, none⟩ (.int .i64 sb.at_)).setCell ⟨b3, 1, none⟩ (.slice vs3 sb.vars.length vc3)).setCell ⟨b3, 2, none⟩ (.slice ts3 sb.things.length tc3)).setCell ⟨b3, 3, none⟩ (.int .i64 sb.taken)).setCell ⟨b3, 4, none⟩ (.slice ls3 sb.lines.length lc3)).setCell ⟨b3, 5, none⟩ (.int .i64 sb.fin)) = w9 at *
  have HW := H4.trans (hb9.mono H4.size)
  go_wp2_with (go_at_call 24; fail)
  refine (HBG.out _ (hT.below HW)).mono ?_
  rintro e wg ⟨rfl, hbg⟩
  have h4g := hb9.trans (hbg.mono hb9.size)
  obtain ⟨⟨p0, p1, p2⟩, pz⟩ := id (P4.call h4g)
  obtain ⟨⟨q0, q1, q2, q3, q4, q5⟩, qz, -⟩ := id (Q4.call h4g)
  go_wp2_with (go_at_call 25; fail)
  refine (HCK.out _ (hc4.below h4g (Nat.le_refl _)) (hr4.below h4g (Nat.le_refl _))).mono ?_
  rintro e wh ⟨rfl, hbh⟩
  clear p0 p1 p2 pz q0 q1 q2 q3 q4 q5 qz
  have h4h := h4g.trans (hbh.mono h4g.size)
  have hgh := hbg.trans (hbh.mono hbg.size)
  obtain ⟨⟨x0, x1, x2, x3, x4, x5⟩, xz, -⟩ := id (X4.call h4h)
  obtain ⟨⟨m0, m1, m2, m3, m4, m5⟩, mz, -⟩ := id (M9.call hgh)
  have HI := hideK (runIsU 0 sb sb vs1 vc1 ts1 tc1 ls1 lc1 vs3 vc3 ts3 tc3 ls3 lc3 wh (fun _ => rfl) (fun h => absurd rfl h) HL1.out (A4.below h4h (Nat.le_refl _)) (O9.runAt.below hgh (Nat.le_refl _)))
  unfold runV at HI
  go_wp2_with (go_at_call 26; fail)
  refine HI.out.mono ?_
  rintro e wi ⟨rfl, hbi⟩
  clear HI x0 x1 x2 x3 x4 x5 xz m0 m1 m2 m3 m4 m5 mz
  have h4i := h4h.trans (hbi.mono h4h.size)
  have hgi := hgh.trans (hbi.mono hgh.size)
  obtain ⟨⟨x0, x1, x2, x3, x4, x5⟩, xz, -⟩ := id (Y4.call h4i)
  obtain ⟨⟨m0, m1, m2, m3, m4, m5⟩, mz, -⟩ := id (N9.call hgi)
  have HI := hideK (runIsU E1 sp zeroSt vs2 vc2 ts2 tc2 ls2 lc2 none 0 none 0 none 0 wi (fun h => absurd h h1'.out) (fun _ => hsp.out) HL2.out (B4.below h4i (Nat.le_refl _)) (zeroSt_at _))
  unfold runV at HI; simp only [zeroSt, List.length_nil] at HI
  go_wp2_with (go_at_call 26; fail)
  refine HI.out.mono ?_
  rintro e wj ⟨rfl, hbj⟩
  go_wp2
  go_ret
  exact ⟨rfl, H4.trans ((h4i.trans (hbj.mono h4i.size)).mono H4.size)⟩
end Go.Proofs.YtmapdpcfanecdaaDoor
