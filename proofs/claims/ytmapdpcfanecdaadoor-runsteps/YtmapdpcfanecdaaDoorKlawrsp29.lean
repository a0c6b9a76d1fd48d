/- Walks over package run: what the machine does, kind by kind. -/
import Derived.Test.YtmapdpcfanecdaaDoorKlawrsp28
import Derived.Test.YtmapdpcfanecdaaDoorKlawrsp16
namespace Go.Proofs.YtmapdpcfanecdaaDoor
set_option linter.unusedVariables false
set_option linter.unusedSimpArgs false
open Go.RowKit
attribute [local go_sem ↓] Go.wp_at_zero Go.wp_at_succ

set_option maxHeartbeats 1000000 in
set_option maxRecDepth 20000 in
theorem checkRunE_at (V F : Int) (s : Option Addr) (c : List Ins) (cap : Nat) (r : St) (vs : Option Addr) (vc : Nat) (ts : Option Addr) (tc : Nat) (ls : Option Addr) (lc : Nat) (w : World) (B1 : btw r.at_ 0 c.length = false) :
    Calls Tryd.prog 49 #[.agg #[.int .i64 V, .int .i64 F, .slice s c.length cap], runV r vs vc ts tc ls lc] w fun e w' => e = .returned (.int .i64 3) ∧ Below w.heap.size w w' := by
  unfold runV
  have hb0 : Below w.heap.size w ((w.alloc (.cells #[.int .i64 V, .int .i64 F, .slice s c.length cap] 24)).alloc (.cells #[.int .i64 r.at_, .slice vs r.vars.length vc, .slice ts r.things.length tc, .int .i64 r.taken, .slice ls r.lines.length lc, .int .i64 r.fin] 46)) := by go_grown
  have P0 := (P3.new w V F s c.length cap).call (w' := ((w.alloc (.cells #[.int .i64 V, .int .i64 F, .slice s c.length cap] 24)).alloc (.cells #[.int .i64 r.at_, .slice vs r.vars.length vc, .slice ts r.things.length tc, .int .i64 r.taken, .slice ls r.lines.length lc, .int .i64 r.fin] 46))) (by go_grown)
  have Q0 := R6.new (w.alloc (.cells #[.int .i64 V, .int .i64 F, .slice s c.length cap] 24)) 46 (.int .i64 r.at_) (.slice vs r.vars.length vc) (.slice ts r.things.length tc) (.int .i64 r.taken) (.slice ls r.lines.length lc) (.int .i64 r.fin)
  rw [World.size_alloc] at Q0
  obtain ⟨⟨p0, p1, p2⟩, pz⟩ := id P0
  obtain ⟨⟨r0, r1, r2, r3, r4, r5⟩, rz, rf⟩ := id Q0
  clear rf P0 Q0
  go_enter Tryd.func49, Tryd.ntmps49
  go_wp2_with (go_at_call 36; fail)
  generalize ((w.alloc (.cells #[.int .i64 V, .int .i64 F, .slice s c.length cap] 24)).alloc (.cells #[.int .i64 r.at_, .slice vs r.vars.length vc, .slice ts r.things.length tc, .int .i64 r.taken, .slice ls r.lines.length lc, .int .i64 r.fin] 46)) = w2 at *
  refine (between_any _ _ _ _).mono ?_
  rintro e w3 ⟨rfl, hw⟩
  rw [hw, B1]
  clear hw w3
  go_wp2
  go_ret
  exact ⟨rfl, hb0⟩

set_option maxHeartbeats 1000000 in
set_option maxRecDepth 20000 in
theorem checkRunE_taken (V F : Int) (s : Option Addr) (c : List Ins) (cap : Nat) (r : St) (vs : Option Addr) (vc : Nat) (ts : Option Addr) (tc : Nat) (ls : Option Addr) (lc : Nat) (w : World) (B1 : btw r.at_ 0 c.length = true) (n3 : r.taken < 0) :
    Calls Tryd.prog 49 #[.agg #[.int .i64 V, .int .i64 F, .slice s c.length cap], runV r vs vc ts tc ls lc] w fun e w' => e = .returned (.int .i64 3) ∧ Below w.heap.size w w' := by
  unfold runV
  have hb0 : Below w.heap.size w ((w.alloc (.cells #[.int .i64 V, .int .i64 F, .slice s c.length cap] 24)).alloc (.cells #[.int .i64 r.at_, .slice vs r.vars.length vc, .slice ts r.things.length tc, .int .i64 r.taken, .slice ls r.lines.length lc, .int .i64 r.fin] 46)) := by go_grown
  have P0 := (P3.new w V F s c.length cap).call (w' := ((w.alloc (.cells #[.int .i64 V, .int .i64 F, .slice s c.length cap] 24)).alloc (.cells #[.int .i64 r.at_, .slice vs r.vars.length vc, .slice ts r.things.length tc, .int .i64 r.taken, .slice ls r.lines.length lc, .int .i64 r.fin] 46))) (by go_grown)
  have Q0 := R6.new (w.alloc (.cells #[.int .i64 V, .int .i64 F, .slice s c.length cap] 24)) 46 (.int .i64 r.at_) (.slice vs r.vars.length vc) (.slice ts r.things.length tc) (.int .i64 r.taken) (.slice ls r.lines.length lc) (.int .i64 r.fin)
  rw [World.size_alloc] at Q0
  obtain ⟨⟨p0, p1, p2⟩, pz⟩ := id P0
  obtain ⟨⟨r0, r1, r2, r3, r4, r5⟩, rz, rf⟩ := id Q0
  clear rf P0 Q0
  go_enter Tryd.func49, Tryd.ntmps49
  go_wp2_with (go_at_call 36; fail)
  generalize ((w.alloc (.cells #[.int .i64 V, .int .i64 F, .slice s c.length cap] 24)).alloc (.cells #[.int .i64 r.at_, .slice vs r.vars.length vc, .slice ts r.things.length tc, .int .i64 r.taken, .slice ls r.lines.length lc, .int .i64 r.fin] 46)) = w2 at *
  refine (between_any _ _ _ _).mono ?_
  rintro e w3 ⟨rfl, hw⟩
  rw [hw, B1]
  clear hw w3
  go_wp2
  go_ret
  exact ⟨rfl, hb0⟩

set_option maxHeartbeats 1000000 in
set_option maxRecDepth 20000 in
theorem checkRunE_fin (V F : Int) (s : Option Addr) (c : List Ins) (cap : Nat) (r : St) (vs : Option Addr) (vc : Nat) (ts : Option Addr) (tc : Nat) (ls : Option Addr) (lc : Nat) (w : World) (B1 : btw r.at_ 0 c.length = true) (n3 : ¬ r.taken < 0) (B2 : btw r.fin 0 5 = false) :
    Calls Tryd.prog 49 #[.agg #[.int .i64 V, .int .i64 F, .slice s c.length cap], runV r vs vc ts tc ls lc] w fun e w' => e = .returned (.int .i64 3) ∧ Below w.heap.size w w' := by
  unfold runV
  have hb0 : Below w.heap.size w ((w.alloc (.cells #[.int .i64 V, .int .i64 F, .slice s c.length cap] 24)).alloc (.cells #[.int .i64 r.at_, .slice vs r.vars.length vc, .slice ts r.things.length tc, .int .i64 r.taken, .slice ls r.lines.length lc, .int .i64 r.fin] 46)) := by go_grown
  have P0 := (P3.new w V F s c.length cap).call (w' := ((w.alloc (.cells #[.int .i64 V, .int .i64 F, .slice s c.length cap] 24)).alloc (.cells #[.int .i64 r.at_, .slice vs r.vars.length vc, .slice ts r.things.length tc, .int .i64 r.taken, .slice ls r.lines.length lc, .int .i64 r.fin] 46))) (by go_grown)
  have Q0 := R6.new (w.alloc (.cells #[.int .i64 V, .int .i64 F, .slice s c.length cap] 24)) 46 (.int .i64 r.at_) (.slice vs r.vars.length vc) (.slice ts r.things.length tc) (.int .i64 r.taken) (.slice ls r.lines.length lc) (.int .i64 r.fin)
  rw [World.size_alloc] at Q0
  obtain ⟨⟨p0, p1, p2⟩, pz⟩ := id P0
  obtain ⟨⟨r0, r1, r2, r3, r4, r5⟩, rz, rf⟩ := id Q0
  clear rf P0 Q0
  go_enter Tryd.func49, Tryd.ntmps49
  go_wp2_with (go_at_call 36; fail)
  generalize ((w.alloc (.cells #[.int .i64 V, .int .i64 F, .slice s c.length cap] 24)).alloc (.cells #[.int .i64 r.at_, .slice vs r.vars.length vc, .slice ts r.things.length tc, .int .i64 r.taken, .slice ls r.lines.length lc, .int .i64 r.fin] 46)) = w2 at *
  refine (between_any _ _ _ _).mono ?_
  rintro e w3 ⟨rfl, hw⟩
  rw [hw, B1]
  clear hw w3
  go_wp2_with (go_at_call 36; fail)
  refine (between_any _ _ _ _).mono ?_
  rintro e w3 ⟨rfl, hw⟩
  rw [hw, B2]
  clear hw w3
  go_wp2
  go_ret
  exact ⟨rfl, hb0⟩

set_option maxHeartbeats 1000000 in
set_option maxRecDepth 20000 in
theorem checkRunE_vars (V F : Int) (s : Option Addr) (c : List Ins) (cap : Nat) (r : St) (vs : Option Addr) (vc : Nat) (ts : Option Addr) (tc : Nat) (ls : Option Addr) (lc : Nat) (w : World) (B1 : btw r.at_ 0 c.length = true) (n3 : ¬ r.taken < 0) (B2 : btw r.fin 0 5 = true) (hv : (r.vars.length : Int) ≠ V) :
    Calls Tryd.prog 49 #[.agg #[.int .i64 V, .int .i64 F, .slice s c.length cap], runV r vs vc ts tc ls lc] w fun e w' => e = .returned (.int .i64 1) ∧ Below w.heap.size w w' := by
  unfold runV
  have hb0 : Below w.heap.size w ((w.alloc (.cells #[.int .i64 V, .int .i64 F, .slice s c.length cap] 24)).alloc (.cells #[.int .i64 r.at_, .slice vs r.vars.length vc, .slice ts r.things.length tc, .int .i64 r.taken, .slice ls r.lines.length lc, .int .i64 r.fin] 46)) := by go_grown
  have P0 := (P3.new w V F s c.length cap).call (w' := ((w.alloc (.cells #[.int .i64 V, .int .i64 F, .slice s c.length cap] 24)).alloc (.cells #[.int .i64 r.at_, .slice vs r.vars.length vc, .slice ts r.things.length tc, .int .i64 r.taken, .slice ls r.lines.length lc, .int .i64 r.fin] 46))) (by go_grown)
  have Q0 := R6.new (w.alloc (.cells #[.int .i64 V, .int .i64 F, .slice s c.length cap] 24)) 46 (.int .i64 r.at_) (.slice vs r.vars.length vc) (.slice ts r.things.length tc) (.int .i64 r.taken) (.slice ls r.lines.length lc) (.int .i64 r.fin)
  rw [World.size_alloc] at Q0
  obtain ⟨⟨p0, p1, p2⟩, pz⟩ := id P0
  obtain ⟨⟨r0, r1, r2, r3, r4, r5⟩, rz, rf⟩ := id Q0
  clear rf P0 Q0
  have hvb : ((r.vars.length : Int) != V) = true := by simpa using hv
  clear hv
  go_enter Tryd.func49, Tryd.ntmps49
  go_wp2_with (go_at_call 36; fail)
  generalize ((w.alloc (.cells #[.int .i64 V, .int .i64 F, .slice s c.length cap] 24)).alloc (.cells #[.int .i64 r.at_, .slice vs r.vars.length vc, .slice ts r.things.length tc, .int .i64 r.taken, .slice ls r.lines.length lc, .int .i64 r.fin] 46)) = w2 at *
  refine (between_any _ _ _ _).mono ?_
  rintro e w3 ⟨rfl, hw⟩
  rw [hw, B1]
  clear hw w3
  go_wp2_with (go_at_call 36; fail)
  refine (between_any _ _ _ _).mono ?_
  rintro e w3 ⟨rfl, hw⟩
  rw [hw, B2]
  clear hw w3
  go_wp2
  go_ret
  exact ⟨rfl, hb0⟩

set_option maxHeartbeats 1000000 in
set_option maxRecDepth 20000 in
theorem checkRunE_many (V F : Int) (s : Option Addr) (c : List Ins) (cap : Nat) (r : St) (vs : Option Addr) (vc : Nat) (ts : Option Addr) (tc : Nat) (ls : Option Addr) (lc : Nat) (w : World) (B1 : btw r.at_ 0 c.length = true) (n3 : ¬ r.taken < 0) (B2 : btw r.fin 0 5 = true) (hv : (r.vars.length : Int) = V) (ht : 100 < r.things.length) :
    Calls Tryd.prog 49 #[.agg #[.int .i64 V, .int .i64 F, .slice s c.length cap], runV r vs vc ts tc ls lc] w fun e w' => e = .returned (.int .i64 2) ∧ Below w.heap.size w w' := by
  unfold runV
  have hb0 : Below w.heap.size w ((w.alloc (.cells #[.int .i64 V, .int .i64 F, .slice s c.length cap] 24)).alloc (.cells #[.int .i64 r.at_, .slice vs r.vars.length vc, .slice ts r.things.length tc, .int .i64 r.taken, .slice ls r.lines.length lc, .int .i64 r.fin] 46)) := by go_grown
  have P0 := (P3.new w V F s c.length cap).call (w' := ((w.alloc (.cells #[.int .i64 V, .int .i64 F, .slice s c.length cap] 24)).alloc (.cells #[.int .i64 r.at_, .slice vs r.vars.length vc, .slice ts r.things.length tc, .int .i64 r.taken, .slice ls r.lines.length lc, .int .i64 r.fin] 46))) (by go_grown)
  have Q0 := R6.new (w.alloc (.cells #[.int .i64 V, .int .i64 F, .slice s c.length cap] 24)) 46 (.int .i64 r.at_) (.slice vs r.vars.length vc) (.slice ts r.things.length tc) (.int .i64 r.taken) (.slice ls r.lines.length lc) (.int .i64 r.fin)
  rw [World.size_alloc] at Q0
  obtain ⟨⟨p0, p1, p2⟩, pz⟩ := id P0
  obtain ⟨⟨r0, r1, r2, r3, r4, r5⟩, rz, rf⟩ := id Q0
  clear rf P0 Q0
  have hvb : ((r.vars.length : Int) != V) = false := by simp [hv]
  have n7 : (100 : Int) < (r.things.length : Int) := by omega
  clear hv
  go_enter Tryd.func49, Tryd.ntmps49
  go_wp2_with (go_at_call 36; fail)
  generalize ((w.alloc (.cells #[.int .i64 V, .int .i64 F, .slice s c.length cap] 24)).alloc (.cells #[.int .i64 r.at_, .slice vs r.vars.length vc, .slice ts r.things.length tc, .int .i64 r.taken, .slice ls r.lines.length lc, .int .i64 r.fin] 46)) = w2 at *
  refine (between_any _ _ _ _).mono ?_
  rintro e w3 ⟨rfl, hw⟩
  rw [hw, B1]
  clear hw w3
  go_wp2_with (go_at_call 36; fail)
  refine (between_any _ _ _ _).mono ?_
  rintro e w3 ⟨rfl, hw⟩
  rw [hw, B2]
  clear hw w3
  go_wp2
  go_ret
  exact ⟨rfl, hb0⟩

theorem checkRunR_any (V F : Int) (s : Option Addr) (c : List Ins) (cap : Nat) (r : St) (vs : Option Addr) (vc : Nat) (ts : Option Addr) (tc : Nat) (ls : Option Addr) (lc : Nat) (w : World) (hc : CodeAt w s c) (hp : ProgOk V F c) (hl : LenSt r) (hr : RunAt w r vs ts ls) :
    Calls Tryd.prog 49 #[.agg #[.int .i64 V, .int .i64 F, .slice s c.length cap], runV r vs vc ts tc ls lc] w fun e w' => e = .returned (.int .i64 (ckRun V F c r)) ∧ Below w.heap.size w w' := by
  by_cases h1 : 0 ≤ r.at_ ∧ r.at_ ≤ c.length
  · have B1 := btw_true h1.1 h1.2
    by_cases h2 : r.taken < 0
    · rw [ckRun_range (by omega)]
      exact checkRunE_taken V F s c cap r vs vc ts tc ls lc w B1 h2
    by_cases h3 : 0 ≤ r.fin ∧ r.fin ≤ 5
    · have B2 := btw_true h3.1 h3.2
      rw [ckRun_rest (by omega)]
      by_cases h4 : (r.vars.length : Int) = V
      · rw [if_neg (by simpa using h4)]
        by_cases h5 : 100 < r.things.length
        · rw [if_pos h5]
          exact checkRunE_many V F s c cap r vs vc ts tc ls lc w B1 h2 B2 h4 h5
        · rw [if_neg h5]
          exact checkThingsR_any V F s c cap r vs vc ts tc ls lc w hc hp hl hr (by omega) h4 (by omega)
      · rw [if_pos h4]
        exact checkRunE_vars V F s c cap r vs vc ts tc ls lc w B1 h2 B2 h4
    · rw [ckRun_range (by omega)]
      exact checkRunE_fin V F s c cap r vs vc ts tc ls lc w B1 h2 (by simp [btw]; omega)
  · rw [ckRun_range (by omega)]
    exact checkRunE_at V F s c cap r vs vc ts tc ls lc w (by simp [btw]; omega)
set_option maxHeartbeats 1000000 in
set_option maxRecDepth 20000 in
theorem checkBoth_any (V F : Int) (s : Option Addr) (c : List Ins) (cap : Nat) (r : St) (vs : Option Addr) (vc : Nat) (ts : Option Addr) (tc : Nat) (ls : Option Addr) (lc : Nat) (w : World) (hc : CodeAt w s c) (hl : LenSt r) (hr : RunAt w r vs ts ls) :
    Calls Tryd.prog 21 #[.agg #[.int .i64 V, .int .i64 F, .slice s c.length cap], runV r vs vc ts tc ls lc] w fun e w' => e = .returned (.int .i64 (ckBoth V F c r)) ∧ Below w.heap.size w w' := by
  have hb1 : Below w.heap.size w ((w.alloc (.cells #[.int .i64 V, .int .i64 F, .slice s c.length cap] 24)).alloc (.cells #[.int .i64 r.at_, .slice vs r.vars.length vc, .slice ts r.things.length tc, .int .i64 r.taken, .slice ls r.lines.length lc, .int .i64 r.fin] 46)) := by go_grown
  have HP := hideK (checkProgram_any V F s cap c ((w.alloc (.cells #[.int .i64 V, .int .i64 F, .slice s c.length cap] 24)).alloc (.cells #[.int .i64 r.at_, .slice vs r.vars.length vc, .slice ts r.things.length tc, .int .i64 r.taken, .slice ls r.lines.length lc, .int .i64 r.fin] 46)) (hc.below hb1 (Nat.le_refl _)))
  have HR := hideK (fun (wx : World) (hx : Below w.heap.size w wx) (hp : ProgOk V F c) => checkRunR_any V F s c cap r vs vc ts tc ls lc wx (hc.below hx (Nat.le_refl _)) hp hl (hr.below hx (Nat.le_refl _)))
  have HK := hideK (@progOk_of V F c)
  have HB : Hid (ckBoth V F c r = if ckProg V F c = 0 then ckRun V F c r else ckProg V F c) := rfl
  unfold runV at HR
  unfold runV
  have hb0 : Below w.heap.size w ((w.alloc (.cells #[.int .i64 V, .int .i64 F, .slice s c.length cap] 24)).alloc (.cells #[.int .i64 r.at_, .slice vs r.vars.length vc, .slice ts r.things.length tc, .int .i64 r.taken, .slice ls r.lines.length lc, .int .i64 r.fin] 46)) := by go_grown
  have P0 := (P3.new w V F s c.length cap).call (w' := ((w.alloc (.cells #[.int .i64 V, .int .i64 F, .slice s c.length cap] 24)).alloc (.cells #[.int .i64 r.at_, .slice vs r.vars.length vc, .slice ts r.things.length tc, .int .i64 r.taken, .slice ls r.lines.length lc, .int .i64 r.fin] 46))) (by go_grown)
  have Q0 := R6.new (w.alloc (.cells #[.int .i64 V, .int .i64 F, .slice s c.length cap] 24)) 46 (.int .i64 r.at_) (.slice vs r.vars.length vc) (.slice ts r.things.length tc) (.int .i64 r.taken) (.slice ls r.lines.length lc) (.int .i64 r.fin)
  rw [World.size_alloc] at Q0
  obtain ⟨⟨p0, p1, p2⟩, pz⟩ := id P0
  obtain ⟨⟨r0, r1, r2, r3, r4, r5⟩, rz, rf⟩ := id Q0
  clear rf P0 Q0
  have HC := hideK (fun (wx : World) (hx : Below ((w.alloc (.cells #[.int .i64 V, .int .i64 F, .slice s c.length cap] 24)).alloc (.cells #[.int .i64 r.at_, .slice vs r.vars.length vc, .slice ts r.things.length tc, .int .i64 r.taken, .slice ls r.lines.length lc, .int .i64 r.fin] 46)).heap.size ((w.alloc (.cells #[.int .i64 V, .int .i64 F, .slice s c.length cap] 24)).alloc (.cells #[.int .i64 r.at_, .slice vs r.vars.length vc, .slice ts r.things.length tc, .int .i64 r.taken, .slice ls r.lines.length lc, .int .i64 r.fin] 46)) wx) => And.intro (And.intro (show wx.cell? ⟨w.heap.size, 0, none⟩ = some (.int .i64 V) by rw [hx.cell pz]; exact p0) (And.intro (show wx.cell? ⟨w.heap.size, 1, none⟩ = some (.int .i64 F) by rw [hx.cell pz]; exact p1) (show wx.cell? ⟨w.heap.size, 2, none⟩ = some (.slice s c.length cap) by rw [hx.cell pz]; exact p2))) (show R6 wx (w.heap.size + 1) (.int .i64 r.at_) (.slice vs r.vars.length vc) (.slice ts r.things.length tc) (.int .i64 r.taken) (.slice ls r.lines.length lc) (.int .i64 r.fin) from (by
    have Q0 := R6.new (w.alloc (.cells #[.int .i64 V, .int .i64 F, .slice s c.length cap] 24)) 46 (.int .i64 r.at_) (.slice vs r.vars.length vc) (.slice ts r.things.length tc) (.int .i64 r.taken) (.slice ls r.lines.length lc) (.int .i64 r.fin)
    rw [World.size_alloc] at Q0
    exact Q0.call hx)))
  generalize ckProg V F c = ck at *
  clear hc hl hr p0 p1 p2 pz r0 r1 r2 r3 r4 r5 rz hb1
  go_enter Tryd.func21, Tryd.ntmps21
  go_wp2_with (go_at_call 10; fail)
  generalize ((w.alloc (.cells #[.int .i64 V, .int .i64 F, .slice s c.length cap] 24)).alloc (.cells #[.int .i64 r.at_, .slice vs r.vars.length vc, .slice ts r.things.length tc, .int .i64 r.taken, .slice ls r.lines.length lc, .int .i64 r.fin] 46)) = w2 at *
  refine HP.out.mono ?_
  rintro e w3 ⟨rfl, hb3⟩
  clear HP
  have b3 := hb0.trans (hb3.mono hb0.size)
  by_cases hk : ck = 0
  · subst hk
    have hE : Hid (ckBoth V F c r = ckRun V F c r) := by show _ = _; rw [HB.out, if_pos rfl]
    obtain ⟨⟨p0, p1, p2⟩, ⟨r0, r1, r2, r3, r4, r5⟩, rz, -⟩ := HC.out w3 hb3
    have HX := hideK (HR.out w3 b3 (HK.out rfl))
    clear HC HR HK HB
    go_wp2_with (go_at_call 49; fail)
    refine HX.out.mono ?_
    rintro e w4 ⟨rfl, hb4⟩
    clear HX
    go_wp2
    go_ret
    exact ⟨ret_int (by rw [hE.out]), b3.trans (hb4.mono b3.size)⟩
  · have hkb : (ck == 0) = false := by simpa using hk
    have hE : Hid (ckBoth V F c r = ck) := by show _ = _; rw [HB.out, if_neg hk]
    clear HC HR HK HB
    go_wp2
    go_ret
    exact ⟨ret_int (by rw [hE.out]), b3⟩
end Go.Proofs.YtmapdpcfanecdaaDoor

namespace Go.Proofs.YtmapdpcfanecdaaDoor
set_option linter.unusedVariables false
set_option linter.unusedSimpArgs false
open Go.RowKit
attribute [local go_sem ↓] Go.wp_at_zero Go.wp_at_succ

/-- What is known while the document's own copy of a run's things is made. -/
structure CpR (w wr : World) (r : St) (ts : Option Addr) (tc : Nat) (k : Nat) (fn : List Value) (vv tv lv : Value) : Prop where
  low : Below w.heap.size w wr
  run : R6 wr w.heap.size (.int .i64 r.at_) vv (.slice ts r.things.length tc) (.int .i64 r.taken) lv (.int .i64 r.fin)
  res : R6 wr (w.heap.size + 1) (.int .i64 0) (.slice none 0 0) (.slice none 0 0) (.int .i64 0) (.slice none 0 0) (.int .i64 0)
  vars : ValRow wr (w.heap.size + 1 + 1) vv r.vars
  lines : wr.ownsRow (w.heap.size + 1 + 1) 9 1 lv r.lines.length (r.lines.map .string)
  things : wr.ownsRow (w.heap.size + 1 + 1) 99 2 tv k (thgCells ((r.things.take k).map (·.site)) fn)
  le : k ≤ r.things.length
  len : fn.length = k
  fields : ∀ j (h : j < fn.length), ValRow wr (w.heap.size + 1 + 1) fn[j] (r.things[j]'(by rw [len] at h; exact Nat.lt_of_lt_of_le h le)).fs
  apart : (vv.ownBlock :: tv.ownBlock :: lv.ownBlock :: fn.map Value.ownBlock).Pairwise fun a b => ∀ x, a = some x → b ≠ some x
theorem ownsRow_grown {w w' : World} {row : Option Nat} {B : Nat} {e : TypeId} {z : Nat} {v : Value} {n : Nat} {xs : List Value} (h : w.ownsRow B e z v n xs) (hg : w.grownBy w' row) (hr : ∀ k, v.ownBlock = some k → some k ≠ row) : w'.ownsRow B e z v n xs :=
  ownsRow_of_block h (fun k hk => hg.block k (ownsRow_block_lt h hk).1 (hr k hk))
theorem CpR.step {w wr w1 w2 : World} {r : St} {ts : Option Addr} {tc k : Nat} {fn : List Value} {vv tv lv v' : Value} {g cap : Nat} (h : CpR w wr r ts tc k fn vv tv lv) (hlt : k < r.things.length) (hb : Below wr.heap.size wr w1) (hv : ValRow w1 wr.heap.size v' r.things[k].fs)
    (hown : w2.ownsRow (w.heap.size + 1 + 1) 99 2 (.slice (some ⟨g, 0, none⟩) (k + 1) cap) (k + 1) (thgCells ((r.things.take k).map (·.site)) fn ++ [.int .i64 r.things[k].site, v'])) (hgrow : w1.grownBy w2 tv.ownBlock) (hat : tv.ownBlock = some g ∨ g = w1.heap.size) :
    CpR w w2 r ts tc (k + 1) (fn ++ [v']) vv (.slice (some ⟨g, 0, none⟩) (k + 1) cap) lv := by
  have hap := h.apart
  simp only [List.pairwise_cons] at hap
  obtain ⟨a1, a2, a3, a4⟩ := hap
  have hz := h.low.size
  have hbz := hb.size
  have hrz := h.run.2.1
  have hsz := h.res.2.1
  have tge : ∀ x, tv.ownBlock = some x → x < wr.heap.size ∧ w.heap.size + 1 + 1 ≤ x := fun x hx => ownsRow_block_lt h.things hx
  have vlt : ∀ x, vv.ownBlock = some x → x < wr.heap.size := fun x hx => (ownsRow_block_lt h.vars hx).1
  have llt : ∀ x, lv.ownBlock = some x → x < wr.heap.size := fun x hx => (ownsRow_block_lt h.lines hx).1
  have flt : ∀ x, some x ∈ fn.map Value.ownBlock → x < wr.heap.size := fun x hx => by
    obtain ⟨y, hy, hyk⟩ := List.mem_map.1 hx
    obtain ⟨i, hi, rfl⟩ := List.getElem_of_mem hy
    exact (ownsRow_block_lt (h.fields i hi) hyk).1
  have vge : ∀ x, x < wr.heap.size → v'.ownBlock ≠ some x := fun x hx => ownsRow_ge hv hx
  have nlow : ∀ x, x < w.heap.size + 1 + 1 → some x ≠ tv.ownBlock := fun x hx e => by have := (tge x e.symm).2; omega
  have ntv : ∀ x, vv.ownBlock = some x → some x ≠ tv.ownBlock := fun x hx e => a1 tv.ownBlock (List.mem_cons_self ..) x hx e.symm
  have ntl : ∀ x, lv.ownBlock = some x → some x ≠ tv.ownBlock := fun x hx e => a2 _ (List.mem_cons_self ..) x e.symm hx
  have ntf : ∀ x, some x ∈ fn.map Value.ownBlock → some x ≠ tv.ownBlock := fun x hx e => a2 _ (List.mem_cons_of_mem _ hx) x e.symm rfl
  have ntn : ∀ x, v'.ownBlock = some x → some x ≠ tv.ownBlock := fun x hx e => vge x (tge x e.symm).1 hx
  have hg : ∀ x, x < w1.heap.size → some x ≠ tv.ownBlock → x ≠ g := fun x h1 h2 e => by
    rcases hat with e' | e'
    · exact h2 (by rw [e', e])
    · omega
  have b1 : Below w.heap.size w w1 := h.low.trans (hb.mono hz)
  refine ⟨b1.grown hgrow b1.size (fun x hx => by have := (tge x hx).2; omega), (h.run.call hb).same (hgrow.block _ (by omega) (nlow _ (by omega))) hgrow.size, (h.res.call hb).same (hgrow.block _ (by omega) (nlow _ (by omega))) hgrow.size, ownsRow_grown (ownsRow_call h.vars hb) hgrow ntv, ownsRow_grown (ownsRow_call h.lines hb) hgrow ntl, ?_, hlt, by simp [h.len], fun j hj => ?_, ?_⟩
  · rw [List.take_succ_eq_append_getElem hlt, List.map_append, List.map_cons, List.map_nil, thgCells_snoc _ _ (by have := h.len; simp; omega)]
    exact hown
  · have hl := h.len
    by_cases hj' : j < fn.length
    · have e : (fn ++ [v'])[j] = fn[j] := List.getElem_append_left hj'
      rw [e]
      exact ownsRow_grown (ownsRow_call (h.fields j hj') hb) hgrow (fun x hx => ntf x (List.mem_map.2 ⟨_, List.getElem_mem hj', hx⟩))
    · have e : j = fn.length := by simp at hj; omega
      subst e
      have e : (fn ++ [v'])[fn.length] = v' := by simp
      rw [e]
      have e2 : r.things[fn.length]'(by omega) = r.things[k] := by simp only [hl]
      rw [e2]
      exact ownsRow_grown (ownsRow_down hv (by omega)) hgrow ntn
  · refine List.pairwise_cons.2 ⟨fun b hb' x hx e => ?_, List.pairwise_cons.2 ⟨fun b hb' x hx e => ?_, List.pairwise_cons.2 ⟨fun b hb' x hx e => ?_, ?_⟩⟩⟩
    · rw [List.map_append] at hb'
      rcases List.mem_cons.1 hb' with rfl | hb'
      · cases e
        exact hg g (Nat.lt_of_lt_of_le (vlt g hx) hbz) (ntv g hx) rfl
      · rcases List.mem_cons.1 hb' with rfl | hb'
        · exact a1 lv.ownBlock (List.mem_cons_of_mem _ (List.mem_cons_self ..)) x hx e
        · rcases List.mem_append.1 hb' with hb' | hb'
          · exact a1 b (List.mem_cons_of_mem _ (List.mem_cons_of_mem _ hb')) x hx e
          · simp only [List.map_cons, List.map_nil, List.mem_singleton] at hb'
            subst hb'
            exact vge x (vlt x hx) e
    · cases hx
      rw [List.map_append] at hb'
      rcases List.mem_cons.1 hb' with rfl | hb'
      · exact hg g (Nat.lt_of_lt_of_le (llt g e) hbz) (ntl g e) rfl
      · rcases List.mem_append.1 hb' with hb' | hb'
        · subst e
          exact hg g (Nat.lt_of_lt_of_le (flt g hb') hbz) (ntf g hb') rfl
        · simp only [List.map_cons, List.map_nil, List.mem_singleton] at hb'
          subst hb'
          exact hg g (ownsRow_block_lt hv e).1 (ntn g e) rfl
    · rw [List.map_append] at hb'
      rcases List.mem_append.1 hb' with hb' | hb'
      · exact a3 b hb' x hx e
      · simp only [List.map_cons, List.map_nil, List.mem_singleton] at hb'
        subst hb'
        exact vge x (llt x hx) e
    · rw [List.map_append]
      refine List.pairwise_append.2 ⟨a4, by simp, fun a ha b hb' x hx e => ?_⟩
      simp only [List.map_cons, List.map_nil, List.mem_singleton] at hb'
      subst hb'
      subst hx
      exact vge x (flt x ha) e
theorem CpR.rows {w wr : World} {r : St} {ts : Option Addr} {tc k : Nat} {fn : List Value} {vv tv lv : Value} (h : CpR w wr r ts tc k fn vv tv lv) (hk : k = r.things.length) : OwnRows wr (w.heap.size + 1 + 1) r vv tv lv fn := by
  subst hk
  have ht := h.things
  rw [List.take_length] at ht
  exact ⟨h.vars, ht, h.len, fun i hi => h.fields i (by rw [h.len]; exact hi), h.lines, h.apart⟩
end Go.Proofs.YtmapdpcfanecdaaDoor
