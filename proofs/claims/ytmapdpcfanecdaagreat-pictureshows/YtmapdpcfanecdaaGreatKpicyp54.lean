/- Walks over package run: what the machine does, kind by kind. -/
import Derived.Test.YtmapdpcfanecdaaGreatKpicyp53
namespace Go.Proofs.YtmapdpcfanecdaaGreat
set_option linter.unusedVariables false
set_option linter.unusedSimpArgs false
open Go.RowKit
attribute [local go_sem ↓] Go.wp_at_zero Go.wp_at_succ

set_option maxHeartbeats 1000000 in
set_option maxRecDepth 20000 in
theorem checkRunE_at (V F : Int) (s : Option Addr) (c : List Ins) (cap : Nat) (r : St) (vs : Option Addr) (vc : Nat) (ts : Option Addr) (tc : Nat) (ls : Option Addr) (lc : Nat) (w : World) (B1 : btw r.at_ 0 c.length = false) :
    Calls Tryz.prog 35 #[.agg #[.int .i64 V, .int .i64 F, .slice s c.length cap], runV r vs vc ts tc ls lc] w fun e w' => e = .returned (.int .i64 3) ∧ Below w.heap.size w w' := by
  unfold runV
  have hb0 : Below w.heap.size w ((w.alloc (.cells #[.int .i64 V, .int .i64 F, .slice s c.length cap] 24)).alloc (.cells #[.int .i64 r.at_, .slice vs r.vars.length vc, .slice ts r.things.length tc, .int .i64 r.taken, .slice ls r.lines.length lc, .int .i64 r.fin] 76)) := by go_grown
  have P0 := (P3.new w V F s c.length cap).call (w' := ((w.alloc (.cells #[.int .i64 V, .int .i64 F, .slice s c.length cap] 24)).alloc (.cells #[.int .i64 r.at_, .slice vs r.vars.length vc, .slice ts r.things.length tc, .int .i64 r.taken, .slice ls r.lines.length lc, .int .i64 r.fin] 76))) (by go_grown)
  have Q0 := R6.new (w.alloc (.cells #[.int .i64 V, .int .i64 F, .slice s c.length cap] 24)) 76 (.int .i64 r.at_) (.slice vs r.vars.length vc) (.slice ts r.things.length tc) (.int .i64 r.taken) (.slice ls r.lines.length lc) (.int .i64 r.fin)
  rw [World.size_alloc] at Q0
  obtain ⟨⟨p0, p1, p2⟩, pz⟩ := id P0
  obtain ⟨⟨r0, r1, r2, r3, r4, r5⟩, rz, rf⟩ := id Q0
  clear rf P0 Q0
  go_enter Tryz.func35, Tryz.ntmps35
  go_wp2_with (go_at_call 73; fail)
  generalize ((w.alloc (.cells #[.int .i64 V, .int .i64 F, .slice s c.length cap] 24)).alloc (.cells #[.int .i64 r.at_, .slice vs r.vars.length vc, .slice ts r.things.length tc, .int .i64 r.taken, .slice ls r.lines.length lc, .int .i64 r.fin] 76)) = w2 at *
  refine (between_any _ _ _ _).mono ?_
  rintro e w3 ⟨rfl, hw⟩
  rw [hw, B1]
  clear hw w3
  go_wp2
  go_ret
  exact ⟨rfl, hb0⟩

set_option maxHeartbeats 1000000 in
set_option maxRecDepth 20000 in
theorem checkRunE_taken (V F : Int) (s : Option Addr) (c : List Ins) (cap : Nat) (r : St) (vs : Option Addr) (vc : Nat) (ts : Option Addr) (tc : Nat) (ls : Option Addr) (lc : Nat) (w : World) (B1 : btw r.at_ 0 c.length = true) (n3 : r.taken < 0) :
    Calls Tryz.prog 35 #[.agg #[.int .i64 V, .int .i64 F, .slice s c.length cap], runV r vs vc ts tc ls lc] w fun e w' => e = .returned (.int .i64 3) ∧ Below w.heap.size w w' := by
  unfold runV
  have hb0 : Below w.heap.size w ((w.alloc (.cells #[.int .i64 V, .int .i64 F, .slice s c.length cap] 24)).alloc (.cells #[.int .i64 r.at_, .slice vs r.vars.length vc, .slice ts r.things.length tc, .int .i64 r.taken, .slice ls r.lines.length lc, .int .i64 r.fin] 76)) := by go_grown
  have P0 := (P3.new w V F s c.length cap).call (w' := ((w.alloc (.cells #[.int .i64 V, .int .i64 F, .slice s c.length cap] 24)).alloc (.cells #[.int .i64 r.at_, .slice vs r.vars.length vc, .slice ts r.things.length tc, .int .i64 r.taken, .slice ls r.lines.length lc, .int .i64 r.fin] 76))) (by go_grown)
  have Q0 := R6.new (w.alloc (.cells #[.int .i64 V, .int .i64 F, .slice s c.length cap] 24)) 76 (.int .i64 r.at_) (.slice vs r.vars.length vc) (.slice ts r.things.length tc) (.int .i64 r.taken) (.slice ls r.lines.length lc) (.int .i64 r.fin)
  rw [World.size_alloc] at Q0
  obtain ⟨⟨p0, p1, p2⟩, pz⟩ := id P0
  obtain ⟨⟨r0, r1, r2, r3, r4, r5⟩, rz, rf⟩ := id Q0
  clear rf P0 Q0
  go_enter Tryz.func35, Tryz.ntmps35
  go_wp2_with (go_at_call 73; fail)
  generalize ((w.alloc (.cells #[.int .i64 V, .int .i64 F, .slice s c.length cap] 24)).alloc (.cells #[.int .i64 r.at_, .slice vs r.vars.length vc, .slice ts r.things.length tc, .int .i64 r.taken, .slice ls r.lines.length lc, .int .i64 r.fin] 76)) = w2 at *
  refine (between_any _ _ _ _).mono ?_
  rintro e w3 ⟨rfl, hw⟩
  rw [hw, B1]
  clear hw w3
  go_wp2
  go_ret
  exact ⟨rfl, hb0⟩

set_option maxHeartbeats 1000000 in
set_option maxRecDepth 20000 in
theorem checkRunE_fin (V F : Int) (s : Option Addr) (c : List Ins) (cap : Nat) (r : St) (vs : Option Addr) (vc : Nat) (ts : Option Addr) (tc : Nat) (ls : Option Addr) (lc : Nat) (w : World) (B1 : btw r.at_ 0 c.length = true) (n3 : ¬ r.taken < 0) (B2 : btw r.fin 0 5 = false) :
    Calls Tryz.prog 35 #[.agg #[.int .i64 V, .int .i64 F, .slice s c.length cap], runV r vs vc ts tc ls lc] w fun e w' => e = .returned (.int .i64 3) ∧ Below w.heap.size w w' := by
  unfold runV
  have hb0 : Below w.heap.size w ((w.alloc (.cells #[.int .i64 V, .int .i64 F, .slice s c.length cap] 24)).alloc (.cells #[.int .i64 r.at_, .slice vs r.vars.length vc, .slice ts r.things.length tc, .int .i64 r.taken, .slice ls r.lines.length lc, .int .i64 r.fin] 76)) := by go_grown
  have P0 := (P3.new w V F s c.length cap).call (w' := ((w.alloc (.cells #[.int .i64 V, .int .i64 F, .slice s c.length cap] 24)).alloc (.cells #[.int .i64 r.at_, .slice vs r.vars.length vc, .slice ts r.things.length tc, .int .i64 r.taken, .slice ls r.lines.length lc, .int .i64 r.fin] 76))) (by go_grown)
  have Q0 := R6.new (w.alloc (.cells #[.int .i64 V, .int .i64 F, .slice s c.length cap] 24)) 76 (.int .i64 r.at_) (.slice vs r.vars.length vc) (.slice ts r.things.length tc) (.int .i64 r.taken) (.slice ls r.lines.length lc) (.int .i64 r.fin)
  rw [World.size_alloc] at Q0
  obtain ⟨⟨p0, p1, p2⟩, pz⟩ := id P0
  obtain ⟨⟨r0, r1, r2, r3, r4, r5⟩, rz, rf⟩ := id Q0
  clear rf P0 Q0
  go_enter Tryz.func35, Tryz.ntmps35
  go_wp2_with (go_at_call 73; fail)
  generalize ((w.alloc (.cells #[.int .i64 V, .int .i64 F, .slice s c.length cap] 24)).alloc (.cells #[.int .i64 r.at_, .slice vs r.vars.length vc, .slice ts r.things.length tc, .int .i64 r.taken, .slice ls r.lines.length lc, .int .i64 r.fin] 76)) = w2 at *
  refine (between_any _ _ _ _).mono ?_
  rintro e w3 ⟨rfl, hw⟩
  rw [hw, B1]
  clear hw w3
  go_wp2_with (go_at_call 73; fail)
  refine (between_any _ _ _ _).mono ?_
  rintro e w3 ⟨rfl, hw⟩
  rw [hw, B2]
  clear hw w3
  go_wp2
  go_ret
  exact ⟨rfl, hb0⟩

set_option maxHeartbeats 1000000 in
set_option maxRecDepth 20000 in
theorem checkRunE_vars (V F : Int) (s : Option Addr) (c : List Ins) (cap : Nat) (r : St) (vs : Option Addr) (vc : Nat) (ts : Option Addr) (tc : Nat) (ls : Option Addr) (lc : Nat) (w : World) (B1 : btw r.at_ 0 c.length = true) (n3 : ¬ r.taken < 0) (B2 : btw r.fin 0 5 = true) (hv : (r.vars.length : Int) ≠ V) :
    Calls Tryz.prog 35 #[.agg #[.int .i64 V, .int .i64 F, .slice s c.length cap], runV r vs vc ts tc ls lc] w fun e w' => e = .returned (.int .i64 1) ∧ Below w.heap.size w w' := by
  unfold runV
  have hb0 : Below w.heap.size w ((w.alloc (.cells #[.int .i64 V, .int .i64 F, .slice s c.length cap] 24)).alloc (.cells #[.int .i64 r.at_, .slice vs r.vars.length vc, .slice ts r.things.length tc, .int .i64 r.taken, .slice ls r.lines.length lc, .int .i64 r.fin] 76)) := by go_grown
  have P0 := (P3.new w V F s c.length cap).call (w' := ((w.alloc (.cells #[.int .i64 V, .int .i64 F, .slice s c.length cap] 24)).alloc (.cells #[.int .i64 r.at_, .slice vs r.vars.length vc, .slice ts r.things.length tc, .int .i64 r.taken, .slice ls r.lines.length lc, .int .i64 r.fin] 76))) (by go_grown)
  have Q0 := R6.new (w.alloc (.cells #[.int .i64 V, .int .i64 F, .slice s c.length cap] 24)) 76 (.int .i64 r.at_) (.slice vs r.vars.length vc) (.slice ts r.things.length tc) (.int .i64 r.taken) (.slice ls r.lines.length lc) (.int .i64 r.fin)
  rw [World.size_alloc] at Q0
  obtain ⟨⟨p0, p1, p2⟩, pz⟩ := id P0
  obtain ⟨⟨r0, r1, r2, r3, r4, r5⟩, rz, rf⟩ := id Q0
  clear rf P0 Q0
  have hvb : ((r.vars.length : Int) != V) = true := by simpa using hv
  clear hv
  go_enter Tryz.func35, Tryz.ntmps35
  go_wp2_with (go_at_call 73; fail)
  generalize ((w.alloc (.cells #[.int .i64 V, .int .i64 F, .slice s c.length cap] 24)).alloc (.cells #[.int .i64 r.at_, .slice vs r.vars.length vc, .slice ts r.things.length tc, .int .i64 r.taken, .slice ls r.lines.length lc, .int .i64 r.fin] 76)) = w2 at *
  refine (between_any _ _ _ _).mono ?_
  rintro e w3 ⟨rfl, hw⟩
  rw [hw, B1]
  clear hw w3
  go_wp2_with (go_at_call 73; fail)
  refine (between_any _ _ _ _).mono ?_
  rintro e w3 ⟨rfl, hw⟩
  rw [hw, B2]
  clear hw w3
  go_wp2
  go_ret
  exact ⟨rfl, hb0⟩

set_option maxHeartbeats 1000000 in
set_option maxRecDepth 20000 in
theorem checkRunE_many (V F : Int) (s : Option Addr) (c : List Ins) (cap : Nat) (r : St) (vs : Option Addr) (vc : Nat) (ts : Option Addr) (tc : Nat) (ls : Option Addr) (lc : Nat) (w : World) (B1 : btw r.at_ 0 c.length = true) (n3 : ¬ r.taken < 0) (B2 : btw r.fin 0 5 = true) (hv : (r.vars.length : Int) = V) (ht : 100 < r.things.length) :
    Calls Tryz.prog 35 #[.agg #[.int .i64 V, .int .i64 F, .slice s c.length cap], runV r vs vc ts tc ls lc] w fun e w' => e = .returned (.int .i64 2) ∧ Below w.heap.size w w' := by
  unfold runV
  have hb0 : Below w.heap.size w ((w.alloc (.cells #[.int .i64 V, .int .i64 F, .slice s c.length cap] 24)).alloc (.cells #[.int .i64 r.at_, .slice vs r.vars.length vc, .slice ts r.things.length tc, .int .i64 r.taken, .slice ls r.lines.length lc, .int .i64 r.fin] 76)) := by go_grown
  have P0 := (P3.new w V F s c.length cap).call (w' := ((w.alloc (.cells #[.int .i64 V, .int .i64 F, .slice s c.length cap] 24)).alloc (.cells #[.int .i64 r.at_, .slice vs r.vars.length vc, .slice ts r.things.length tc, .int .i64 r.taken, .slice ls r.lines.length lc, .int .i64 r.fin] 76))) (by go_grown)
  have Q0 := R6.new (w.alloc (.cells #[.int .i64 V, .int .i64 F, .slice s c.length cap] 24)) 76 (.int .i64 r.at_) (.slice vs r.vars.length vc) (.slice ts r.things.length tc) (.int .i64 r.taken) (.slice ls r.lines.length lc) (.int .i64 r.fin)
  rw [World.size_alloc] at Q0
  obtain ⟨⟨p0, p1, p2⟩, pz⟩ := id P0
  obtain ⟨⟨r0, r1, r2, r3, r4, r5⟩, rz, rf⟩ := id Q0
  clear rf P0 Q0
  have hvb : ((r.vars.length : Int) != V) = false := by simp [hv]
  have n7 : (100 : Int) < (r.things.length : Int) := by omega
  clear hv
  go_enter Tryz.func35, Tryz.ntmps35
  go_wp2_with (go_at_call 73; fail)
  generalize ((w.alloc (.cells #[.int .i64 V, .int .i64 F, .slice s c.length cap] 24)).alloc (.cells #[.int .i64 r.at_, .slice vs r.vars.length vc, .slice ts r.things.length tc, .int .i64 r.taken, .slice ls r.lines.length lc, .int .i64 r.fin] 76)) = w2 at *
  refine (between_any _ _ _ _).mono ?_
  rintro e w3 ⟨rfl, hw⟩
  rw [hw, B1]
  clear hw w3
  go_wp2_with (go_at_call 73; fail)
  refine (between_any _ _ _ _).mono ?_
  rintro e w3 ⟨rfl, hw⟩
  rw [hw, B2]
  clear hw w3
  go_wp2
  go_ret
  exact ⟨rfl, hb0⟩

theorem checkRunR_any (V F : Int) (s : Option Addr) (c : List Ins) (cap : Nat) (r : St) (vs : Option Addr) (vc : Nat) (ts : Option Addr) (tc : Nat) (ls : Option Addr) (lc : Nat) (w : World) (hc : CodeAt w s c) (hp : ProgOk V F c) (hl : LenSt r) (hr : RunAt w r vs ts ls) :
    Calls Tryz.prog 35 #[.agg #[.int .i64 V, .int .i64 F, .slice s c.length cap], runV r vs vc ts tc ls lc] w fun e w' => e = .returned (.int .i64 (ckRun V F c r)) ∧ Below w.heap.size w w' := by
  by_cases h1 : 0 ≤ r.at_ ∧ r.at_ ≤ c.length
  · have B1 := btw_true h1.1 h1.2
    by_cases h2 : r.taken < 0
    · rw [ckRun_range (by omega)]
      exact checkRunE_taken V F s c cap r vs vc ts tc ls lc w B1 h2
    by_cases h3 : 0 ≤ r.fin ∧ r.fin ≤ 5
    · have B2 := btw_true h3.1 h3.2
      rw [ckRun_rest (by omega)]
      by_cases h4 : (r.vars.length : Int) = V
      · rw [if_neg (by simpa using h4)]
        by_cases h5 : 100 < r.things.length
        · rw [if_pos h5]
          exact checkRunE_many V F s c cap r vs vc ts tc ls lc w B1 h2 B2 h4 h5
        · rw [if_neg h5]
          exact checkThingsR_any V F s c cap r vs vc ts tc ls lc w hc hp hl hr (by omega) h4 (by omega)
      · rw [if_pos h4]
        exact checkRunE_vars V F s c cap r vs vc ts tc ls lc w B1 h2 B2 h4
    · rw [ckRun_range (by omega)]
      exact checkRunE_fin V F s c cap r vs vc ts tc ls lc w B1 h2 (by simp [btw]; omega)
  · rw [ckRun_range (by omega)]
    exact checkRunE_at V F s c cap r vs vc ts tc ls lc w (by simp [btw]; omega)
end Go.Proofs.YtmapdpcfanecdaaGreat
