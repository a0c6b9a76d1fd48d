/- Walks over package picture: Holds. -/
import Derived.Test.YtmapdpcfanecdaaGreatKpicxp48
import Derived.Test.YtmapdpcfanecdaaGreatKpicxp37
import Derived.Test.YtmapdpcfanecdaaGreatKpicxp50
import Derived.Test.YtmapdpcfanecdaaGreatKpicxp07
import Derived.Deep.DeepCutAuto
namespace Go.Proofs.YtmapdpcfanecdaaGreat
set_option linter.unusedVariables false
set_option linter.unusedSimpArgs false
open Go.RowKit
attribute [local go_sem ↓] Go.wp_at_zero Go.wp_at_succ

set_option maxHeartbeats 2000000 in
set_option maxRecDepth 10000 in
theorem holdsP_err1 (V F : Int) (s : Option Addr) (c : List Ins) (cap : Nat) (x : Pic) (vs1 : Option Addr) (vc1 : Nat) (fs1 : Option Addr) (fc1 : Nat) (r : St) (rv : Option Addr) (rvc : Nat) (rt : Option Addr) (rtc : Nat) (rl : Option Addr) (rlc : Nat) (w : World) (hcd : CodeAt w s c) (hx : PicAt w x vs1 fs1) (h1 : x.vars.length ≤ vc1 ∧ vc1 ≤ maxLen) (h2 : x.flds.length ≤ fc1 ∧ fc1 ≤ maxLen) (hl : LenSt r) (hr : RunAt w r rv rt rl) (h : ckPics V F c [x] ≠ 0) :
    Calls Tryz.prog 34 #[pv V F s c cap, xv x vs1 vc1 fs1 fc1, runV r rv rvc rt rtc rl rlc] w fun e w' => e = .returned (.tuple #[.bool false, .int .i64 (ckPics V F c [x])]) ∧ Below w.heap.size w w' := by
  have B0 : Below w.heap.size w (((w.alloc (.cells #[.int .i64 V, .int .i64 F, .slice s c.length cap] 24)).alloc (.cells #[.bool x.none, .slice vs1 x.vars.length vc1, .slice fs1 x.flds.length fc1] 58)).alloc (.cells #[.int .i64 r.at_, .slice rv r.vars.length rvc, .slice rt r.things.length rtc, .int .i64 r.taken, .slice rl r.lines.length rlc, .int .i64 r.fin] 76)) := by go_grown
  have P0 := (PrAt.new w V F s c cap).call (w' := (((w.alloc (.cells #[.int .i64 V, .int .i64 F, .slice s c.length cap] 24)).alloc (.cells #[.bool x.none, .slice vs1 x.vars.length vc1, .slice fs1 x.flds.length fc1] 58)).alloc (.cells #[.int .i64 r.at_, .slice rv r.vars.length rvc, .slice rt r.things.length rtc, .int .i64 r.taken, .slice rl r.lines.length rlc, .int .i64 r.fin] 76))) (by go_grown)
  have X0 := (XAt.new (w.alloc (.cells #[.int .i64 V, .int .i64 F, .slice s c.length cap] 24)) x vs1 vc1 fs1 fc1).call (w' := (((w.alloc (.cells #[.int .i64 V, .int .i64 F, .slice s c.length cap] 24)).alloc (.cells #[.bool x.none, .slice vs1 x.vars.length vc1, .slice fs1 x.flds.length fc1] 58)).alloc (.cells #[.int .i64 r.at_, .slice rv r.vars.length rvc, .slice rt r.things.length rtc, .int .i64 r.taken, .slice rl r.lines.length rlc, .int .i64 r.fin] 76))) (by go_grown)
  have R0 := R6.new ((w.alloc (.cells #[.int .i64 V, .int .i64 F, .slice s c.length cap] 24)).alloc (.cells #[.bool x.none, .slice vs1 x.vars.length vc1, .slice fs1 x.flds.length fc1] 58)) 76 (.int .i64 r.at_) (.slice rv r.vars.length rvc) (.slice rt r.things.length rtc) (.int .i64 r.taken) (.slice rl r.lines.length rlc) (.int .i64 r.fin)
  rw [World.size_alloc] at X0
  rw [World.size_alloc, World.size_alloc] at R0
  have C0 := hcd.below B0 (Nat.le_refl _)
  have PX := hx.below B0 (Nat.le_refl _)
  have HC := hideH (checkAllP_any V F s c cap (some ⟨(((w.alloc (.cells #[.int .i64 V, .int .i64 F, .slice s c.length cap] 24)).alloc (.cells #[.bool x.none, .slice vs1 x.vars.length vc1, .slice fs1 x.flds.length fc1] 58)).alloc (.cells #[.int .i64 r.at_, .slice rv r.vars.length rvc, .slice rt r.things.length rtc, .int .i64 r.taken, .slice rl r.lines.length rlc, .int .i64 r.fin] 76)).heap.size, 0, none⟩) [x] 1 ((((w.alloc (.cells #[.int .i64 V, .int .i64 F, .slice s c.length cap] 24)).alloc (.cells #[.bool x.none, .slice vs1 x.vars.length vc1, .slice fs1 x.flds.length fc1] 58)).alloc (.cells #[.int .i64 r.at_, .slice rv r.vars.length rvc, .slice rt r.things.length rtc, .int .i64 r.taken, .slice rl r.lines.length rlc, .int .i64 r.fin] 76)).alloc (.cells #[.bool x.none, .slice vs1 x.vars.length vc1, .slice fs1 x.flds.length fc1] 58)) (C0.call (by go_grown)) (XsAt.new1 (((w.alloc (.cells #[.int .i64 V, .int .i64 F, .slice s c.length cap] 24)).alloc (.cells #[.bool x.none, .slice vs1 x.vars.length vc1, .slice fs1 x.flds.length fc1] 58)).alloc (.cells #[.int .i64 r.at_, .slice rv r.vars.length rvc, .slice rt r.things.length rtc, .int .i64 r.taken, .slice rl r.lines.length rlc, .int .i64 r.fin] 76)) x vs1 vc1 fs1 fc1 PX h1 h2) (by simp))
  have hbz : Below (((w.alloc (.cells #[.int .i64 V, .int .i64 F, .slice s c.length cap] 24)).alloc (.cells #[.bool x.none, .slice vs1 x.vars.length vc1, .slice fs1 x.flds.length fc1] 58)).alloc (.cells #[.int .i64 r.at_, .slice rv r.vars.length rvc, .slice rt r.things.length rtc, .int .i64 r.taken, .slice rl r.lines.length rlc, .int .i64 r.fin] 76)).heap.size (((w.alloc (.cells #[.int .i64 V, .int .i64 F, .slice s c.length cap] 24)).alloc (.cells #[.bool x.none, .slice vs1 x.vars.length vc1, .slice fs1 x.flds.length fc1] 58)).alloc (.cells #[.int .i64 r.at_, .slice rv r.vars.length rvc, .slice rt r.things.length rtc, .int .i64 r.taken, .slice rl r.lines.length rlc, .int .i64 r.fin] 76)) ((((w.alloc (.cells #[.int .i64 V, .int .i64 F, .slice s c.length cap] 24)).alloc (.cells #[.bool x.none, .slice vs1 x.vars.length vc1, .slice fs1 x.flds.length fc1] 58)).alloc (.cells #[.int .i64 r.at_, .slice rv r.vars.length rvc, .slice rt r.things.length rtc, .int .i64 r.taken, .slice rl r.lines.length rlc, .int .i64 r.fin] 76)).alloc (.cells #[.bool x.none, .slice vs1 x.vars.length vc1, .slice fs1 x.flds.length fc1] 58)) := by go_grown
  have e3 : (((w.alloc (.cells #[.int .i64 V, .int .i64 F, .slice s c.length cap] 24)).alloc (.cells #[.bool x.none, .slice vs1 x.vars.length vc1, .slice fs1 x.flds.length fc1] 58)).alloc (.cells #[.int .i64 r.at_, .slice rv r.vars.length rvc, .slice rt r.things.length rtc, .int .i64 r.taken, .slice rl r.lines.length rlc, .int .i64 r.fin] 76)).heap.size = w.heap.size + 1 + 1 + 1 := by simp
  have HB := hideH hbz
  rw [e3] at HC
  unfold runV
  have d1 : (ckPics V F c [x] != 0) = true := by simpa using h
  generalize ckPics V F c [x] = ce at *
  clear h hcd hx hr PX P0 X0 R0 C0 hbz
  go_enter Tryz.func34, Tryz.ntmps34
  go_wp2_with (go_at_call 70; fail)
  refine HC.out.mono ?_
  rintro e w1 ⟨rfl, hb1⟩
  have hb01 : Below (((w.alloc (.cells #[.int .i64 V, .int .i64 F, .slice s c.length cap] 24)).alloc (.cells #[.bool x.none, .slice vs1 x.vars.length vc1, .slice fs1 x.flds.length fc1] 58)).alloc (.cells #[.int .i64 r.at_, .slice rv r.vars.length rvc, .slice rt r.things.length rtc, .int .i64 r.taken, .slice rl r.lines.length rlc, .int .i64 r.fin] 76)).heap.size (((w.alloc (.cells #[.int .i64 V, .int .i64 F, .slice s c.length cap] 24)).alloc (.cells #[.bool x.none, .slice vs1 x.vars.length vc1, .slice fs1 x.flds.length fc1] 58)).alloc (.cells #[.int .i64 r.at_, .slice rv r.vars.length rvc, .slice rt r.things.length rtc, .int .i64 r.taken, .slice rl r.lines.length rlc, .int .i64 r.fin] 76)) w1 := HB.out.trans (hb1.mono (by first | exact HB.out.size | (simp; omega) | omega))
  have B1 := B0.trans (hb01.mono B0.size)
  clear HB hb1 hb01 B0 HC e3
  go_wp2
  refine bodyPost_ret (v := .tuple #[.bool false, .int .i64 ce]) (by simp [results, Tryz.results34, go_sem]) rfl ⟨rfl, B1⟩
set_option maxHeartbeats 2000000 in
set_option maxRecDepth 10000 in
theorem holdsP_err2 (V F : Int) (s : Option Addr) (c : List Ins) (cap : Nat) (x : Pic) (vs1 : Option Addr) (vc1 : Nat) (fs1 : Option Addr) (fc1 : Nat) (r : St) (rv : Option Addr) (rvc : Nat) (rt : Option Addr) (rtc : Nat) (rl : Option Addr) (rlc : Nat) (w : World) (hcd : CodeAt w s c) (hx : PicAt w x vs1 fs1) (h1 : x.vars.length ≤ vc1 ∧ vc1 ≤ maxLen) (h2 : x.flds.length ≤ fc1 ∧ fc1 ≤ maxLen) (hl : LenSt r) (hr : RunAt w r rv rt rl) (h : ckPics V F c [x] = 0) (h' : ckBoth V F c r ≠ 0) :
    Calls Tryz.prog 34 #[pv V F s c cap, xv x vs1 vc1 fs1 fc1, runV r rv rvc rt rtc rl rlc] w fun e w' => e = .returned (.tuple #[.bool false, .int .i64 (ckBoth V F c r)]) ∧ Below w.heap.size w w' := by
  have B0 : Below w.heap.size w (((w.alloc (.cells #[.int .i64 V, .int .i64 F, .slice s c.length cap] 24)).alloc (.cells #[.bool x.none, .slice vs1 x.vars.length vc1, .slice fs1 x.flds.length fc1] 58)).alloc (.cells #[.int .i64 r.at_, .slice rv r.vars.length rvc, .slice rt r.things.length rtc, .int .i64 r.taken, .slice rl r.lines.length rlc, .int .i64 r.fin] 76)) := by go_grown
  have P0 := (PrAt.new w V F s c cap).call (w' := (((w.alloc (.cells #[.int .i64 V, .int .i64 F, .slice s c.length cap] 24)).alloc (.cells #[.bool x.none, .slice vs1 x.vars.length vc1, .slice fs1 x.flds.length fc1] 58)).alloc (.cells #[.int .i64 r.at_, .slice rv r.vars.length rvc, .slice rt r.things.length rtc, .int .i64 r.taken, .slice rl r.lines.length rlc, .int .i64 r.fin] 76))) (by go_grown)
  have X0 := (XAt.new (w.alloc (.cells #[.int .i64 V, .int .i64 F, .slice s c.length cap] 24)) x vs1 vc1 fs1 fc1).call (w' := (((w.alloc (.cells #[.int .i64 V, .int .i64 F, .slice s c.length cap] 24)).alloc (.cells #[.bool x.none, .slice vs1 x.vars.length vc1, .slice fs1 x.flds.length fc1] 58)).alloc (.cells #[.int .i64 r.at_, .slice rv r.vars.length rvc, .slice rt r.things.length rtc, .int .i64 r.taken, .slice rl r.lines.length rlc, .int .i64 r.fin] 76))) (by go_grown)
  have R0 := R6.new ((w.alloc (.cells #[.int .i64 V, .int .i64 F, .slice s c.length cap] 24)).alloc (.cells #[.bool x.none, .slice vs1 x.vars.length vc1, .slice fs1 x.flds.length fc1] 58)) 76 (.int .i64 r.at_) (.slice rv r.vars.length rvc) (.slice rt r.things.length rtc) (.int .i64 r.taken) (.slice rl r.lines.length rlc) (.int .i64 r.fin)
  rw [World.size_alloc] at X0
  rw [World.size_alloc, World.size_alloc] at R0
  have C0 := hcd.below B0 (Nat.le_refl _)
  have PX := hx.below B0 (Nat.le_refl _)
  have HC := hideH (checkAllP_any V F s c cap (some ⟨(((w.alloc (.cells #[.int .i64 V, .int .i64 F, .slice s c.length cap] 24)).alloc (.cells #[.bool x.none, .slice vs1 x.vars.length vc1, .slice fs1 x.flds.length fc1] 58)).alloc (.cells #[.int .i64 r.at_, .slice rv r.vars.length rvc, .slice rt r.things.length rtc, .int .i64 r.taken, .slice rl r.lines.length rlc, .int .i64 r.fin] 76)).heap.size, 0, none⟩) [x] 1 ((((w.alloc (.cells #[.int .i64 V, .int .i64 F, .slice s c.length cap] 24)).alloc (.cells #[.bool x.none, .slice vs1 x.vars.length vc1, .slice fs1 x.flds.length fc1] 58)).alloc (.cells #[.int .i64 r.at_, .slice rv r.vars.length rvc, .slice rt r.things.length rtc, .int .i64 r.taken, .slice rl r.lines.length rlc, .int .i64 r.fin] 76)).alloc (.cells #[.bool x.none, .slice vs1 x.vars.length vc1, .slice fs1 x.flds.length fc1] 58)) (C0.call (by go_grown)) (XsAt.new1 (((w.alloc (.cells #[.int .i64 V, .int .i64 F, .slice s c.length cap] 24)).alloc (.cells #[.bool x.none, .slice vs1 x.vars.length vc1, .slice fs1 x.flds.length fc1] 58)).alloc (.cells #[.int .i64 r.at_, .slice rv r.vars.length rvc, .slice rt r.things.length rtc, .int .i64 r.taken, .slice rl r.lines.length rlc, .int .i64 r.fin] 76)) x vs1 vc1 fs1 fc1 PX h1 h2) (by simp))
  have hbz : Below (((w.alloc (.cells #[.int .i64 V, .int .i64 F, .slice s c.length cap] 24)).alloc (.cells #[.bool x.none, .slice vs1 x.vars.length vc1, .slice fs1 x.flds.length fc1] 58)).alloc (.cells #[.int .i64 r.at_, .slice rv r.vars.length rvc, .slice rt r.things.length rtc, .int .i64 r.taken, .slice rl r.lines.length rlc, .int .i64 r.fin] 76)).heap.size (((w.alloc (.cells #[.int .i64 V, .int .i64 F, .slice s c.length cap] 24)).alloc (.cells #[.bool x.none, .slice vs1 x.vars.length vc1, .slice fs1 x.flds.length fc1] 58)).alloc (.cells #[.int .i64 r.at_, .slice rv r.vars.length rvc, .slice rt r.things.length rtc, .int .i64 r.taken, .slice rl r.lines.length rlc, .int .i64 r.fin] 76)) ((((w.alloc (.cells #[.int .i64 V, .int .i64 F, .slice s c.length cap] 24)).alloc (.cells #[.bool x.none, .slice vs1 x.vars.length vc1, .slice fs1 x.flds.length fc1] 58)).alloc (.cells #[.int .i64 r.at_, .slice rv r.vars.length rvc, .slice rt r.things.length rtc, .int .i64 r.taken, .slice rl r.lines.length rlc, .int .i64 r.fin] 76)).alloc (.cells #[.bool x.none, .slice vs1 x.vars.length vc1, .slice fs1 x.flds.length fc1] 58)) := by go_grown
  have e3 : (((w.alloc (.cells #[.int .i64 V, .int .i64 F, .slice s c.length cap] 24)).alloc (.cells #[.bool x.none, .slice vs1 x.vars.length vc1, .slice fs1 x.flds.length fc1] 58)).alloc (.cells #[.int .i64 r.at_, .slice rv r.vars.length rvc, .slice rt r.things.length rtc, .int .i64 r.taken, .slice rl r.lines.length rlc, .int .i64 r.fin] 76)).heap.size = w.heap.size + 1 + 1 + 1 := by simp
  have HB := hideH hbz
  rw [e3] at HC
  unfold runV
  have HRC : Hid (∀ wx, Below w.heap.size w wx → Calls Tryz.prog 78 #[.agg #[.int .i64 V, .int .i64 F, .slice s c.length cap], .agg #[.int .i64 r.at_, .slice rv r.vars.length rvc, .slice rt r.things.length rtc, .int .i64 r.taken, .slice rl r.lines.length rlc, .int .i64 r.fin]] wx fun e w' => e = .returned (.int .i64 (ckBoth V F c r)) ∧ Below wx.heap.size wx w') := fun wx hx => runCheck_any V F s c cap r rv rvc rt rtc rl rlc wx (hcd.below hx (Nat.le_refl _)) hl (hr.below hx (Nat.le_refl _))
  have d1 : (ckBoth V F c r != 0) = true := by simpa using h'
  rw [h] at HC
  generalize ckBoth V F c r = ce at *
  clear h h' hcd hx hr PX C0 hbz
  go_enter Tryz.func34, Tryz.ntmps34
  go_wp2_with (go_at_call 70; fail)
  refine HC.out.mono ?_
  rintro e w1 ⟨rfl, hb1⟩
  have hb01 : Below (((w.alloc (.cells #[.int .i64 V, .int .i64 F, .slice s c.length cap] 24)).alloc (.cells #[.bool x.none, .slice vs1 x.vars.length vc1, .slice fs1 x.flds.length fc1] 58)).alloc (.cells #[.int .i64 r.at_, .slice rv r.vars.length rvc, .slice rt r.things.length rtc, .int .i64 r.taken, .slice rl r.lines.length rlc, .int .i64 r.fin] 76)).heap.size (((w.alloc (.cells #[.int .i64 V, .int .i64 F, .slice s c.length cap] 24)).alloc (.cells #[.bool x.none, .slice vs1 x.vars.length vc1, .slice fs1 x.flds.length fc1] 58)).alloc (.cells #[.int .i64 r.at_, .slice rv r.vars.length rvc, .slice rt r.things.length rtc, .int .i64 r.taken, .slice rl r.lines.length rlc, .int .i64 r.fin] 76)) w1 := HB.out.trans (hb1.mono (by first | exact HB.out.size | (simp; omega) | omega))
  have B1 := B0.trans (hb01.mono B0.size)
  have R1 := R0.call hb01
  have X1 := X0.call hb01
  have P1 := P0.call hb01
  have z1 : w.heap.size + 1 + 1 + 1 ≤ w1.heap.size := by have := hb01.size; omega
  clear HB hb1 hb01 R0 X0 P0 HC e3
  obtain ⟨⟨p0, p1, p2⟩, pz⟩ := id P1
  obtain ⟨⟨r0, r1, r2, r3, r4, r5⟩, rz, rf⟩ := id R1
  go_wp2_with (go_at_call 78; fail)
  refine (HRC.out w1 B1).mono ?_
  rintro e w2 ⟨rfl, hb2⟩
  have R2 := R1.call hb2
  have X2 := X1.call hb2
  have P2 := P1.call hb2
  have B2 := B1.trans (hb2.mono B1.size)
  have z2 : w.heap.size + 1 + 1 + 1 ≤ w2.heap.size := Nat.le_trans z1 hb2.size
  clear hb2 R1 X1 P1 B1 z1 p0 p1 p2 pz r0 r1 r2 r3 r4 r5 rz rf HRC
  go_wp2
  refine bodyPost_ret (v := .tuple #[.bool false, .int .i64 ce]) (by simp [results, Tryz.results34, go_sem]) rfl ⟨rfl, B2⟩
set_option maxHeartbeats 2000000 in
set_option maxRecDepth 10000 in
theorem holdsP_none (V F : Int) (s : Option Addr) (c : List Ins) (cap : Nat) (x : Pic) (vs1 : Option Addr) (vc1 : Nat) (fs1 : Option Addr) (fc1 : Nat) (r : St) (rv : Option Addr) (rvc : Nat) (rt : Option Addr) (rtc : Nat) (rl : Option Addr) (rlc : Nat) (w : World) (hcd : CodeAt w s c) (hx : PicAt w x vs1 fs1) (h1 : x.vars.length ≤ vc1 ∧ vc1 ≤ maxLen) (h2 : x.flds.length ≤ fc1 ∧ fc1 ≤ maxLen) (hl : LenSt r) (hr : RunAt w r rv rt rl) (h : ckPics V F c [x] = 0) (h' : ckBoth V F c r = 0) (hn : x.none = true) :
    Calls Tryz.prog 34 #[pv V F s c cap, xv x vs1 vc1 fs1 fc1, runV r rv rvc rt rtc rl rlc] w fun e w' => e = .returned (.tuple #[.bool false, .int .i64 0]) ∧ Below w.heap.size w w' := by
  have B0 : Below w.heap.size w (((w.alloc (.cells #[.int .i64 V, .int .i64 F, .slice s c.length cap] 24)).alloc (.cells #[.bool x.none, .slice vs1 x.vars.length vc1, .slice fs1 x.flds.length fc1] 58)).alloc (.cells #[.int .i64 r.at_, .slice rv r.vars.length rvc, .slice rt r.things.length rtc, .int .i64 r.taken, .slice rl r.lines.length rlc, .int .i64 r.fin] 76)) := by go_grown
  have P0 := (PrAt.new w V F s c cap).call (w' := (((w.alloc (.cells #[.int .i64 V, .int .i64 F, .slice s c.length cap] 24)).alloc (.cells #[.bool x.none, .slice vs1 x.vars.length vc1, .slice fs1 x.flds.length fc1] 58)).alloc (.cells #[.int .i64 r.at_, .slice rv r.vars.length rvc, .slice rt r.things.length rtc, .int .i64 r.taken, .slice rl r.lines.length rlc, .int .i64 r.fin] 76))) (by go_grown)
  have X0 := (XAt.new (w.alloc (.cells #[.int .i64 V, .int .i64 F, .slice s c.length cap] 24)) x vs1 vc1 fs1 fc1).call (w' := (((w.alloc (.cells #[.int .i64 V, .int .i64 F, .slice s c.length cap] 24)).alloc (.cells #[.bool x.none, .slice vs1 x.vars.length vc1, .slice fs1 x.flds.length fc1] 58)).alloc (.cells #[.int .i64 r.at_, .slice rv r.vars.length rvc, .slice rt r.things.length rtc, .int .i64 r.taken, .slice rl r.lines.length rlc, .int .i64 r.fin] 76))) (by go_grown)
  have R0 := R6.new ((w.alloc (.cells #[.int .i64 V, .int .i64 F, .slice s c.length cap] 24)).alloc (.cells #[.bool x.none, .slice vs1 x.vars.length vc1, .slice fs1 x.flds.length fc1] 58)) 76 (.int .i64 r.at_) (.slice rv r.vars.length rvc) (.slice rt r.things.length rtc) (.int .i64 r.taken) (.slice rl r.lines.length rlc) (.int .i64 r.fin)
  rw [World.size_alloc] at X0
  rw [World.size_alloc, World.size_alloc] at R0
  have C0 := hcd.below B0 (Nat.le_refl _)
  have PX := hx.below B0 (Nat.le_refl _)
  have HC := hideH (checkAllP_any V F s c cap (some ⟨(((w.alloc (.cells #[.int .i64 V, .int .i64 F, .slice s c.length cap] 24)).alloc (.cells #[.bool x.none, .slice vs1 x.vars.length vc1, .slice fs1 x.flds.length fc1] 58)).alloc (.cells #[.int .i64 r.at_, .slice rv r.vars.length rvc, .slice rt r.things.length rtc, .int .i64 r.taken, .slice rl r.lines.length rlc, .int .i64 r.fin] 76)).heap.size, 0, none⟩) [x] 1 ((((w.alloc (.cells #[.int .i64 V, .int .i64 F, .slice s c.length cap] 24)).alloc (.cells #[.bool x.none, .slice vs1 x.vars.length vc1, .slice fs1 x.flds.length fc1] 58)).alloc (.cells #[.int .i64 r.at_, .slice rv r.vars.length rvc, .slice rt r.things.length rtc, .int .i64 r.taken, .slice rl r.lines.length rlc, .int .i64 r.fin] 76)).alloc (.cells #[.bool x.none, .slice vs1 x.vars.length vc1, .slice fs1 x.flds.length fc1] 58)) (C0.call (by go_grown)) (XsAt.new1 (((w.alloc (.cells #[.int .i64 V, .int .i64 F, .slice s c.length cap] 24)).alloc (.cells #[.bool x.none, .slice vs1 x.vars.length vc1, .slice fs1 x.flds.length fc1] 58)).alloc (.cells #[.int .i64 r.at_, .slice rv r.vars.length rvc, .slice rt r.things.length rtc, .int .i64 r.taken, .slice rl r.lines.length rlc, .int .i64 r.fin] 76)) x vs1 vc1 fs1 fc1 PX h1 h2) (by simp))
  have hbz : Below (((w.alloc (.cells #[.int .i64 V, .int .i64 F, .slice s c.length cap] 24)).alloc (.cells #[.bool x.none, .slice vs1 x.vars.length vc1, .slice fs1 x.flds.length fc1] 58)).alloc (.cells #[.int .i64 r.at_, .slice rv r.vars.length rvc, .slice rt r.things.length rtc, .int .i64 r.taken, .slice rl r.lines.length rlc, .int .i64 r.fin] 76)).heap.size (((w.alloc (.cells #[.int .i64 V, .int .i64 F, .slice s c.length cap] 24)).alloc (.cells #[.bool x.none, .slice vs1 x.vars.length vc1, .slice fs1 x.flds.length fc1] 58)).alloc (.cells #[.int .i64 r.at_, .slice rv r.vars.length rvc, .slice rt r.things.length rtc, .int .i64 r.taken, .slice rl r.lines.length rlc, .int .i64 r.fin] 76)) ((((w.alloc (.cells #[.int .i64 V, .int .i64 F, .slice s c.length cap] 24)).alloc (.cells #[.bool x.none, .slice vs1 x.vars.length vc1, .slice fs1 x.flds.length fc1] 58)).alloc (.cells #[.int .i64 r.at_, .slice rv r.vars.length rvc, .slice rt r.things.length rtc, .int .i64 r.taken, .slice rl r.lines.length rlc, .int .i64 r.fin] 76)).alloc (.cells #[.bool x.none, .slice vs1 x.vars.length vc1, .slice fs1 x.flds.length fc1] 58)) := by go_grown
  have e3 : (((w.alloc (.cells #[.int .i64 V, .int .i64 F, .slice s c.length cap] 24)).alloc (.cells #[.bool x.none, .slice vs1 x.vars.length vc1, .slice fs1 x.flds.length fc1] 58)).alloc (.cells #[.int .i64 r.at_, .slice rv r.vars.length rvc, .slice rt r.things.length rtc, .int .i64 r.taken, .slice rl r.lines.length rlc, .int .i64 r.fin] 76)).heap.size = w.heap.size + 1 + 1 + 1 := by simp
  have HB := hideH hbz
  rw [e3] at HC
  unfold runV
  have HRC : Hid (∀ wx, Below w.heap.size w wx → Calls Tryz.prog 78 #[.agg #[.int .i64 V, .int .i64 F, .slice s c.length cap], .agg #[.int .i64 r.at_, .slice rv r.vars.length rvc, .slice rt r.things.length rtc, .int .i64 r.taken, .slice rl r.lines.length rlc, .int .i64 r.fin]] wx fun e w' => e = .returned (.int .i64 (ckBoth V F c r)) ∧ Below wx.heap.size wx w') := fun wx hx => runCheck_any V F s c cap r rv rvc rt rtc rl rlc wx (hcd.below hx (Nat.le_refl _)) hl (hr.below hx (Nat.le_refl _))
  rw [h] at HC
  rw [h'] at HRC
  have HNN := hideH hn
  clear h h' hcd hx hr PX C0 hbz hn
  go_enter Tryz.func34, Tryz.ntmps34
  go_wp2_with (go_at_call 70; fail)
  refine HC.out.mono ?_
  rintro e w1 ⟨rfl, hb1⟩
  have hb01 : Below (((w.alloc (.cells #[.int .i64 V, .int .i64 F, .slice s c.length cap] 24)).alloc (.cells #[.bool x.none, .slice vs1 x.vars.length vc1, .slice fs1 x.flds.length fc1] 58)).alloc (.cells #[.int .i64 r.at_, .slice rv r.vars.length rvc, .slice rt r.things.length rtc, .int .i64 r.taken, .slice rl r.lines.length rlc, .int .i64 r.fin] 76)).heap.size (((w.alloc (.cells #[.int .i64 V, .int .i64 F, .slice s c.length cap] 24)).alloc (.cells #[.bool x.none, .slice vs1 x.vars.length vc1, .slice fs1 x.flds.length fc1] 58)).alloc (.cells #[.int .i64 r.at_, .slice rv r.vars.length rvc, .slice rt r.things.length rtc, .int .i64 r.taken, .slice rl r.lines.length rlc, .int .i64 r.fin] 76)) w1 := HB.out.trans (hb1.mono (by first | exact HB.out.size | (simp; omega) | omega))
  have B1 := B0.trans (hb01.mono B0.size)
  have R1 := R0.call hb01
  have X1 := X0.call hb01
  have P1 := P0.call hb01
  have z1 : w.heap.size + 1 + 1 + 1 ≤ w1.heap.size := by have := hb01.size; omega
  clear HB hb1 hb01 R0 X0 P0 HC e3
  obtain ⟨⟨p0, p1, p2⟩, pz⟩ := id P1
  obtain ⟨⟨r0, r1, r2, r3, r4, r5⟩, rz, rf⟩ := id R1
  go_wp2_with (go_at_call 78; fail)
  refine (HRC.out w1 B1).mono ?_
  rintro e w2 ⟨rfl, hb2⟩
  have R2 := R1.call hb2
  have X2 := X1.call hb2
  have P2 := P1.call hb2
  have B2 := B1.trans (hb2.mono B1.size)
  have z2 : w.heap.size + 1 + 1 + 1 ≤ w2.heap.size := Nat.le_trans z1 hb2.size
  clear hb2 R1 X1 P1 B1 z1 p0 p1 p2 pz r0 r1 r2 r3 r4 r5 rz rf HRC
  obtain ⟨⟨a0, a1, a2⟩, az, -⟩ := id X2
  rw [HNN.out] at a0
  go_wp2
  refine bodyPost_ret (v := .tuple #[.bool false, .int .i64 0]) (by simp [results, Tryz.results34, go_sem]) rfl ⟨rfl, B2⟩
set_option maxHeartbeats 4000000 in
set_option maxRecDepth 10000 in
theorem holdsP_main (V F : Int) (s : Option Addr) (c : List Ins) (cap : Nat) (x : Pic) (vs1 : Option Addr) (vc1 : Nat) (fs1 : Option Addr) (fc1 : Nat) (r : St) (rv : Option Addr) (rvc : Nat) (rt : Option Addr) (rtc : Nat) (rl : Option Addr) (rlc : Nat) (w : World) (hcd : CodeAt w s c) (hx : PicAt w x vs1 fs1) (h1 : x.vars.length ≤ vc1 ∧ vc1 ≤ maxLen) (h2 : x.flds.length ≤ fc1 ∧ fc1 ≤ maxLen) (hl : LenSt r) (hr : RunAt w r rv rt rl) (h : ckPics V F c [x] = 0) (h0 : ckProg V F c = 0) (hck : ckPic V F c x = 0) (h' : ckBoth V F c r = 0) (hn : x.none = false) (hok : RunOk V F c r) :
    Calls Tryz.prog 34 #[pv V F s c cap, xv x vs1 vc1 fs1 fc1, runV r rv rvc rt rtc rl rlc] w fun e w' => e = .returned (.tuple #[.bool (showsPic x r), .int .i64 0]) ∧ Below w.heap.size w w' := by
  have kx := picOk_of hck hn
  obtain ⟨⟨_, hV8⟩, ⟨hF0, hF3⟩, h60⟩ := ckProg_lim h0
  have lv1 := kx.vars
  have lv2 := hok.vars
  have lf := kx.flds
  have lt100 := hok.things
  have ESP : Hid (showsPic x r = (showsRow r x.vars r.vars && r.things.all fun t => showsRow r (x.flds.getD t.site.toNat []) t.fs)) := by show _ = _; unfold showsPic; rw [hn]; rfl
  obtain ⟨res, HRES, hres⟩ : ∃ q, Hid (q = (showsRow r x.vars r.vars && r.things.all fun t => showsRow r (x.flds.getD t.site.toNat []) t.fs)) ∧ showsPic x r = q := ⟨_, rfl, ESP.out⟩
  rw [hres]
  clear hres ESP
  have HROW : Hid (∀ (L : List Gs) (gs : Option Addr) (gc : Nat) (vl : List Val) (vs : Option Addr) (vc : Nat) (wx : World), Below w.heap.size w wx → GsAt wx gs L → ValsAt wx vs vl → (∀ g ∈ L, ckGs c g = 0) → (∀ v ∈ vl, okVal r.things.length v) → L.length = vl.length → vl.length ≤ 1000 → Calls Tryz.prog 79 #[pv V F s c cap, .slice gs L.length gc, .slice vs vl.length vc, .slice rt r.things.length rtc] wx fun e w' => e = .returned (.bool (showsRow r L vl)) ∧ Below wx.heap.size wx w') := fun L gs gc vl vs vc wx hb k1 k2 k3 k4 k5 k6 => holdsRowP_any V F s c cap r L gs gc vl vs vc rt rtc wx (hcd.below hb (Nat.le_refl _)) k1 k2 (hr.2.1.below hb (Nat.le_refl _)) h0 k3 k4 k5 k6
  have HVR : Hid (∀ wx, Below w.heap.size w wx → Calls Tryz.prog 79 #[pv V F s c cap, .slice vs1 x.vars.length vc1, .slice rv r.vars.length rvc, .slice rt r.things.length rtc] wx fun e w' => e = .returned (.bool (showsRow r x.vars r.vars)) ∧ Below wx.heap.size wx w') := fun wx hb => HROW.out x.vars vs1 vc1 r.vars rv rvc wx hb (hx.1.below hb (Nat.le_refl _)) (hr.1.below hb (Nat.le_refl _)) kx.gv hok.vals (by omega) (by omega)
  have B0 : Below w.heap.size w (((w.alloc (.cells #[.int .i64 V, .int .i64 F, .slice s c.length cap] 24)).alloc (.cells #[.bool x.none, .slice vs1 x.vars.length vc1, .slice fs1 x.flds.length fc1] 58)).alloc (.cells #[.int .i64 r.at_, .slice rv r.vars.length rvc, .slice rt r.things.length rtc, .int .i64 r.taken, .slice rl r.lines.length rlc, .int .i64 r.fin] 76)) := by go_grown
  have P0 := (PrAt.new w V F s c cap).call (w' := (((w.alloc (.cells #[.int .i64 V, .int .i64 F, .slice s c.length cap] 24)).alloc (.cells #[.bool x.none, .slice vs1 x.vars.length vc1, .slice fs1 x.flds.length fc1] 58)).alloc (.cells #[.int .i64 r.at_, .slice rv r.vars.length rvc, .slice rt r.things.length rtc, .int .i64 r.taken, .slice rl r.lines.length rlc, .int .i64 r.fin] 76))) (by go_grown)
  have X0 := (XAt.new (w.alloc (.cells #[.int .i64 V, .int .i64 F, .slice s c.length cap] 24)) x vs1 vc1 fs1 fc1).call (w' := (((w.alloc (.cells #[.int .i64 V, .int .i64 F, .slice s c.length cap] 24)).alloc (.cells #[.bool x.none, .slice vs1 x.vars.length vc1, .slice fs1 x.flds.length fc1] 58)).alloc (.cells #[.int .i64 r.at_, .slice rv r.vars.length rvc, .slice rt r.things.length rtc, .int .i64 r.taken, .slice rl r.lines.length rlc, .int .i64 r.fin] 76))) (by go_grown)
  have R0 := R6.new ((w.alloc (.cells #[.int .i64 V, .int .i64 F, .slice s c.length cap] 24)).alloc (.cells #[.bool x.none, .slice vs1 x.vars.length vc1, .slice fs1 x.flds.length fc1] 58)) 76 (.int .i64 r.at_) (.slice rv r.vars.length rvc) (.slice rt r.things.length rtc) (.int .i64 r.taken) (.slice rl r.lines.length rlc) (.int .i64 r.fin)
  rw [World.size_alloc] at X0
  rw [World.size_alloc, World.size_alloc] at R0
  have C0 := hcd.below B0 (Nat.le_refl _)
  have PX := hx.below B0 (Nat.le_refl _)
  have HC := hideH (checkAllP_any V F s c cap (some ⟨(((w.alloc (.cells #[.int .i64 V, .int .i64 F, .slice s c.length cap] 24)).alloc (.cells #[.bool x.none, .slice vs1 x.vars.length vc1, .slice fs1 x.flds.length fc1] 58)).alloc (.cells #[.int .i64 r.at_, .slice rv r.vars.length rvc, .slice rt r.things.length rtc, .int .i64 r.taken, .slice rl r.lines.length rlc, .int .i64 r.fin] 76)).heap.size, 0, none⟩) [x] 1 ((((w.alloc (.cells #[.int .i64 V, .int .i64 F, .slice s c.length cap] 24)).alloc (.cells #[.bool x.none, .slice vs1 x.vars.length vc1, .slice fs1 x.flds.length fc1] 58)).alloc (.cells #[.int .i64 r.at_, .slice rv r.vars.length rvc, .slice rt r.things.length rtc, .int .i64 r.taken, .slice rl r.lines.length rlc, .int .i64 r.fin] 76)).alloc (.cells #[.bool x.none, .slice vs1 x.vars.length vc1, .slice fs1 x.flds.length fc1] 58)) (C0.call (by go_grown)) (XsAt.new1 (((w.alloc (.cells #[.int .i64 V, .int .i64 F, .slice s c.length cap] 24)).alloc (.cells #[.bool x.none, .slice vs1 x.vars.length vc1, .slice fs1 x.flds.length fc1] 58)).alloc (.cells #[.int .i64 r.at_, .slice rv r.vars.length rvc, .slice rt r.things.length rtc, .int .i64 r.taken, .slice rl r.lines.length rlc, .int .i64 r.fin] 76)) x vs1 vc1 fs1 fc1 PX h1 h2) (by simp))
  have hbz : Below (((w.alloc (.cells #[.int .i64 V, .int .i64 F, .slice s c.length cap] 24)).alloc (.cells #[.bool x.none, .slice vs1 x.vars.length vc1, .slice fs1 x.flds.length fc1] 58)).alloc (.cells #[.int .i64 r.at_, .slice rv r.vars.length rvc, .slice rt r.things.length rtc, .int .i64 r.taken, .slice rl r.lines.length rlc, .int .i64 r.fin] 76)).heap.size (((w.alloc (.cells #[.int .i64 V, .int .i64 F, .slice s c.length cap] 24)).alloc (.cells #[.bool x.none, .slice vs1 x.vars.length vc1, .slice fs1 x.flds.length fc1] 58)).alloc (.cells #[.int .i64 r.at_, .slice rv r.vars.length rvc, .slice rt r.things.length rtc, .int .i64 r.taken, .slice rl r.lines.length rlc, .int .i64 r.fin] 76)) ((((w.alloc (.cells #[.int .i64 V, .int .i64 F, .slice s c.length cap] 24)).alloc (.cells #[.bool x.none, .slice vs1 x.vars.length vc1, .slice fs1 x.flds.length fc1] 58)).alloc (.cells #[.int .i64 r.at_, .slice rv r.vars.length rvc, .slice rt r.things.length rtc, .int .i64 r.taken, .slice rl r.lines.length rlc, .int .i64 r.fin] 76)).alloc (.cells #[.bool x.none, .slice vs1 x.vars.length vc1, .slice fs1 x.flds.length fc1] 58)) := by go_grown
  have e3 : (((w.alloc (.cells #[.int .i64 V, .int .i64 F, .slice s c.length cap] 24)).alloc (.cells #[.bool x.none, .slice vs1 x.vars.length vc1, .slice fs1 x.flds.length fc1] 58)).alloc (.cells #[.int .i64 r.at_, .slice rv r.vars.length rvc, .slice rt r.things.length rtc, .int .i64 r.taken, .slice rl r.lines.length rlc, .int .i64 r.fin] 76)).heap.size = w.heap.size + 1 + 1 + 1 := by simp
  have HB := hideH hbz
  rw [e3] at HC
  unfold runV
  have HRC : Hid (∀ wx, Below w.heap.size w wx → Calls Tryz.prog 78 #[.agg #[.int .i64 V, .int .i64 F, .slice s c.length cap], .agg #[.int .i64 r.at_, .slice rv r.vars.length rvc, .slice rt r.things.length rtc, .int .i64 r.taken, .slice rl r.lines.length rlc, .int .i64 r.fin]] wx fun e w' => e = .returned (.int .i64 (ckBoth V F c r)) ∧ Below wx.heap.size wx w') := fun wx hx => runCheck_any V F s c cap r rv rvc rt rtc rl rlc wx (hcd.below hx (Nat.le_refl _)) hl (hr.below hx (Nat.le_refl _))
  rw [h] at HC
  rw [h'] at HRC
  have HXR := hideH hx.2
  have HTH := hideH hr.2.1
  have HKX := hideH kx
  have HOK := hideH hok
  have HNN := hideH hn
  have HLF := hideH lf
  clear h h' hcd hx hr PX C0 hbz hl hck kx hok lv1 lv2 lf hn
  go_enter Tryz.func34, Tryz.ntmps34
  go_wp2_with (go_at_call 70; fail)
  refine HC.out.mono ?_
  rintro e w1 ⟨rfl, hb1⟩
  have hb01 : Below (((w.alloc (.cells #[.int .i64 V, .int .i64 F, .slice s c.length cap] 24)).alloc (.cells #[.bool x.none, .slice vs1 x.vars.length vc1, .slice fs1 x.flds.length fc1] 58)).alloc (.cells #[.int .i64 r.at_, .slice rv r.vars.length rvc, .slice rt r.things.length rtc, .int .i64 r.taken, .slice rl r.lines.length rlc, .int .i64 r.fin] 76)).heap.size (((w.alloc (.cells #[.int .i64 V, .int .i64 F, .slice s c.length cap] 24)).alloc (.cells #[.bool x.none, .slice vs1 x.vars.length vc1, .slice fs1 x.flds.length fc1] 58)).alloc (.cells #[.int .i64 r.at_, .slice rv r.vars.length rvc, .slice rt r.things.length rtc, .int .i64 r.taken, .slice rl r.lines.length rlc, .int .i64 r.fin] 76)) w1 := HB.out.trans (hb1.mono (by first | exact HB.out.size | (simp; omega) | omega))
  have B1 := B0.trans (hb01.mono B0.size)
  have R1 := R0.call hb01
  have X1 := X0.call hb01
  have P1 := P0.call hb01
  have z1 : w.heap.size + 1 + 1 + 1 ≤ w1.heap.size := by have := hb01.size; omega
  clear HB hb1 hb01 R0 X0 P0 HC e3
  obtain ⟨⟨p0, p1, p2⟩, pz⟩ := id P1
  obtain ⟨⟨r0, r1, r2, r3, r4, r5⟩, rz, rf⟩ := id R1
  go_wp2_with (go_at_call 78; fail)
  refine (HRC.out w1 B1).mono ?_
  rintro e w2 ⟨rfl, hb2⟩
  have R2 := R1.call hb2
  have X2 := X1.call hb2
  have P2 := P1.call hb2
  have B2 := B1.trans (hb2.mono B1.size)
  have z2 : w.heap.size + 1 + 1 + 1 ≤ w2.heap.size := Nat.le_trans z1 hb2.size
  clear hb2 R1 X1 P1 B1 z1 p0 p1 p2 pz r0 r1 r2 r3 r4 r5 rz rf HRC
  obtain ⟨⟨a0, a1, a2⟩, az, -⟩ := id X2
  obtain ⟨⟨p0, p1, p2⟩, pz⟩ := id P2
  obtain ⟨⟨r0, r1, r2, r3, r4, r5⟩, rz, rf⟩ := id R2
  rw [HNN.out] at a0
  go_wp2_with (go_at_call 79; fail)
  refine (HVR.out w2 B2).mono ?_
  rintro e w3 ⟨rfl, hb3⟩
  have R3 := R2.call hb3
  have X3' := X2.call hb3
  have P3' := P2.call hb3
  have B3 := B2.trans (hb3.mono B2.size)
  have z3 : w.heap.size + 1 + 1 + 1 ≤ w3.heap.size := Nat.le_trans z2 hb3.size
  clear hb3 R2 X2 P2 B2 z2 p0 p1 p2 pz r0 r1 r2 r3 r4 r5 rz rf a0 a1 a2 az HVR
  obtain ⟨⟨p0, p1, p2⟩, pz⟩ := id P3'
  obtain ⟨⟨r0, r1, r2, r3, r4, r5⟩, rz, rf⟩ := id R3
  obtain ⟨⟨a0, a1, a2⟩, az, -⟩ := id X3'
  rw [HNN.out] at a0
  rcases (show showsRow r x.vars r.vars = false ∨ showsRow r x.vars r.vars = true by cases showsRow r x.vars r.vars <;> simp) with hs | hs <;> rw [hs] at HRES <;> rw [hs] <;> clear hs
  · go_wp2
    refine bodyPost_ret (v := .tuple #[.bool false, .int .i64 0]) (by simp [results, Tryz.results34, go_sem]) rfl ⟨?_, B3⟩
    rw [HRES.out]
    rfl
  rw [Bool.true_and] at HRES
  go_wp2
  clear p0 p1 p2 pz r0 r1 r2 r3 r4 r5 rz rf a0 a1 a2 az
  go_loopw [41] (fun i wr => ∃ k : Nat, k ≤ r.things.length ∧ i = .int .i64 k ∧ Below w3.heap.size w3 wr ∧ Hid (res = (r.things.drop k).all fun t => showsRow r (x.flds.getD t.site.toNat []) t.fs)) (fun i _ => r.things.length - (intOf i).toNat)
  case atStart => exact ⟨0, Nat.zero_le _, rfl, Below.refl _ _, HRES⟩
  case round =>
    obtain ⟨k, hk, rfl, hbr, HK⟩ := hrel
    have LR := B3.trans (hbr.mono B3.size)
    by_cases hlt : k < r.things.length
    · have n0 : (0 : Int) ≤ (k : Int) := by omega
      have n1 : (k : Int) < (r.things.length : Int) := by omega
      obtain ⟨b2, o2, e2, zb2, HCE⟩ := (HTH.out.below LR (Nat.le_refl _)).get k hlt
      obtain ⟨T1, tf, tfc, T2, TV⟩ := HCE k hlt
      subst e2
      have hst := HOK.out.sites _ (List.getElem_mem hlt)
      have hfl := HOK.out.fields _ (List.getElem_mem hlt)
      have hvl := HOK.out.fvals _ (List.getElem_mem hlt)
      have hq : 0 ≤ r.things[k].site ∧ r.things[k].site < c.length := by unfold isNew btw at hst; simp only [Bool.and_eq_true, decide_eq_true_eq] at hst; omega
      obtain ⟨q, eq⟩ := Int.eq_ofNat_of_zero_le hq.1
      have hqx : q < x.flds.length := by have := HLF.out; omega
      have nq0 : (0 : Int) ≤ (q : Int) := by omega
      have nq1 : (q : Int) < (x.flds.length : Int) := by omega
      obtain ⟨pb, po, e1, zp, rs, rc, C1, k1, m1, J1⟩ := (HXR.out.below LR (Nat.le_refl _)) q hqx
      subst e1
      have hrow := HKX.out.row q hqx
      have hgf := HKX.out.gf q hqx
      have HS : Hid ((r.things.drop k).all (fun t => showsRow r (x.flds.getD t.site.toNat []) t.fs) = (showsRow r x.flds[q] r.things[k].fs && (r.things.drop (k + 1)).all fun t => showsRow r (x.flds.getD t.site.toNat []) t.fs)) := by
        show _ = _
        rw [List.drop_eq_getElem_cons hlt, List.all_cons, eq]
        simp [List.getD, List.getElem?_eq_getElem hqx]
      have HEQ := hideH eq
      clear eq hq
      have hb4 : Below wr.heap.size wr (wr.alloc (.cells #[.int .i64 r.things[k].site, .slice tf r.things[k].fs.length tfc] 118)) := by go_grown
      have Q4 : (wr.alloc (.cells #[.int .i64 r.things[k].site, .slice tf r.things[k].fs.length tfc] 118)).cell? ⟨wr.heap.size, 0, none⟩ = some (.int .i64 r.things[k].site) ∧ (wr.alloc (.cells #[.int .i64 r.things[k].site, .slice tf r.things[k].fs.length tfc] 118)).cell? ⟨wr.heap.size, 1, none⟩ = some (.slice tf r.things[k].fs.length tfc) := by simp [go_sem]
      have q4 : wr.heap.size < (wr.alloc (.cells #[.int .i64 r.things[k].site, .slice tf r.things[k].fs.length tfc] 118)).heap.size := by simp
      have hb34 := hbr.trans (hb4.mono hbr.size)
      have LR4 := LR.trans (hb4.mono LR.size)
      have C4 : (wr.alloc (.cells #[.int .i64 r.things[k].site, .slice tf r.things[k].fs.length tfc] 118)).cell? ⟨pb, po + q, none⟩ = some (.slice rs x.flds[q].length rc) := by rw [hb4.cell (by simp only; exact zp)]; exact C1
      have J4 := J1.call hb4
      have TV4 := TV.call hb4
      have zp4 : pb < (wr.alloc (.cells #[.int .i64 r.things[k].site, .slice tf r.things[k].fs.length tfc] 118)).heap.size := Nat.lt_of_lt_of_le zp hb4.size
      have P4 := P3'.call hb34
      have X4 := X3'.call hb34
      have R4 := R3.call hb34
      obtain ⟨⟨r0, r1, r2, r3, r4, r5⟩, rz, rf⟩ := id (R3.call hbr)
      go_upto_region 12 with fail
      clear r0 r1 r2 r3 r4 r5 rz rf T1 T2 TV HCE C1 J1 zp zb2 hb4
      generalize wr.alloc (.cells #[.int .i64 r.things[k].site, .slice tf r.things[k].fs.length tfc] 118) = w4 at *
      generalize wr.heap.size = tb at *
      rw [HEQ.out] at Q4
      have HKZ : Hid (∀ wx, Below w4.heap.size w4 wx → (wx.cell? ⟨w.heap.size, 0, none⟩ = some (.int .i64 V) ∧ wx.cell? ⟨w.heap.size, 1, none⟩ = some (.int .i64 F) ∧ wx.cell? ⟨w.heap.size, 2, none⟩ = some (.slice s c.length cap)) ∧ (wx.cell? ⟨w.heap.size + 1, 2, none⟩ = some (.slice (some ⟨pb, po, none⟩) x.flds.length fc1) ∧ wx.cell? ⟨pb, po + q, none⟩ = some (.slice rs x.flds[q].length rc)) ∧ (wx.cell? ⟨tb, 0, none⟩ = some (.int .i64 (q : Int)) ∧ wx.cell? ⟨tb, 1, none⟩ = some (.slice tf r.things[k].fs.length tfc)) ∧ wx.cell? ⟨w.heap.size + 1 + 1, 2, none⟩ = some (.slice (some ⟨b2, o2, none⟩) r.things.length rtc)) := fun wx hx => ⟨(P4.call hx).1, ⟨(X4.call hx).1.2.2, by rw [hx.cell (by simp only; exact zp4)]; exact C4⟩, ⟨by rw [hx.cell (by simp only; exact q4)]; exact Q4.1, by rw [hx.cell (by simp only; exact q4)]; exact Q4.2⟩, (R4.call hx).1.2.2.1⟩
      have HD : Below w4.heap.size w4 w4.drew := (Below.refl _ _).drew
      have HRK : Hid (∀ wx, Below w4.heap.size w4 wx → Calls Tryz.prog 79 #[pv V F s c cap, .slice rs x.flds[q].length rc, .slice tf r.things[k].fs.length tfc, .slice (some ⟨b2, o2, none⟩) r.things.length rtc] wx fun e w' => e = .returned (.bool (showsRow r x.flds[q] r.things[k].fs)) ∧ Below wx.heap.size wx w') := fun wx hx => HROW.out x.flds[q] rs rc r.things[k].fs tf tfc wx (LR4.trans (hx.mono LR4.size)) (J4.call hx) (TV4.call hx) hgf hvl (by omega) (by omega)
      clear Q4 C4 J4 TV4
      refine wp_region_z (S := (fun wx => (wx.cell? ⟨w.heap.size, 0, none⟩ = some (.int .i64 V) ∧ wx.cell? ⟨w.heap.size, 1, none⟩ = some (.int .i64 F) ∧ wx.cell? ⟨w.heap.size, 2, none⟩ = some (.slice s c.length cap)) ∧ (wx.cell? ⟨w.heap.size + 1, 2, none⟩ = some (.slice (some ⟨pb, po, none⟩) x.flds.length fc1) ∧ wx.cell? ⟨pb, po + q, none⟩ = some (.slice rs x.flds[q].length rc)) ∧ (wx.cell? ⟨tb, 0, none⟩ = some (.int .i64 (q : Int)) ∧ wx.cell? ⟨tb, 1, none⟩ = some (.slice tf r.things[k].fs.length tfc)) ∧ wx.cell? ⟨w.heap.size + 1 + 1, 2, none⟩ = some (.slice (some ⟨b2, o2, none⟩) r.things.length rtc))) [] (by kernel_rfl) (HKZ.out _ HD) (fun hHeld => ?_)
      refine tkZ 0 ?_ ?_ ?_
      rotate_left
      · exact rn
      (try simp only [Act.put, List.getElem_toArray, List.getElem_cons_zero, List.getElem_cons_succ, List.setIfInBounds_toArray, List.set_cons_zero, List.set_cons_succ])
      refine tkZ 1 ?_ ?_ ?_
      rotate_left
      · exact rn
      (try simp only [Act.put, List.getElem_toArray, List.getElem_cons_zero, List.getElem_cons_succ, List.setIfInBounds_toArray, List.set_cons_zero, List.set_cons_succ])
      refine tkZ 2 ?_ ?_ ?_
      rotate_left
      · exact rn
      (try simp only [Act.put, List.getElem_toArray, List.getElem_cons_zero, List.getElem_cons_succ, List.setIfInBounds_toArray, List.set_cons_zero, List.set_cons_succ])
      refine tkZ 3 ?_ ?_ ?_
      rotate_left
      · exact rn
      (try simp only [Act.put, List.getElem_toArray, List.getElem_cons_zero, List.getElem_cons_succ, List.setIfInBounds_toArray, List.set_cons_zero, List.set_cons_succ])
      refine tkZ 4 ?_ ?_ ?_
      rotate_left
      · exact rn
      (try simp only [Act.put, List.getElem_toArray, List.getElem_cons_zero, List.getElem_cons_succ, List.setIfInBounds_toArray, List.set_cons_zero, List.set_cons_succ])
      refine tkZ 5 ?_ ?_ ?_
      rotate_left
      · exact rn
      (try simp only [Act.put, List.getElem_toArray, List.getElem_cons_zero, List.getElem_cons_succ, List.setIfInBounds_toArray, List.set_cons_zero, List.set_cons_succ])
      refine tkZ 6 ?_ ?_ ?_
      rotate_left
      · exact rn
      (try simp only [Act.put, List.getElem_toArray, List.getElem_cons_zero, List.getElem_cons_succ, List.setIfInBounds_toArray, List.set_cons_zero, List.set_cons_succ])
      refine tkZ 7 ?_ ?_ ?_
      rotate_left
      · exact rn
      (try simp only [Act.put, List.getElem_toArray, List.getElem_cons_zero, List.getElem_cons_succ, List.setIfInBounds_toArray, List.set_cons_zero, List.set_cons_succ])
      refine tkZ 8 ?_ ?_ ?_
      rotate_left
      · exact rn
      (try simp only [Act.put, List.getElem_toArray, List.getElem_cons_zero, List.getElem_cons_succ, List.setIfInBounds_toArray, List.set_cons_zero, List.set_cons_succ])
      refine tkZ 9 ?_ ?_ ?_
      rotate_left
      · exact rn
      (try simp only [Act.put, List.getElem_toArray, List.getElem_cons_zero, List.getElem_cons_succ, List.setIfInBounds_toArray, List.set_cons_zero, List.set_cons_succ])
      refine tkZ 10 ?_ ?_ ?_
      rotate_left
      · exact rn
      (try simp only [Act.put, List.getElem_toArray, List.getElem_cons_zero, List.getElem_cons_succ, List.setIfInBounds_toArray, List.set_cons_zero, List.set_cons_succ])
      refine wpAnyZ_one (i := 11) rfl (by kernel_rfl) (fun K hK => ?_)
      go_simp
      go_at_call 79
      refine (HRK.out _ HD).mono ?_
      rintro e w5 ⟨rfl, hb5⟩
      have HB5 : Below w4.heap.size w4 w5 := HD.trans (hb5.mono HD.size)
      go_wp2_with fail
      refine hK.out _ _ (HKZ.out _ HB5) (fun hHeld => ?_)
      clear hK K
      (try simp only [Act.put, List.getElem_toArray, List.getElem_cons_zero, List.getElem_cons_succ, List.setIfInBounds_toArray, List.set_cons_zero, List.set_cons_succ])
      refine tkZ 12 ?_ ?_ ?_
      rotate_left
      · exact rn
      (try simp only [Act.put, List.getElem_toArray, List.getElem_cons_zero, List.getElem_cons_succ, List.setIfInBounds_toArray, List.set_cons_zero, List.set_cons_succ])
      refine wpAnyZ_done (by kernel_rfl) ?_ _
      have hb35 := hb34.trans (HB5.mono hb34.size)
      rcases (show showsRow r x.flds[q] r.things[k].fs = false ∨ showsRow r x.flds[q] r.things[k].fs = true by cases showsRow r x.flds[q] r.things[k].fs <;> simp) with hs | hs <;> have HSG := hideH hs <;> rw [hs] <;> clear hs
      · go_wp2
        refine bodyPost_ret (v := .tuple #[.bool false, .int .i64 0]) (by simp [results, Tryz.results34, go_sem]) rfl ⟨?_, B3.trans (hb35.mono B3.size)⟩
        rw [HK.out, HS.out, HSG.out]
        rfl
      · go_wp2
        go_roundw
        case rel => exact ⟨k + 1, by omega, by go_num, hb35, by show _ = _; rw [HK.out, HS.out, HSG.out]; rfl⟩
        case measure => simp [intOf]; omega
    · have n1 : ¬ (k : Int) < (r.things.length : Int) := by omega
      go_wp2
      refine bodyPost_ret (v := .tuple #[.bool true, .int .i64 0]) (by simp [results, Tryz.results34, go_sem]) rfl ⟨?_, LR⟩
      rw [HK.out, List.drop_eq_nil_of_le (by omega)]
      rfl
/-- What is told of a picture and a run. -/
def ckShow (V F : Int) (c : List Ins) (x : Pic) (r : St) : Int := if ckPics V F c [x] = 0 then ckRun V F c r else ckPics V F c [x]
theorem ckPics_uno {V F : Int} {c : List Ins} {x : Pic} (h : ckPics V F c [x] = 0) : ckProg V F c = 0 ∧ ckPic V F c x = 0 := by
  have h0 : ckProg V F c = 0 := by
    unfold ckPics at h
    split at h
    · assumption
    · exact h
  refine ⟨h0, ?_⟩
  unfold ckPics at h
  rw [if_pos h0] at h
  unfold ckPicL at h
  split at h
  · assumption
  · exact h
theorem holdsPU (V F : Int) (s : Option Addr) (c : List Ins) (cap : Nat) (x : Pic) (vs1 : Option Addr) (vc1 : Nat) (fs1 : Option Addr) (fc1 : Nat) (r : St) (rv : Option Addr) (rvc : Nat) (rt : Option Addr) (rtc : Nat) (rl : Option Addr) (rlc : Nat) (w : World) (hcd : CodeAt w s c) (hx : PicAt w x vs1 fs1) (h1 : x.vars.length ≤ vc1 ∧ vc1 ≤ maxLen) (h2 : x.flds.length ≤ fc1 ∧ fc1 ≤ maxLen) (hl : LenSt r) (hr : RunAt w r rv rt rl) :
    Calls Tryz.prog 34 #[pv V F s c cap, xv x vs1 vc1 fs1 fc1, runV r rv rvc rt rtc rl rlc] w fun e w' => e = .returned (.tuple #[.bool (if ckShow V F c x r = 0 then showsPic x r else false), .int .i64 (ckShow V F c x r)]) ∧ Below w.heap.size w w' := by
  unfold ckShow
  by_cases h : ckPics V F c [x] = 0
  · obtain ⟨h0, hck⟩ := ckPics_uno h
    have hb : ckBoth V F c r = ckRun V F c r := by unfold ckBoth; rw [if_pos h0]
    rw [if_pos h]
    by_cases h' : ckRun V F c r = 0
    · rw [if_pos h', h']
      rw [h'] at hb
      cases hn : x.none with
      | true =>
        have e : showsPic x r = false := by unfold showsPic; rw [hn]; rfl
        rw [e]
        exact holdsP_none V F s c cap x vs1 vc1 fs1 fc1 r rv rvc rt rtc rl rlc w hcd hx h1 h2 hl hr h hb hn
      | false => exact holdsP_main V F s c cap x vs1 vc1 fs1 fc1 r rv rvc rt rtc rl rlc w hcd hx h1 h2 hl hr h h0 hck hb hn (ckRun_ok h')
    · rw [if_neg h', ← hb]
      exact holdsP_err2 V F s c cap x vs1 vc1 fs1 fc1 r rv rvc rt rtc rl rlc w hcd hx h1 h2 hl hr h (by rw [hb]; exact h')
  · rw [if_neg h, if_neg h]
    exact holdsP_err1 V F s c cap x vs1 vc1 fs1 fc1 r rv rvc rt rtc rl rlc w hcd hx h1 h2 hl hr h
end Go.Proofs.YtmapdpcfanecdaaGreat
