/- The law PictureShows over what it calls. -/
import Derived.Test.YtmapdpcfanecdaaGreatKpicyp49
import Derived.Test.YtmapdpcfanecdaaGreatKpicyp28
import Derived.Test.YtmapdpcfanecdaaGreatKpicyp23
import Derived.Test.YtmapdpcfanecdaaGreatKpicyp09
import Derived.Deep.DeepCutAuto
namespace Go.Proofs.YtmapdpcfanecdaaGreat
set_option linter.unusedVariables false
set_option linter.unusedSimpArgs false
open Go.RowKit
attribute [local go_sem ↓] Go.wp_at_zero Go.wp_at_succ

/-- What the law was handed lies in four blocks, and behind them. -/
def LawY (w : World) (b : Nat) (V F : Int) (s : Option Addr) (c : List Ins) (cap : Nat) (x : Pic) (vs1 : Option Addr) (vc1 : Nat) (fs1 : Option Addr) (fc1 : Nat) (y : Pic) (vs2 : Option Addr) (vc2 : Nat) (fs2 : Option Addr) (fc2 : Nat) (r : St) (rv : Option Addr) (rvc : Nat) (rt : Option Addr) (rtc : Nat) (rl : Option Addr) (rlc : Nat) : Prop :=
  PrAt w b V F s c cap ∧ XAt w (b + 1) x vs1 vc1 fs1 fc1 ∧ XAt w (b + 1 + 1) y vs2 vc2 fs2 fc2 ∧ R6 w (b + 1 + 1 + 1) (.int .i64 r.at_) (.slice rv r.vars.length rvc) (.slice rt r.things.length rtc) (.int .i64 r.taken) (.slice rl r.lines.length rlc) (.int .i64 r.fin) ∧ CodeAt w s c ∧ PicAt w x vs1 fs1 ∧ PicAt w y vs2 fs2 ∧ RunAt w r rv rt rl
theorem LawY.below {w w' : World} {b : Nat} {V F : Int} {s : Option Addr} {c : List Ins} {cap : Nat} {x : Pic} {vs1 : Option Addr} {vc1 : Nat} {fs1 : Option Addr} {fc1 : Nat} {y : Pic} {vs2 : Option Addr} {vc2 : Nat} {fs2 : Option Addr} {fc2 : Nat} {r : St} {rv : Option Addr} {rvc : Nat} {rt : Option Addr} {rtc : Nat} {rl : Option Addr} {rlc : Nat} (l : LawY w b V F s c cap x vs1 vc1 fs1 fc1 y vs2 vc2 fs2 fc2 r rv rvc rt rtc rl rlc) (hb : Below w.heap.size w w') : LawY w' b V F s c cap x vs1 vc1 fs1 fc1 y vs2 vc2 fs2 fc2 r rv rvc rt rtc rl rlc :=
  ⟨l.1.call hb, l.2.1.call hb, l.2.2.1.call hb, l.2.2.2.1.call hb, l.2.2.2.2.1.call hb, l.2.2.2.2.2.1.call hb, l.2.2.2.2.2.2.1.call hb, l.2.2.2.2.2.2.2.below hb (Nat.le_refl _)⟩
set_option maxHeartbeats 8000000 in
set_option maxRecDepth 20000 in
theorem pictureShows_core (V F : Int) (s : Option Addr) (c : List Ins) (cap : Nat) (x : Pic) (vs1 : Option Addr) (vc1 : Nat) (fs1 : Option Addr) (fc1 : Nat) (y : Pic) (vs2 : Option Addr) (vc2 : Nat) (fs2 : Option Addr) (fc2 : Nat) (r : St) (rv : Option Addr) (rvc : Nat) (rt : Option Addr) (rtc : Nat) (rl : Option Addr) (rlc : Nat) (cp E wj wz : Int) (J Z : Pic) (ok : Bool) (w : World) (hcd : CodeAt w s c) (hx : PicAt w x vs1 fs1) (h1 : x.vars.length ≤ vc1 ∧ vc1 ≤ maxLen) (h2 : x.flds.length ≤ fc1 ∧ fc1 ≤ maxLen) (hy : PicAt w y vs2 fs2) (hr : RunAt w r rv rt rl)
    (HHO : Hid (∀ wx, CodeAt wx s c → PicAt wx x vs1 fs1 → RunAt wx r rv rt rl → Calls Tryz.prog 34 #[pv V F s c cap, xv x vs1 vc1 fs1 fc1, (.agg #[.int .i64 r.at_, .slice rv r.vars.length rvc, .slice rt r.things.length rtc, .int .i64 r.taken, .slice rl r.lines.length rlc, .int .i64 r.fin])] wx fun e w' => e = .returned (.tuple #[.bool ok, .int .i64 E]) ∧ Below wx.heap.size wx w'))
    (HC1 : Hid (∀ wx ls, CodeAt wx s c → XsAt wx ls [x] → Calls Tryz.prog 27 #[pv V F s c cap, .slice ls 1 1] wx fun e w' => e = .returned (.int .i64 cp) ∧ Below wx.heap.size wx w'))
    (HCR : Hid (cp = 0 → ∀ wx, CodeAt wx s c → RunAt wx r rv rt rl → Calls Tryz.prog 35 #[pv V F s c cap, (.agg #[.int .i64 r.at_, .slice rv r.vars.length rvc, .slice rt r.things.length rtc, .int .i64 r.taken, .slice rl r.lines.length rlc, .int .i64 r.fin])] wx fun e w' => e = .returned (.int .i64 E) ∧ Below wx.heap.size wx w'))
    (HSH : Hid (E = 0 → ∀ wx, PicAt wx x vs1 fs1 → RunAt wx r rv rt rl → Calls Tryz.prog 36 #[xv x vs1 vc1 fs1 fc1, (.agg #[.int .i64 r.at_, .slice rv r.vars.length rvc, .slice rt r.things.length rtc, .int .i64 r.taken, .slice rl r.lines.length rlc, .int .i64 r.fin])] wx fun e w' => e = .returned (.bool ok) ∧ Below wx.heap.size wx w'))
    (HBE : Hid (∀ wx, Calls Tryz.prog 31 #[] wx fun e w' => e = .returned (.bool true) ∧ Below wx.heap.size wx w'))
    (HJN : Hid (∀ wx, CodeAt wx s c → PicAt wx x vs1 fs1 → PicAt wx y vs2 fs2 → Calls Tryz.prog 23 #[pv V F s c cap, xv x vs1 vc1 fs1 fc1, xv y vs2 vc2 fs2 fc2] wx fun e w' => PicF wx.heap.size w' e J wj ∧ Below wx.heap.size wx w'))
    (HWD : Hid (∀ wx, CodeAt wx s c → PicAt wx x vs1 fs1 → PicAt wx y vs2 fs2 → Calls Tryz.prog 24 #[pv V F s c cap, xv y vs2 vc2 fs2 fc2, xv x vs1 vc1 fs1 fc1] wx fun e w' => PicF wx.heap.size w' e Z wz ∧ Below wx.heap.size wx w'))
    (HH1 : Hid (E = 0 → wj = 0 → ok = true → ∀ wx js jc jf je, CodeAt wx s c → PicAt wx J js jf → (J.vars.length ≤ jc ∧ jc ≤ maxLen) → (J.flds.length ≤ je ∧ je ≤ maxLen) → RunAt wx r rv rt rl → Calls Tryz.prog 34 #[pv V F s c cap, xv J js jc jf je, (.agg #[.int .i64 r.at_, .slice rv r.vars.length rvc, .slice rt r.things.length rtc, .int .i64 r.taken, .slice rl r.lines.length rlc, .int .i64 r.fin])] wx fun e w' => e = .returned (.tuple #[.bool true, .int .i64 0]) ∧ Below wx.heap.size wx w'))
    (HH2 : Hid (E = 0 → wz = 0 → ok = true → ∀ wx js jc jf je, CodeAt wx s c → PicAt wx Z js jf → (Z.vars.length ≤ jc ∧ jc ≤ maxLen) → (Z.flds.length ≤ je ∧ je ≤ maxLen) → RunAt wx r rv rt rl → Calls Tryz.prog 34 #[pv V F s c cap, xv Z js jc jf je, (.agg #[.int .i64 r.at_, .slice rv r.vars.length rvc, .slice rt r.things.length rtc, .int .i64 r.taken, .slice rl r.lines.length rlc, .int .i64 r.fin])] wx fun e w' => e = .returned (.tuple #[.bool true, .int .i64 0]) ∧ Below wx.heap.size wx w'))
    (HZ1 : Hid (cp ≠ 0 → E = cp)) (HZ2 : Hid (E ≠ 0 → ok = false)) :
    Calls Tryz.prog 6 #[pv V F s c cap, xv x vs1 vc1 fs1 fc1, xv y vs2 vc2 fs2 fc2, (.agg #[.int .i64 r.at_, .slice rv r.vars.length rvc, .slice rt r.things.length rtc, .int .i64 r.taken, .slice rl r.lines.length rlc, .int .i64 r.fin])] w fun e w' => e = .returned (.bool true) ∧ Below w.heap.size w w' := by
  have B0 : Below w.heap.size w ((((w.alloc (.cells #[.int .i64 V, .int .i64 F, .slice s c.length cap] 24)).alloc (.cells #[.bool x.none, .slice vs1 x.vars.length vc1, .slice fs1 x.flds.length fc1] 58)).alloc (.cells #[.bool y.none, .slice vs2 y.vars.length vc2, .slice fs2 y.flds.length fc2] 58)).alloc (.cells #[.int .i64 r.at_, .slice rv r.vars.length rvc, .slice rt r.things.length rtc, .int .i64 r.taken, .slice rl r.lines.length rlc, .int .i64 r.fin] 76)) := by go_grown
  have L0 : LawY ((((w.alloc (.cells #[.int .i64 V, .int .i64 F, .slice s c.length cap] 24)).alloc (.cells #[.bool x.none, .slice vs1 x.vars.length vc1, .slice fs1 x.flds.length fc1] 58)).alloc (.cells #[.bool y.none, .slice vs2 y.vars.length vc2, .slice fs2 y.flds.length fc2] 58)).alloc (.cells #[.int .i64 r.at_, .slice rv r.vars.length rvc, .slice rt r.things.length rtc, .int .i64 r.taken, .slice rl r.lines.length rlc, .int .i64 r.fin] 76)) w.heap.size V F s c cap x vs1 vc1 fs1 fc1 y vs2 vc2 fs2 fc2 r rv rvc rt rtc rl rlc := by
    have X0 := (XAt.new (w.alloc (.cells #[.int .i64 V, .int .i64 F, .slice s c.length cap] 24)) x vs1 vc1 fs1 fc1).call (w' := ((((w.alloc (.cells #[.int .i64 V, .int .i64 F, .slice s c.length cap] 24)).alloc (.cells #[.bool x.none, .slice vs1 x.vars.length vc1, .slice fs1 x.flds.length fc1] 58)).alloc (.cells #[.bool y.none, .slice vs2 y.vars.length vc2, .slice fs2 y.flds.length fc2] 58)).alloc (.cells #[.int .i64 r.at_, .slice rv r.vars.length rvc, .slice rt r.things.length rtc, .int .i64 r.taken, .slice rl r.lines.length rlc, .int .i64 r.fin] 76))) (by go_grown)
    have Y0 := (XAt.new ((w.alloc (.cells #[.int .i64 V, .int .i64 F, .slice s c.length cap] 24)).alloc (.cells #[.bool x.none, .slice vs1 x.vars.length vc1, .slice fs1 x.flds.length fc1] 58)) y vs2 vc2 fs2 fc2).call (w' := ((((w.alloc (.cells #[.int .i64 V, .int .i64 F, .slice s c.length cap] 24)).alloc (.cells #[.bool x.none, .slice vs1 x.vars.length vc1, .slice fs1 x.flds.length fc1] 58)).alloc (.cells #[.bool y.none, .slice vs2 y.vars.length vc2, .slice fs2 y.flds.length fc2] 58)).alloc (.cells #[.int .i64 r.at_, .slice rv r.vars.length rvc, .slice rt r.things.length rtc, .int .i64 r.taken, .slice rl r.lines.length rlc, .int .i64 r.fin] 76))) (by go_grown)
    have R0 := R6.new (((w.alloc (.cells #[.int .i64 V, .int .i64 F, .slice s c.length cap] 24)).alloc (.cells #[.bool x.none, .slice vs1 x.vars.length vc1, .slice fs1 x.flds.length fc1] 58)).alloc (.cells #[.bool y.none, .slice vs2 y.vars.length vc2, .slice fs2 y.flds.length fc2] 58)) 76 (.int .i64 r.at_) (.slice rv r.vars.length rvc) (.slice rt r.things.length rtc) (.int .i64 r.taken) (.slice rl r.lines.length rlc) (.int .i64 r.fin)
    rw [World.size_alloc] at X0
    rw [World.size_alloc, World.size_alloc] at Y0
    rw [World.size_alloc, World.size_alloc, World.size_alloc] at R0
    exact ⟨(PrAt.new w V F s c cap).call (by go_grown), X0, Y0, R0, hcd.below B0 (Nat.le_refl _), hx.below B0 (Nat.le_refl _), hy.below B0 (Nat.le_refl _), hr.below B0 (Nat.le_refl _)⟩
  obtain ⟨WW, hWW⟩ : ∃ q, q = ((((w.alloc (.cells #[.int .i64 V, .int .i64 F, .slice s c.length cap] 24)).alloc (.cells #[.bool x.none, .slice vs1 x.vars.length vc1, .slice fs1 x.flds.length fc1] 58)).alloc (.cells #[.bool y.none, .slice vs2 y.vars.length vc2, .slice fs2 y.flds.length fc2] 58)).alloc (.cells #[.int .i64 r.at_, .slice rv r.vars.length rvc, .slice rt r.things.length rtc, .int .i64 r.taken, .slice rl r.lines.length rlc, .int .i64 r.fin] 76)) := ⟨_, rfl⟩
  have HW0 := hideH hWW
  rw [← hWW] at B0 L0
  clear hWW hcd hx hy hr
  go_enter Tryz.func6, Tryz.ntmps6
  go_wp2_with (go_at_call 34; fail)
  rw [← HW0.out]
  refine (HHO.out WW L0.2.2.2.2.1 L0.2.2.2.2.2.1 L0.2.2.2.2.2.2.2).mono ?_
  rintro e w1 ⟨rfl, hb1⟩
  have BB1 : Below WW.heap.size WW w1 := hb1
  clear hb1
  obtain ⟨⟨⟨p0, p1, p2⟩, pz⟩, ⟨⟨a0, a1, a2⟩, az, -⟩, ⟨⟨c0, c1, c2⟩, cz, -⟩, ⟨⟨r0, r1, r2, r3, r4, r5⟩, rz, -⟩, -⟩ := id (L0.below BB1)
  go_wp2_with (go_at_call 27; fail)
  have D1 := XsAt.new1 w1 x vs1 vc1 fs1 fc1 (L0.below BB1).2.2.2.2.2.1 h1 h2
  have hbA : Below w1.heap.size w1 (w1.alloc (.cells #[.bool x.none, .slice vs1 x.vars.length vc1, .slice fs1 x.flds.length fc1] 58)) := by go_grown
  have BB2 := BB1.trans (hbA.mono BB1.size)
  clear p0 p1 p2 pz a0 a1 a2 az c0 c1 c2 cz r0 r1 r2 r3 r4 r5 rz BB1 hbA
  generalize w1.alloc (.cells #[.bool x.none, .slice vs1 x.vars.length vc1, .slice fs1 x.flds.length fc1] 58) = w2 at *
  generalize w1.heap.size = db at *
  refine (HC1.out w2 _ (L0.below BB2).2.2.2.2.1 D1).mono ?_
  rintro e w3 ⟨rfl, hb3⟩
  clear D1
  have BB3 := BB2.trans (hb3.mono BB2.size)
  clear BB2 hb3 
  go_upto_if 30 with fail
  go_cut [11] (fun t11 wy => t11 = .int .i64 E ∧ Below WW.heap.size WW wy)
  case first =>
    by_cases e1 : cp = 0
    · subst e1
      have HF := hideH (HCR.out rfl)
      obtain ⟨⟨⟨p0, p1, p2⟩, pz⟩, ⟨⟨a0, a1, a2⟩, az, -⟩, ⟨⟨c0, c1, c2⟩, cz, -⟩, ⟨⟨r0, r1, r2, r3, r4, r5⟩, rz, -⟩, -⟩ := id (L0.below BB3)
      go_wp2_with (go_at_call 35; fail)
      refine (HF.out w3 (L0.below BB3).2.2.2.2.1 (L0.below BB3).2.2.2.2.2.2.2).mono ?_
      rintro e w4 ⟨rfl, hb4⟩
      go_wp2_with fail
      go_meet
      exact ⟨rfl, BB3.trans (hb4.mono BB3.size)⟩
    · have e1b : (cp == 0) = false := by simpa using e1
      have e2 := HZ1.out e1
      subst e2
      go_wp2_with fail
      go_meet
      exact ⟨rfl, BB3⟩
  obtain ⟨rfl, BB4⟩ := hcut
  clear BB3 HCR HZ1
  generalize wc = w4 at *
  clear wc
  go_upto_if 35 with fail
  go_cut [12] (fun t12 wy => t12 = .bool ok ∧ Below WW.heap.size WW wy)
  case first =>
    by_cases e1 : E = 0
    · subst e1
      have HF := hideH (HSH.out rfl)
      obtain ⟨⟨⟨p0, p1, p2⟩, pz⟩, ⟨⟨a0, a1, a2⟩, az, -⟩, ⟨⟨c0, c1, c2⟩, cz, -⟩, ⟨⟨r0, r1, r2, r3, r4, r5⟩, rz, -⟩, -⟩ := id (L0.below BB4)
      go_wp2_with (go_at_call 36; fail)
      refine (HF.out w4 (L0.below BB4).2.2.2.2.2.1 (L0.below BB4).2.2.2.2.2.2.2).mono ?_
      rintro e w5 ⟨rfl, hb5⟩
      go_wp2_with fail
      go_meet
      exact ⟨rfl, BB4.trans (hb5.mono BB4.size)⟩
    · have e1b : (E == 0) = false := by simpa using e1
      have e2 := HZ2.out e1
      subst e2
      go_wp2_with fail
      go_meet
      exact ⟨rfl, BB4⟩
  obtain ⟨rfl, BB5⟩ := hcut
  clear BB4 HSH
  generalize wc = w5 at *
  clear wc
  go_wp2_with (go_at_call 31; fail)
  refine (HBE.out w5).mono ?_
  rintro e w6 ⟨rfl, hb6⟩
  have BB6 := BB5.trans (hb6.mono BB5.size)
  clear BB5 hb6 
  obtain ⟨⟨⟨p0, p1, p2⟩, pz⟩, ⟨⟨a0, a1, a2⟩, az, -⟩, ⟨⟨c0, c1, c2⟩, cz, -⟩, ⟨⟨r0, r1, r2, r3, r4, r5⟩, rz, -⟩, -⟩ := id (L0.below BB6)
  go_wp2_with (go_at_call 23; fail)
  refine (HJN.out w6 (L0.below BB6).2.2.2.2.1 (L0.below BB6).2.2.2.2.2.1 (L0.below BB6).2.2.2.2.2.2.1).mono ?_
  rintro e w7 ⟨⟨js, jc, jf, je, rfl, ON, c1J, c2J⟩, hb7⟩
  have KJ7 := ON.at
  clear ON
  clear p0 p1 p2 pz a0 a1 a2 az c0 c1 c2 cz r0 r1 r2 r3 r4 r5 rz
  have BB7 := BB6.trans (hb7.mono BB6.size)
  clear BB6 hb7 
  obtain ⟨⟨⟨p0, p1, p2⟩, pz⟩, ⟨⟨a0, a1, a2⟩, az, -⟩, ⟨⟨c0, c1, c2⟩, cz, -⟩, ⟨⟨r0, r1, r2, r3, r4, r5⟩, rz, -⟩, -⟩ := id (L0.below BB7)
  go_wp2_with (go_at_call 24; fail)
  have hbA : Below w7.heap.size w7 (w7.alloc (.cells #[.bool J.none, .slice js J.vars.length jc, .slice jf J.flds.length je] 58)) := by go_grown
  have BB8 := BB7.trans (hbA.mono BB7.size)
  have KJ8 := KJ7.call hbA
  have AJ8 := XAt.new w7 J js jc jf je
  clear p0 p1 p2 pz a0 a1 a2 az c0 c1 c2 cz r0 r1 r2 r3 r4 r5 rz BB7 hbA KJ7
  generalize w7.alloc (.cells #[.bool J.none, .slice js J.vars.length jc, .slice jf J.flds.length je] 58) = w8 at *
  generalize w7.heap.size = bJ at *
  refine (HWD.out w8 (L0.below BB8).2.2.2.2.1 (L0.below BB8).2.2.2.2.2.1 (L0.below BB8).2.2.2.2.2.2.1).mono ?_
  rintro e w9 ⟨⟨zs, zc, zf, ze, rfl, ON, c1Z, c2Z⟩, hb9⟩
  have KZ9 := ON.at
  clear ON
  have BB9 := BB8.trans (hb9.mono BB8.size)
  have AJ9 := AJ8.call hb9
  have KJ9 := KJ8.call hb9
  clear BB8 hb9 AJ8 KJ8
  by_cases e1 : E = 0
  · subst e1
    by_cases e2 : wj = 0
    · subst e2
      by_cases e3 : wz = 0
      · subst e3
        cases ok with
        | false =>
          go_wp2
          go_ret
          exact ⟨rfl, B0.trans ((BB9.alloc BB9.size _).mono B0.size)⟩
        | true =>
          have H1 := hideH (HH1.out rfl rfl rfl)
          have H2 := hideH (HH2.out rfl rfl rfl)
          obtain ⟨⟨⟨p0, p1, p2⟩, pz⟩, ⟨⟨a0, a1, a2⟩, az, -⟩, ⟨⟨c0, c1, c2⟩, cz, -⟩, ⟨⟨r0, r1, r2, r3, r4, r5⟩, rz, -⟩, -⟩ := id (L0.below BB9)
          obtain ⟨⟨k0, k1, k2⟩, kz, -⟩ := id AJ9
          go_wp2_with (go_at_call 34; fail)
          clear k0 k1 k2 kz
          have hbA : Below w9.heap.size w9 (w9.alloc (.cells #[.bool Z.none, .slice zs Z.vars.length zc, .slice zf Z.flds.length ze] 58)) := by go_grown
          have BB10 := BB9.trans (hbA.mono BB9.size)
          have AJ10 := AJ9.call hbA
          have KJ10 := KJ9.call hbA
          have KZ10 := KZ9.call hbA
          have AZ10 := XAt.new w9 Z zs zc zf ze
          clear p0 p1 p2 pz a0 a1 a2 az c0 c1 c2 cz r0 r1 r2 r3 r4 r5 rz BB9 hbA AJ9 KJ9 KZ9
          generalize w9.alloc (.cells #[.bool Z.none, .slice zs Z.vars.length zc, .slice zf Z.flds.length ze] 58) = w10 at *
          generalize w9.heap.size = bZ at *
          refine (H1.out w10 js jc jf je (L0.below BB10).2.2.2.2.1 KJ10 c1J c2J (L0.below BB10).2.2.2.2.2.2.2).mono ?_
          rintro e w11 ⟨rfl, hb11⟩
          have BB11 := BB10.trans (hb11.mono BB10.size)
          have AZ11 := AZ10.call hb11
          have KZ11 := KZ10.call hb11
          clear BB10 hb11 AZ10 KZ10
          obtain ⟨⟨⟨p0, p1, p2⟩, pz⟩, ⟨⟨a0, a1, a2⟩, az, -⟩, ⟨⟨c0, c1, c2⟩, cz, -⟩, ⟨⟨r0, r1, r2, r3, r4, r5⟩, rz, -⟩, -⟩ := id (L0.below BB11)
          obtain ⟨⟨k0, k1, k2⟩, kz, -⟩ := id AZ11
          go_wp2_with (go_at_call 34; fail)
          refine (H2.out w11 zs zc zf ze (L0.below BB11).2.2.2.2.1 KZ11 c1Z c2Z (L0.below BB11).2.2.2.2.2.2.2).mono ?_
          rintro e w12 ⟨rfl, hb12⟩
          have BB12 := BB11.trans (hb12.mono BB11.size)
          go_wp2
          go_ret
          exact ⟨rfl, B0.trans (BB12.mono B0.size)⟩
      · have e3b : (wz != 0) = true := by simpa using e3
        go_wp2
        go_ret
        exact ⟨rfl, B0.trans ((BB9.alloc BB9.size _).mono B0.size)⟩
    · have e2b : (wj != 0) = true := by simpa using e2
      go_wp2
      go_ret
      exact ⟨rfl, B0.trans ((BB9.alloc BB9.size _).mono B0.size)⟩
  · have e1b : (E != 0) = true := by simpa using e1
    go_wp2
    go_ret
    exact ⟨rfl, B0.trans ((BB9.alloc BB9.size _).mono B0.size)⟩
end Go.Proofs.YtmapdpcfanecdaaGreat
