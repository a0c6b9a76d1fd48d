/- Walks over package picture: Within, whole. -/
import Derived.Test.YtmapdpcfanecdaaGreatKpicxp38
import Derived.Test.YtmapdpcfanecdaaGreatKpicxp07
import Derived.Deep.DeepCutAuto
namespace Go.Proofs.YtmapdpcfanecdaaGreat
set_option linter.unusedVariables false
set_option linter.unusedSimpArgs false
open Go.RowKit
attribute [local go_sem ↓] Go.wp_at_zero Go.wp_at_succ

set_option maxHeartbeats 8000000 in
set_option maxRecDepth 20000 in
theorem withinP_main (V F : Int) (s : Option Addr) (c : List Ins) (cap : Nat) (x : Pic) (vs1 : Option Addr) (vc1 : Nat) (fs1 : Option Addr) (fc1 : Nat) (y : Pic) (vs2 : Option Addr) (vc2 : Nat) (fs2 : Option Addr) (fc2 : Nat) (w : World) (hcd : CodeAt w s c) (hx : PicAt w x vs1 fs1) (h1 : x.vars.length ≤ vc1 ∧ vc1 ≤ maxLen) (h2 : x.flds.length ≤ fc1 ∧ fc1 ≤ maxLen) (hy : PicAt w y vs2 fs2) (h3 : y.vars.length ≤ vc2 ∧ vc2 ≤ maxLen) (h4 : y.flds.length ≤ fc2 ∧ fc2 ≤ maxLen) (h : ckPics V F c [x, y] = 0) (h0 : ckProg V F c = 0) (hcx : ckPic V F c x = 0) (hcy : ckPic V F c y = 0) (hn : x.none = false) (hm : y.none = false) :
    Calls Tryz.prog 25 #[pv V F s c cap, xv x vs1 vc1 fs1 fc1, xv y vs2 vc2 fs2 fc2] w fun e w' => e = .returned (.tuple #[.bool (inPic x y), .int .i64 0]) ∧ Below w.heap.size w w' := by
  have B0 : Below w.heap.size w (((w.alloc (.cells #[.int .i64 V, .int .i64 F, .slice s c.length cap] 24)).alloc (.cells #[.bool x.none, .slice vs1 x.vars.length vc1, .slice fs1 x.flds.length fc1] 58)).alloc (.cells #[.bool y.none, .slice vs2 y.vars.length vc2, .slice fs2 y.flds.length fc2] 58)) := by go_grown
  have P0 := (PrAt.new w V F s c cap).call (w' := (((w.alloc (.cells #[.int .i64 V, .int .i64 F, .slice s c.length cap] 24)).alloc (.cells #[.bool x.none, .slice vs1 x.vars.length vc1, .slice fs1 x.flds.length fc1] 58)).alloc (.cells #[.bool y.none, .slice vs2 y.vars.length vc2, .slice fs2 y.flds.length fc2] 58))) (by go_grown)
  have X0 := (XAt.new (w.alloc (.cells #[.int .i64 V, .int .i64 F, .slice s c.length cap] 24)) x vs1 vc1 fs1 fc1).call (w' := (((w.alloc (.cells #[.int .i64 V, .int .i64 F, .slice s c.length cap] 24)).alloc (.cells #[.bool x.none, .slice vs1 x.vars.length vc1, .slice fs1 x.flds.length fc1] 58)).alloc (.cells #[.bool y.none, .slice vs2 y.vars.length vc2, .slice fs2 y.flds.length fc2] 58))) (by go_grown)
  have Y0 := XAt.new ((w.alloc (.cells #[.int .i64 V, .int .i64 F, .slice s c.length cap] 24)).alloc (.cells #[.bool x.none, .slice vs1 x.vars.length vc1, .slice fs1 x.flds.length fc1] 58)) y vs2 vc2 fs2 fc2
  rw [World.size_alloc] at X0
  rw [World.size_alloc, World.size_alloc] at Y0
  have C0 := hcd.below B0 (Nat.le_refl _)
  have PX := hx.below B0 (Nat.le_refl _)
  have PY := hy.below B0 (Nat.le_refl _)
  have HC := hideH (checkAllP_any V F s c cap (some ⟨(((w.alloc (.cells #[.int .i64 V, .int .i64 F, .slice s c.length cap] 24)).alloc (.cells #[.bool x.none, .slice vs1 x.vars.length vc1, .slice fs1 x.flds.length fc1] 58)).alloc (.cells #[.bool y.none, .slice vs2 y.vars.length vc2, .slice fs2 y.flds.length fc2] 58)).heap.size, 0, none⟩) [x, y] 2 ((((w.alloc (.cells #[.int .i64 V, .int .i64 F, .slice s c.length cap] 24)).alloc (.cells #[.bool x.none, .slice vs1 x.vars.length vc1, .slice fs1 x.flds.length fc1] 58)).alloc (.cells #[.bool y.none, .slice vs2 y.vars.length vc2, .slice fs2 y.flds.length fc2] 58)).alloc (.cells #[.bool x.none, .slice vs1 x.vars.length vc1, .slice fs1 x.flds.length fc1, .bool y.none, .slice vs2 y.vars.length vc2, .slice fs2 y.flds.length fc2] 58)) (C0.call (by go_grown)) (XsAt.new2 (((w.alloc (.cells #[.int .i64 V, .int .i64 F, .slice s c.length cap] 24)).alloc (.cells #[.bool x.none, .slice vs1 x.vars.length vc1, .slice fs1 x.flds.length fc1] 58)).alloc (.cells #[.bool y.none, .slice vs2 y.vars.length vc2, .slice fs2 y.flds.length fc2] 58)) x vs1 vc1 fs1 fc1 y vs2 vc2 fs2 fc2 PX h1 h2 PY h3 h4) (by simp))
  have hbz : Below (((w.alloc (.cells #[.int .i64 V, .int .i64 F, .slice s c.length cap] 24)).alloc (.cells #[.bool x.none, .slice vs1 x.vars.length vc1, .slice fs1 x.flds.length fc1] 58)).alloc (.cells #[.bool y.none, .slice vs2 y.vars.length vc2, .slice fs2 y.flds.length fc2] 58)).heap.size (((w.alloc (.cells #[.int .i64 V, .int .i64 F, .slice s c.length cap] 24)).alloc (.cells #[.bool x.none, .slice vs1 x.vars.length vc1, .slice fs1 x.flds.length fc1] 58)).alloc (.cells #[.bool y.none, .slice vs2 y.vars.length vc2, .slice fs2 y.flds.length fc2] 58)) ((((w.alloc (.cells #[.int .i64 V, .int .i64 F, .slice s c.length cap] 24)).alloc (.cells #[.bool x.none, .slice vs1 x.vars.length vc1, .slice fs1 x.flds.length fc1] 58)).alloc (.cells #[.bool y.none, .slice vs2 y.vars.length vc2, .slice fs2 y.flds.length fc2] 58)).alloc (.cells #[.bool x.none, .slice vs1 x.vars.length vc1, .slice fs1 x.flds.length fc1, .bool y.none, .slice vs2 y.vars.length vc2, .slice fs2 y.flds.length fc2] 58)) := by go_grown
  have e3 : (((w.alloc (.cells #[.int .i64 V, .int .i64 F, .slice s c.length cap] 24)).alloc (.cells #[.bool x.none, .slice vs1 x.vars.length vc1, .slice fs1 x.flds.length fc1] 58)).alloc (.cells #[.bool y.none, .slice vs2 y.vars.length vc2, .slice fs2 y.flds.length fc2] 58)).heap.size = w.heap.size + 1 + 1 + 1 := by simp
  have HB := hideH hbz
  obtain ⟨ei, el, rx, ry⟩ := inPic_flat hcx hcy hn hm
  have hfx : formedPic V F c x = true := by
    unfold ckPic at hcx
    split at hcx
    · cases hcx
    · rename_i hq; simpa using hq
  have hfy : formedPic V F c y = true := by
    unfold ckPic at hcy
    split at hcy
    · cases hcy
    · rename_i hq; simpa using hq
  obtain ⟨lx, lx'⟩ := formedPic_len h0 hfx
  obtain ⟨ly, ly'⟩ := formedPic_len h0 hfy
  obtain ⟨-, -, h60⟩ := ckProg_lim h0
  have HAX : Hid (∀ wx, PicAt wx x vs1 fs1 → Calls Tryz.prog 71 #[xv x vs1 vc1 fs1 fc1] wx fun e w' => RowR w' e (allPic x) ∧ Below wx.heap.size wx w') := fun wx hx => allP_any x vs1 vc1 fs1 fc1 wx hx h1.1 h1.2 (by omega) lx
  have HAY : Hid (∀ wx, PicAt wx y vs2 fs2 → Calls Tryz.prog 71 #[xv y vs2 vc2 fs2 fc2] wx fun e w' => RowR w' e (allPic y) ∧ Below wx.heap.size wx w') := fun wx hx => allP_any y vs2 vc2 fs2 fc2 wx hx h3.1 h3.2 (by omega) ly
  have HW : Hid (∀ (g : Gs) (ss : Option Addr) (gc : Nat) (h : Gs) (st : Option Addr) (hc : Nat) (wx : World), CodeAt wx s c → IntsAt wx ss g.s → g.s.length ≤ gc → gc ≤ maxLen → IntsAt wx st h.s → h.s.length ≤ hc → hc ≤ maxLen → ckGs c g = 0 → ckGs c h = 0 → Calls Tryz.prog 72 #[pv V F s c cap, gv g ss gc, gv h st hc] wx fun e w' => e = .returned (.bool (inGs g h)) ∧ Below wx.heap.size wx w') := fun g ss gc h st hc wx a1 a2 a3 a4 a5 a6 a7 a8 a9 => isWithin_any V F s c cap g ss gc h st hc wx a1 a2 a3 a4 a5 a6 a7 h0 a8 a9
  rw [← ei]
  obtain ⟨ax, eax⟩ : ∃ ax, ax = allPic x := ⟨_, rfl⟩
  obtain ⟨ay, eay⟩ : ∃ ay, ay = allPic y := ⟨_, rfl⟩
  rw [← eax] at HAX rx el lx ⊢
  rw [← eay] at HAY ry el ly ⊢
  obtain ⟨res, HR, hres⟩ : ∃ r, Hid (r = inRow ax ay) ∧ inRow ax ay = r := ⟨_, rfl, rfl⟩
  rw [hres]
  have HNN := hideH hn
  have HMM := hideH hm
  have EL := hideH el
  have RX := hideH rx
  have RY := hideH ry
  rw [h, e3] at HC
  clear hn hm h ei el rx ry eax eay hres hcx hcy hfx hfy lx' ly' h0 hx hy hcd hbz e3
  go_enter Tryz.func25, Tryz.ntmps25
  go_wp2_with (go_at_call 70; fail)
  refine HC.out.mono ?_
  rintro e w1 ⟨rfl, hb1⟩
  have hb01 : Below (((w.alloc (.cells #[.int .i64 V, .int .i64 F, .slice s c.length cap] 24)).alloc (.cells #[.bool x.none, .slice vs1 x.vars.length vc1, .slice fs1 x.flds.length fc1] 58)).alloc (.cells #[.bool y.none, .slice vs2 y.vars.length vc2, .slice fs2 y.flds.length fc2] 58)).heap.size (((w.alloc (.cells #[.int .i64 V, .int .i64 F, .slice s c.length cap] 24)).alloc (.cells #[.bool x.none, .slice vs1 x.vars.length vc1, .slice fs1 x.flds.length fc1] 58)).alloc (.cells #[.bool y.none, .slice vs2 y.vars.length vc2, .slice fs2 y.flds.length fc2] 58)) w1 := HB.out.trans (hb1.mono (by first | exact HB.out.size | (simp; omega) | omega))
  have X1 := X0.call hb01
  have Y1 := Y0.call hb01
  have P1 := P0.call hb01
  have C1 := C0.call hb01
  have QX := PX.call hb01
  have QY := PY.call hb01
  have B1 := B0.trans (hb01.mono B0.size)
  clear X0 Y0 P0 C0 PX PY HB hb1 hb01 B0 HC
  have hn := HNN.out
  have hm := HMM.out
  clear HNN HMM
  obtain ⟨xn, vx, fx⟩ := x
  obtain ⟨yn, vy, fy⟩ := y
  simp only at hn hm
  subst hn hm
  obtain ⟨⟨a0, a1, a2⟩, az, -⟩ := id X1
  obtain ⟨⟨b0, b1, b2⟩, bz, -⟩ := id Y1
  go_wp2_with (go_at_call 71; fail)
  refine (HAY.out _ QY).mono ?_
  rintro e w2 ⟨⟨rs2, rc2, rfl, GY, ky1, ky2⟩, hb2⟩
  clear a0 a1 a2 az b0 b1 b2 bz
  obtain ⟨⟨a0, a1, a2⟩, az, -⟩ := id (X1.call hb2)
  go_wp2_with (go_at_call 71; fail)
  refine (HAX.out _ (QX.call hb2)).mono ?_
  rintro e w3 ⟨⟨rs1, rc1, rfl, GX, kx1, kx2⟩, hb3⟩
  clear a0 a1 a2 az HAX HAY
  have hb13 := hb2.trans (hb3.mono hb2.size)
  have P3 := P1.call hb13
  have C4 := C1.call hb13
  have GY3 := GY.call hb3
  have B3 := B1.trans (hb13.mono B1.size)
  clear P1 C1 X1 Y1 QX QY GY hb2 hb3 hb13 B1
  go_wp2
  go_loopw [33] (fun i wr => ∃ k : Nat, k ≤ ax.length ∧ i = .int .i64 k ∧ Below w3.heap.size w3 wr ∧ Hid (res = inRow (ax.drop k) (ay.drop k))) (fun i _ => ax.length - (intOf i).toNat)
  case atStart => exact ⟨0, Nat.zero_le _, rfl, Below.refl _ _, HR⟩
  case round =>
    obtain ⟨k, hk, rfl, hbr, HK⟩ := hrel
    by_cases hlt : k < ax.length
    · have n0 : (0 : Int) ≤ (k : Int) := by omega
      have n1 : (k : Int) < (ax.length : Int) := by omega
      have hlt' : k < ay.length := by have := EL.out; omega
      have n2 : (k : Int) < (ay.length : Int) := by omega
      obtain ⟨b1, o1, e1, ss1, g1, G1, I1, k1, m1⟩ := (GX.below hbr (Nat.le_refl _)) k hlt
      obtain ⟨b2, o2, e2, ss2, g2, G2, J1, k2, m2⟩ := (GY3.below hbr (Nat.le_refl _)) k hlt'
      subst e1 e2
      have hRx := RX.out _ (List.getElem_mem hlt)
      have hRy := RY.out _ (List.getElem_mem hlt')
      have HS := hideH (inRow_step ax ay k hlt hlt')
      obtain ⟨⟨q0, q1, q2, q3, q4, q5, q6⟩, qz⟩ := id G1
      have Q4 := GuAt.new wr ax[k] ss1 g1
      have hb4 : Below wr.heap.size wr (wr.alloc (.cells #[.bool ax[k].n, .bool ax[k].sp.n, .int .i64 ax[k].sp.lo, .int .i64 ax[k].sp.hi, .bool ax[k].t, .bool ax[k].f, .slice ss1 ax[k].s.length g1] 29)) := by go_grown
      have I4 := I1.call hb4
      have J4 := J1.call hb4
      have G4 := G2.call hb4
      have hb34 := hbr.trans (hb4.mono hbr.size)
      go_upto_region 10 with fail
      generalize wr.alloc (.cells #[.bool ax[k].n, .bool ax[k].sp.n, .int .i64 ax[k].sp.lo, .int .i64 ax[k].sp.hi, .bool ax[k].t, .bool ax[k].f, .slice ss1 ax[k].s.length g1] 29) = w4 at *
      generalize wr.heap.size = qb at *
      clear q0 q1 q2 q3 q4 q5 q6 qz G1 G2 I1 J1
      have HKZ : Hid (∀ wx, Below w4.heap.size w4 wx → (wx.cell? ⟨w.heap.size, 0, none⟩ = some (.int .i64 V) ∧ wx.cell? ⟨w.heap.size, 1, none⟩ = some (.int .i64 F) ∧ wx.cell? ⟨w.heap.size, 2, none⟩ = some (.slice s c.length cap)) ∧ (wx.cell? ⟨qb, 0, none⟩ = some (.bool ax[k].n) ∧ wx.cell? ⟨qb, 0 + 1, none⟩ = some (.bool ax[k].sp.n) ∧ wx.cell? ⟨qb, 0 + 2, none⟩ = some (.int .i64 ax[k].sp.lo) ∧ wx.cell? ⟨qb, 0 + 3, none⟩ = some (.int .i64 ax[k].sp.hi) ∧ wx.cell? ⟨qb, 0 + 4, none⟩ = some (.bool ax[k].t) ∧ wx.cell? ⟨qb, 0 + 5, none⟩ = some (.bool ax[k].f) ∧ wx.cell? ⟨qb, 0 + 6, none⟩ = some (.slice ss1 ax[k].s.length g1)) ∧ (wx.cell? ⟨b2, o2 + k * 7, none⟩ = some (.bool ay[k].n) ∧ wx.cell? ⟨b2, o2 + k * 7 + 1, none⟩ = some (.bool ay[k].sp.n) ∧ wx.cell? ⟨b2, o2 + k * 7 + 2, none⟩ = some (.int .i64 ay[k].sp.lo) ∧ wx.cell? ⟨b2, o2 + k * 7 + 3, none⟩ = some (.int .i64 ay[k].sp.hi) ∧ wx.cell? ⟨b2, o2 + k * 7 + 4, none⟩ = some (.bool ay[k].t) ∧ wx.cell? ⟨b2, o2 + k * 7 + 5, none⟩ = some (.bool ay[k].f) ∧ wx.cell? ⟨b2, o2 + k * 7 + 6, none⟩ = some (.slice ss2 ay[k].s.length g2))) := fun wx hx => ⟨((P3.call hb34).call hx).1, (Q4.call hx).1, (G4.call hx).1⟩
      have HD : Below w4.heap.size w4 w4.drew := (Below.refl _ _).drew
      refine wp_region_z (S := (fun wx => (wx.cell? ⟨w.heap.size, 0, none⟩ = some (.int .i64 V) ∧ wx.cell? ⟨w.heap.size, 1, none⟩ = some (.int .i64 F) ∧ wx.cell? ⟨w.heap.size, 2, none⟩ = some (.slice s c.length cap)) ∧ (wx.cell? ⟨qb, 0, none⟩ = some (.bool ax[k].n) ∧ wx.cell? ⟨qb, 0 + 1, none⟩ = some (.bool ax[k].sp.n) ∧ wx.cell? ⟨qb, 0 + 2, none⟩ = some (.int .i64 ax[k].sp.lo) ∧ wx.cell? ⟨qb, 0 + 3, none⟩ = some (.int .i64 ax[k].sp.hi) ∧ wx.cell? ⟨qb, 0 + 4, none⟩ = some (.bool ax[k].t) ∧ wx.cell? ⟨qb, 0 + 5, none⟩ = some (.bool ax[k].f) ∧ wx.cell? ⟨qb, 0 + 6, none⟩ = some (.slice ss1 ax[k].s.length g1)) ∧ (wx.cell? ⟨b2, o2 + k * 7, none⟩ = some (.bool ay[k].n) ∧ wx.cell? ⟨b2, o2 + k * 7 + 1, none⟩ = some (.bool ay[k].sp.n) ∧ wx.cell? ⟨b2, o2 + k * 7 + 2, none⟩ = some (.int .i64 ay[k].sp.lo) ∧ wx.cell? ⟨b2, o2 + k * 7 + 3, none⟩ = some (.int .i64 ay[k].sp.hi) ∧ wx.cell? ⟨b2, o2 + k * 7 + 4, none⟩ = some (.bool ay[k].t) ∧ wx.cell? ⟨b2, o2 + k * 7 + 5, none⟩ = some (.bool ay[k].f) ∧ wx.cell? ⟨b2, o2 + k * 7 + 6, none⟩ = some (.slice ss2 ay[k].s.length g2)))) [] (by kernel_rfl) (HKZ.out _ HD) (fun hHeld => ?_)
      refine tkZ 0 ?_ ?_ ?_
      rotate_left
      · exact rn
      (try simp only [Act.put, List.getElem_toArray, List.getElem_cons_zero, List.getElem_cons_succ, List.setIfInBounds_toArray, List.set_cons_zero, List.set_cons_succ])
      refine tkZ 1 ?_ ?_ ?_
      rotate_left
      · exact rn
      (try simp only [Act.put, List.getElem_toArray, List.getElem_cons_zero, List.getElem_cons_succ, List.setIfInBounds_toArray, List.set_cons_zero, List.set_cons_succ])
      refine tkZ 2 ?_ ?_ ?_
      rotate_left
      · exact rn
      (try simp only [Act.put, List.getElem_toArray, List.getElem_cons_zero, List.getElem_cons_succ, List.setIfInBounds_toArray, List.set_cons_zero, List.set_cons_succ])
      refine tkZ 3 ?_ ?_ ?_
      rotate_left
      · exact rn
      (try simp only [Act.put, List.getElem_toArray, List.getElem_cons_zero, List.getElem_cons_succ, List.setIfInBounds_toArray, List.set_cons_zero, List.set_cons_succ])
      refine tkZ 4 ?_ ?_ ?_
      rotate_left
      · exact rn
      (try simp only [Act.put, List.getElem_toArray, List.getElem_cons_zero, List.getElem_cons_succ, List.setIfInBounds_toArray, List.set_cons_zero, List.set_cons_succ])
      refine tkZ 5 ?_ ?_ ?_
      rotate_left
      · exact rn
      (try simp only [Act.put, List.getElem_toArray, List.getElem_cons_zero, List.getElem_cons_succ, List.setIfInBounds_toArray, List.set_cons_zero, List.set_cons_succ])
      refine wpAnyZ_one (i := 6) rfl (by kernel_rfl) (fun K hK => ?_)
      go_simp
      go_at_call 72
      refine (HW.out ax[k] ss1 g1 ay[k] ss2 g2 _ (C4.call (hb34.trans (HD.mono hb34.size))) (I4.call HD) k1 m1 (J4.call HD) k2 m2 hRx hRy).mono ?_
      rintro e w5 ⟨rfl, hb5⟩
      have HB5 : Below w4.heap.size w4 w5 := HD.trans (hb5.mono HD.size)
      go_wp2_with fail
      refine hK.out _ _ (HKZ.out _ HB5) (fun hHeld => ?_)
      clear hK K
      (try simp only [Act.put, List.getElem_toArray, List.getElem_cons_zero, List.getElem_cons_succ, List.setIfInBounds_toArray, List.set_cons_zero, List.set_cons_succ])
      refine tkZ 7 ?_ ?_ ?_
      rotate_left
      · exact rn
      (try simp only [Act.put, List.getElem_toArray, List.getElem_cons_zero, List.getElem_cons_succ, List.setIfInBounds_toArray, List.set_cons_zero, List.set_cons_succ])
      refine wpAnyZ_done (by kernel_rfl) ?_ _
      have hb35 := hb34.trans (HB5.mono hb34.size)
      rcases (show inGs ax[k] ay[k] = false ∨ inGs ax[k] ay[k] = true by cases inGs ax[k] ay[k] <;> simp) with hs | hs <;> have HSG := hideH hs <;> rw [hs] <;> clear hs
      · go_wp2
        refine bodyPost_ret (v := .tuple #[.bool false, .int .i64 0]) (by simp [results, Tryz.results25, go_sem]) rfl ⟨?_, B3.trans (hb35.mono B3.size)⟩
        rw [HK.out, HS.out, HSG.out]
        rfl
      · go_wp2
        go_roundw
        case rel => exact ⟨k + 1, by omega, by go_num, hb35, by show _ = _; rw [HK.out, HS.out, HSG.out]; rfl⟩
        case measure => simp [intOf]; omega
    · have n1 : ¬ (k : Int) < (ax.length : Int) := by omega
      go_wp2
      refine bodyPost_ret (v := .tuple #[.bool true, .int .i64 0]) (by simp [results, Tryz.results25, go_sem]) rfl ⟨?_, B3.trans (hbr.mono B3.size)⟩
      rw [HK.out, List.drop_eq_nil_of_le (by omega)]
      rfl

theorem withinPU (V F : Int) (s : Option Addr) (c : List Ins) (cap : Nat) (x : Pic) (vs1 : Option Addr) (vc1 : Nat) (fs1 : Option Addr) (fc1 : Nat) (y : Pic) (vs2 : Option Addr) (vc2 : Nat) (fs2 : Option Addr) (fc2 : Nat) (w : World) (hcd : CodeAt w s c) (hx : PicAt w x vs1 fs1) (h1 : x.vars.length ≤ vc1 ∧ vc1 ≤ maxLen) (h2 : x.flds.length ≤ fc1 ∧ fc1 ≤ maxLen) (hy : PicAt w y vs2 fs2) (h3 : y.vars.length ≤ vc2 ∧ vc2 ≤ maxLen) (h4 : y.flds.length ≤ fc2 ∧ fc2 ≤ maxLen) :
    Calls Tryz.prog 25 #[pv V F s c cap, xv x vs1 vc1 fs1 fc1, xv y vs2 vc2 fs2 fc2] w fun e w' => e = .returned (.tuple #[.bool (if ckPics V F c [x, y] = 0 then inPic x y else false), .int .i64 (ckPics V F c [x, y])]) ∧ Below w.heap.size w w' := by
  by_cases h : ckPics V F c [x, y] = 0
  · rw [h, if_pos rfl]
    have h0 : ckProg V F c = 0 := by
      unfold ckPics at h
      split at h
      · assumption
      · exact h
    have hl : ckPicL V F c [x, y] = 0 := by
      unfold ckPics at h
      rw [if_pos h0] at h
      exact h
    have hcx : ckPic V F c x = 0 := by
      unfold ckPicL at hl
      split at hl
      · assumption
      · exact hl
    have hcy : ckPic V F c y = 0 := by
      unfold ckPicL at hl
      rw [if_pos hcx] at hl
      unfold ckPicL at hl
      split at hl
      · assumption
      · exact hl
    by_cases hn : x.none = true ∨ y.none = true
    · exact withinP_none V F s c cap x vs1 vc1 fs1 fc1 y vs2 vc2 fs2 fc2 w hcd hx h1 h2 hy h3 h4 h hn
    · exact withinP_main V F s c cap x vs1 vc1 fs1 fc1 y vs2 vc2 fs2 fc2 w hcd hx h1 h2 hy h3 h4 h h0 hcx hcy (by cases hq : x.none <;> simp_all) (by cases hq : y.none <;> simp_all)
  · rw [if_neg h]
    exact withinP_err V F s c cap x vs1 vc1 fs1 fc1 y vs2 vc2 fs2 fc2 w hcd hx h1 h2 hy h3 h4 h
end Go.Proofs.YtmapdpcfanecdaaGreat
