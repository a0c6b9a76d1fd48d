/- The law SpanTells over what it calls: E. -/
import Derived.Test.YtmapdpcfanecdaaSpL
import Derived.Test.YtmapdpcfanecdaaSpAt
namespace Go.Proofs.Ytmapdpcfanecdaa
set_option linter.unusedVariables false
set_option linter.unusedSimpArgs false
open Go.RowKit

set_option maxHeartbeats 8000000 in
set_option maxRecDepth 20000 in
theorem spanTells_E (k c u x : Int) (s t J M X D : Sp) (I H : Bool) (w : World) (nc : (c == 0) = false) (nu : (u == 0) = false)
    (hJ : ∀ w, Calls Try.prog 6 #[sv s, sv t] w fun e w' => e = .returned (.tuple #[sv zeroSp, .int .i64 c]) ∧ Below w.heap.size w w')
    (hM : ∀ w, Calls Try.prog 7 #[sv s, sv t] w fun e w' => e = .returned (.tuple #[sv zeroSp, .int .i64 c]) ∧ Below w.heap.size w w')
    (hX : ∀ w, Calls Try.prog 8 #[sv s, sv t] w fun e w' => e = .returned (.tuple #[sv zeroSp, .int .i64 c]) ∧ Below w.heap.size w w')
    (hI : ∀ w, Calls Try.prog 9 #[sv s, sv t] w fun e w' => e = .returned (.tuple #[.bool false, .int .i64 c]) ∧ Below w.heap.size w w')
    (hH : ∀ w, Calls Try.prog 10 #[sv s, .int .i64 x] w fun e w' => e = .returned (.tuple #[.bool false, .int .i64 u]) ∧ Below w.heap.size w w')
    (hD : ∀ w, Calls Try.prog 11 #[.int .i64 k, sv s, sv t] w fun e w' => e = .returned (.tuple #[sv zeroSp, .int .i64 c]) ∧ Below w.heap.size w w')
    (hu : ∀ w, Calls Try.prog 12 #[sv s] w fun e w' => e = .returned (.int .i64 u) ∧ Below w.heap.size w w')
    (hc : ∀ w, Calls Try.prog 13 #[sv s, sv t] w fun e w' => e = .returned (.int .i64 c) ∧ Below w.heap.size w w')
    (hk : ∀ w, Calls Try.prog 20 #[sv s] w fun e w' => e = .returned (.int .i64 u) ∧ Below w.heap.size w w') :
    Calls Try.prog 3 #[.int .i64 k, sv s, sv t, .int .i64 x] w fun e w' => e = .returned (.bool true) ∧ Below w.heap.size w w' := by
  have S0 : SpAt ((w.alloc (.cells #[.bool s.n, .int .i64 s.lo, .int .i64 s.hi] 23)).alloc (.cells #[.bool t.n, .int .i64 t.lo, .int .i64 t.hi] 23)) w.heap.size s := (SpAt.new w s).alloc _
  have T0 : SpAt ((w.alloc (.cells #[.bool s.n, .int .i64 s.lo, .int .i64 s.hi] 23)).alloc (.cells #[.bool t.n, .int .i64 t.lo, .int .i64 t.hi] 23)) (w.heap.size + 1) t := by
    have := SpAt.new (w.alloc (.cells #[.bool s.n, .int .i64 s.lo, .int .i64 s.hi] 23)) t
    simpa using this
  have B0 : Below w.heap.size w ((w.alloc (.cells #[.bool s.n, .int .i64 s.lo, .int .i64 s.hi] 23)).alloc (.cells #[.bool t.n, .int .i64 t.lo, .int .i64 t.hi] 23)) := by go_grown
  have KS : ∀ wx, SpAt wx w.heap.size s → SpAt wx (w.heap.size + 1) t → (wx.cell? ⟨w.heap.size, 0, none⟩ = some (.bool s.n) ∧ wx.cell? ⟨w.heap.size, 1, none⟩ = some (.int .i64 s.lo) ∧ wx.cell? ⟨w.heap.size, 2, none⟩ = some (.int .i64 s.hi)) ∧ wx.cell? ⟨w.heap.size + 1, 0, none⟩ = some (.bool t.n) ∧ wx.cell? ⟨w.heap.size + 1, 1, none⟩ = some (.int .i64 t.lo) ∧ wx.cell? ⟨w.heap.size + 1, 2, none⟩ = some (.int .i64 t.hi) := fun wx a b => ⟨a.1, b.1⟩
  go_enter Try.func3, Try.ntmps3
  go_wp2_with (go_at_call 6; fail)
  refine (hJ _).mono ?_
  rintro e w1 ⟨rfl, hb⟩
  have S1 := S0.call hb
  have T1 := T0.call hb
  have B1 : Below w.heap.size w w1 := B0.trans (hb.mono (by simp; omega))
  clear hb hJ B0 S0 T0
  obtain ⟨⟨s0, s1, s2⟩, s3⟩ := id S1
  obtain ⟨⟨t0, t1, t2⟩, t3⟩ := id T1
  go_wp2_with (go_at_call 7; fail)
  refine (hM _).mono ?_
  rintro e w2 ⟨rfl, hb⟩
  clear s0 s1 s2 s3 t0 t1 t2 t3
  have S2 := (S1.alloc _).call hb
  have T2 := (T1.alloc _).call hb
  have PJ2 := (SpAt.new w1 zeroSp).call hb
  have B2 : Below w.heap.size w w2 := (B1.alloc B1.size _).trans (hb.mono (by simp; have := B1.size; omega))
  clear hb hM B1 S1 T1
  obtain ⟨⟨s0, s1, s2⟩, s3⟩ := id S2
  obtain ⟨⟨t0, t1, t2⟩, t3⟩ := id T2
  go_wp2_with (go_at_call 8; fail)
  refine (hX _).mono ?_
  rintro e w3 ⟨rfl, hb⟩
  clear s0 s1 s2 s3 t0 t1 t2 t3
  have S3 := (S2.alloc _).call hb
  have T3 := (T2.alloc _).call hb
  have PJ3 := (PJ2.alloc _).call hb
  have PM3 := (SpAt.new w2 zeroSp).call hb
  have B3 : Below w.heap.size w w3 := (B2.alloc B2.size _).trans (hb.mono (by simp; have := B2.size; omega))
  clear hb hX B2 S2 T2 PJ2
  obtain ⟨⟨s0, s1, s2⟩, s3⟩ := id S3
  obtain ⟨⟨t0, t1, t2⟩, t3⟩ := id T3
  go_wp2_with (go_at_call 9; fail)
  refine (hI _).mono ?_
  rintro e w4 ⟨rfl, hb⟩
  clear s0 s1 s2 s3 t0 t1 t2 t3
  have S4 := (S3.alloc _).call hb
  have T4 := (T3.alloc _).call hb
  have PJ4 := (PJ3.alloc _).call hb
  have PM4 := (PM3.alloc _).call hb
  have PX4 := (SpAt.new w3 zeroSp).call hb
  have B4 : Below w.heap.size w w4 := (B3.alloc B3.size _).trans (hb.mono (by simp; have := B3.size; omega))
  clear hb hI B3 S3 T3 PJ3 PM3
  obtain ⟨⟨s0, s1, s2⟩, s3⟩ := id S4
  obtain ⟨⟨t0, t1, t2⟩, t3⟩ := id T4
  go_wp2_with (go_at_call 10; fail)
  refine (hH _).mono ?_
  rintro e w5 ⟨rfl, hb⟩
  clear s0 s1 s2 s3 t0 t1 t2 t3
  have S5 := S4.call hb
  have T5 := T4.call hb
  have PJ5 := PJ4.call hb
  have PM5 := PM4.call hb
  have PX5 := PX4.call hb
  have B5 : Below w.heap.size w w5 := B4.trans (hb.mono B4.size)
  clear hb hH B4 S4 T4 PJ4 PM4 PX4
  obtain ⟨⟨s0, s1, s2⟩, s3⟩ := id S5
  obtain ⟨⟨t0, t1, t2⟩, t3⟩ := id T5
  go_wp2_with (go_at_call 11; fail)
  refine (hD _).mono ?_
  rintro e w6 ⟨rfl, hb⟩
  clear s0 s1 s2 s3 t0 t1 t2 t3
  have S6 := S5.call hb
  have T6 := T5.call hb
  have PJ6 := PJ5.call hb
  have PM6 := PM5.call hb
  have PX6 := PX5.call hb
  have B6 : Below w.heap.size w w6 := B5.trans (hb.mono B5.size)
  clear hb hD B5 S5 T5 PJ5 PM5 PX5
  obtain ⟨⟨s0, s1, s2⟩, s3⟩ := id S6
  obtain ⟨⟨t0, t1, t2⟩, t3⟩ := id T6
  go_wp2
  go_region_held3 (fun w' => (w'.cell? ⟨w.heap.size, 0, none⟩ = some (.bool s.n) ∧ w'.cell? ⟨w.heap.size, 1, none⟩ = some (.int .i64 s.lo) ∧ w'.cell? ⟨w.heap.size, 2, none⟩ = some (.int .i64 s.hi)) ∧ w'.cell? ⟨w.heap.size + 1, 0, none⟩ = some (.bool t.n) ∧ w'.cell? ⟨w.heap.size + 1, 1, none⟩ = some (.int .i64 t.lo) ∧ w'.cell? ⟨w.heap.size + 1, 2, none⟩ = some (.int .i64 t.hi)) (first | exact KS _ (S6.alloc _).drew (T6.alloc _).drew | exact KS _ S7 T7 | exact KS _ S8 T8)
    (first
      | (go_at_call 12; refine (hu _).mono ?_; rintro e w7 ⟨rfl, hb7⟩; have S7 := (S6.alloc _).drew.call hb7; have T7 := (T6.alloc _).drew.call hb7)
      | (go_at_call 13; refine (hc _).mono ?_; rintro e w8 ⟨rfl, hb8⟩; have S8 := S7.call hb8; have T8 := T7.call hb8))
  have PJ8 := (((PJ6.alloc _).drew.call hb7).call hb8)
  have PM8 := (((PM6.alloc _).drew.call hb7).call hb8)
  have PX8 := (((PX6.alloc _).drew.call hb7).call hb8)
  have PD8 := ((SpAt.new w6 zeroSp).drew.call hb7).call hb8
  have B7 : Below w.heap.size w w7 := (B6.alloc B6.size _).drew.trans (hb7.mono (by simp; have := B6.size; omega))
  have B8 : Below w.heap.size w w8 := B7.trans (hb8.mono B7.size)
  clear hb7 hb8 B6 B7 hu hc S7 T7 s0 s1 s2 s3 t0 t1 t2 t3 S6 T6 PJ6 PM6 PX6
  obtain ⟨⟨s0, s1, s2⟩, s3⟩ := id S8
  obtain ⟨⟨t0, t1, t2⟩, t3⟩ := id T8
  have sz1 : w.heap.size < w8.heap.size + 1 := by omega
  have sz2 : w.heap.size < w8.heap.size + 1 + 1 := by omega
  have sz3 : w.heap.size < w8.heap.size + 1 + 1 + 1 := by omega
  have tz1 : w.heap.size + 1 < w8.heap.size + 1 := by omega
  have tz2 : w.heap.size + 1 < w8.heap.size + 1 + 1 := by omega
  have tz3 : w.heap.size + 1 < w8.heap.size + 1 + 1 + 1 := by omega
  have SW := S8.w4
  have TW := T8.w4
  have PJW := PJ8.w4
  have PMW := PM8.w4
  have PXW := PX8.w4
  have PDW := PD8.w4
  obtain ⟨⟨VJW, FVJW⟩, ⟨VMW, FVMW⟩, ⟨VXW, FVXW⟩, VDW, FVDW⟩ := w4_at w8
  have BW := below_w4 B8 B8.size
  have low8 : w.heap.size + 1 < w8.heap.size := t3
  have lowJ := PJ8.2
  have lowM := PM8.2
  have lowX := PX8.2
  have lowD := PD8.2
  clear S8 T8 PJ8 PM8 PX8 PD8 B8
  go_wp2_with (go_at_call 19; fail)
  refine (spanBegun_any _).mono ?_
  rintro e w16 ⟨rfl, hb16⟩
  have S16 := SW.call hb16
  have T16 := TW.call hb16
  have PJ16 := PJW.call hb16
  have PM16 := PMW.call hb16
  have PX16 := PXW.call hb16
  have PD16 := PDW.call hb16
  have VJ16 := VJW.call hb16
  have VM16 := VMW.call hb16
  have VX16 := VXW.call hb16
  have VD16 := VDW.call hb16
  have FVJ16 := FVJW.call hb16
  have FVM16 := FVMW.call hb16
  have FVX16 := FVXW.call hb16
  have FVD16 := FVDW.call hb16
  have B16 : Below w.heap.size w w16 := BW.trans (hb16.mono BW.size)
  clear SW TW PJW PMW PXW PDW VJW VMW VXW VDW FVJW FVMW FVXW FVDW BW hb16
  clear s0 s1 s2 s3 t0 t1 t2 t3 sz1 sz2 sz3 tz1 tz2 tz3
  obtain ⟨⟨s0, s1, s2⟩, s3⟩ := id S16
  go_wp2_with (go_at_call 20; fail)
  refine (hk _).mono ?_
  rintro e w17 ⟨rfl, hb17⟩
  have S17 := S16.call hb17
  have T17 := T16.call hb17
  have PJ17 := PJ16.call hb17
  have PM17 := PM16.call hb17
  have PX17 := PX16.call hb17
  have PD17 := PD16.call hb17
  have VJ17 := VJ16.call hb17
  have VM17 := VM16.call hb17
  have VX17 := VX16.call hb17
  have VD17 := VD16.call hb17
  have FVJ17 := FVJ16.call hb17
  have FVM17 := FVM16.call hb17
  have FVX17 := FVX16.call hb17
  have FVD17 := FVD16.call hb17
  have B17 : Below w.heap.size w w17 := B16.trans (hb17.mono B16.size)
  clear S16 T16 PJ16 PM16 PX16 PD16 VJ16 VM16 VX16 VD16 FVJ16 FVM16 FVX16 FVD16 B16 hb17
  clear s0 s1 s2 s3 hk
  obtain ⟨⟨a0, a1, a2⟩, a3⟩ := id PJ17
  obtain ⟨⟨b0, b1, b2⟩, b3⟩ := id VJ17
  simp only [zeroSp] at a0 a1 a2 b0 b1 b2
  go_wp2_with (go_at_call 21; fail)
  refine (spanIs_yes zeroSp _ _ (fun _ => rfl)).mono ?_
  rintro e w18 ⟨rfl, hb18⟩
  have S18 := S17.call hb18
  have T18 := T17.call hb18
  have PJ18 := PJ17.call hb18
  have PM18 := PM17.call hb18
  have PX18 := PX17.call hb18
  have PD18 := PD17.call hb18
  have VJ18 := VJ17.call hb18
  have VM18 := VM17.call hb18
  have VX18 := VX17.call hb18
  have VD18 := VD17.call hb18
  have FVJ18 := FVJ17.call hb18
  have FVM18 := FVM17.call hb18
  have FVX18 := FVX17.call hb18
  have FVD18 := FVD17.call hb18
  have B18 : Below w.heap.size w w18 := B17.trans (hb18.mono B17.size)
  clear S17 T17 PJ17 PM17 PX17 PD17 VJ17 VM17 VX17 VD17 FVJ17 FVM17 FVX17 FVD17 B17 hb18
  clear a0 a1 a2 a3 b0 b1 b2 b3
  obtain ⟨⟨a0, a1, a2⟩, a3⟩ := id PM18
  obtain ⟨⟨b0, b1, b2⟩, b3⟩ := id VM18
  simp only [zeroSp] at a0 a1 a2 b0 b1 b2
  go_wp2_with (go_at_call 21; fail)
  refine (spanIs_yes zeroSp _ _ (fun _ => rfl)).mono ?_
  rintro e w19 ⟨rfl, hb19⟩
  have S19 := S18.call hb19
  have T19 := T18.call hb19
  have PJ19 := PJ18.call hb19
  have PM19 := PM18.call hb19
  have PX19 := PX18.call hb19
  have PD19 := PD18.call hb19
  have VJ19 := VJ18.call hb19
  have VM19 := VM18.call hb19
  have VX19 := VX18.call hb19
  have VD19 := VD18.call hb19
  have FVJ19 := FVJ18.call hb19
  have FVM19 := FVM18.call hb19
  have FVX19 := FVX18.call hb19
  have FVD19 := FVD18.call hb19
  have B19 : Below w.heap.size w w19 := B18.trans (hb19.mono B18.size)
  clear S18 T18 PJ18 PM18 PX18 PD18 VJ18 VM18 VX18 VD18 FVJ18 FVM18 FVX18 FVD18 B18 hb19
  clear a0 a1 a2 a3 b0 b1 b2 b3
  obtain ⟨⟨a0, a1, a2⟩, a3⟩ := id PX19
  obtain ⟨⟨b0, b1, b2⟩, b3⟩ := id VX19
  simp only [zeroSp] at a0 a1 a2 b0 b1 b2
  go_wp2_with (go_at_call 21; fail)
  refine (spanIs_yes zeroSp _ _ (fun _ => rfl)).mono ?_
  rintro e w20 ⟨rfl, hb20⟩
  have S20 := S19.call hb20
  have T20 := T19.call hb20
  have PJ20 := PJ19.call hb20
  have PM20 := PM19.call hb20
  have PX20 := PX19.call hb20
  have PD20 := PD19.call hb20
  have VJ20 := VJ19.call hb20
  have VM20 := VM19.call hb20
  have VX20 := VX19.call hb20
  have VD20 := VD19.call hb20
  have FVJ20 := FVJ19.call hb20
  have FVM20 := FVM19.call hb20
  have FVX20 := FVX19.call hb20
  have FVD20 := FVD19.call hb20
  have B20 : Below w.heap.size w w20 := B19.trans (hb20.mono B19.size)
  clear S19 T19 PJ19 PM19 PX19 PD19 VJ19 VM19 VX19 VD19 FVJ19 FVM19 FVX19 FVD19 B19 hb20
  clear a0 a1 a2 a3 b0 b1 b2 b3
  obtain ⟨⟨a0, a1, a2⟩, a3⟩ := id PD20
  obtain ⟨⟨b0, b1, b2⟩, b3⟩ := id VD20
  simp only [zeroSp] at a0 a1 a2 b0 b1 b2
  go_wp2_with (go_at_call 21; fail)
  refine (spanIs_yes zeroSp _ _ (fun _ => rfl)).mono ?_
  rintro e w21 ⟨rfl, hb21⟩
  have S21 := S20.call hb21
  have T21 := T20.call hb21
  have PJ21 := PJ20.call hb21
  have PM21 := PM20.call hb21
  have PX21 := PX20.call hb21
  have PD21 := PD20.call hb21
  have VJ21 := VJ20.call hb21
  have VM21 := VM20.call hb21
  have VX21 := VX20.call hb21
  have VD21 := VD20.call hb21
  have FVJ21 := FVJ20.call hb21
  have FVM21 := FVM20.call hb21
  have FVX21 := FVX20.call hb21
  have FVD21 := FVD20.call hb21
  have B21 : Below w.heap.size w w21 := B20.trans (hb21.mono B20.size)
  clear S20 T20 PJ20 PM20 PX20 PD20 VJ20 VM20 VX20 VD20 FVJ20 FVM20 FVX20 FVD20 B20 hb21
  clear a0 a1 a2 a3 b0 b1 b2 b3
  go_wp2
  go_ret
  exact ⟨rfl, B21⟩
end Go.Proofs.Ytmapdpcfanecdaa
