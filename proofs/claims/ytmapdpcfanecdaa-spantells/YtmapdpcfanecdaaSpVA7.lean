/- The law SpanTells over what it calls: A7. -/
import Derived.Test.YtmapdpcfanecdaaSpL
import Derived.Test.YtmapdpcfanecdaaSpAt
namespace Go.Proofs.Ytmapdpcfanecdaa
set_option linter.unusedVariables false
set_option linter.unusedSimpArgs false
open Go.RowKit

set_option maxHeartbeats 8000000 in
set_option maxRecDepth 20000 in
theorem spanTells_A7 (x : Int) (s t J M X D : Sp) (I H : Bool) (w : World)
    (hJ : ∀ w, Calls Try.prog 6 #[sv s, sv t] w fun e w' => e = .returned (.tuple #[sv J, .int .i64 0]) ∧ Below w.heap.size w w')
    (hM : ∀ w, Calls Try.prog 7 #[sv s, sv t] w fun e w' => e = .returned (.tuple #[sv M, .int .i64 0]) ∧ Below w.heap.size w w')
    (hX : ∀ w, Calls Try.prog 8 #[sv s, sv t] w fun e w' => e = .returned (.tuple #[sv X, .int .i64 0]) ∧ Below w.heap.size w w')
    (hI : ∀ w, Calls Try.prog 9 #[sv s, sv t] w fun e w' => e = .returned (.tuple #[.bool I, .int .i64 0]) ∧ Below w.heap.size w w')
    (hH : ∀ w, Calls Try.prog 10 #[sv s, .int .i64 x] w fun e w' => e = .returned (.tuple #[.bool H, .int .i64 0]) ∧ Below w.heap.size w w')
    (hD : ∀ w, Calls Try.prog 11 #[.int .i64 7, sv s, sv t] w fun e w' => e = .returned (.tuple #[sv D, .int .i64 0]) ∧ Below w.heap.size w w')
    (hu : ∀ w, Calls Try.prog 12 #[sv s] w fun e w' => e = .returned (.int .i64 0) ∧ Below w.heap.size w w')
    (hc : ∀ w, Calls Try.prog 13 #[sv s, sv t] w fun e w' => e = .returned (.int .i64 0) ∧ Below w.heap.size w w')
    (hk : ∀ w, Calls Try.prog 20 #[sv s] w fun e w' => e = .returned (.int .i64 0) ∧ Below w.heap.size w w')
    (hH2 : ∀ w, Calls Try.prog 14 #[sv s, .int .i64 x] w fun e w' => e = .returned (.bool H) ∧ Below w.heap.size w w')
    (hJ2 : ∀ w, Calls Try.prog 15 #[sv s, sv t, .bool false] w fun e w' => e = .returned (sv J) ∧ Below w.heap.size w w')
    (hM2 : ∀ w, Calls Try.prog 16 #[sv s, sv t] w fun e w' => e = .returned (sv M) ∧ Below w.heap.size w w')
    (hX2 : ∀ w, Calls Try.prog 15 #[sv s, sv t, .bool true] w fun e w' => e = .returned (sv X) ∧ Below w.heap.size w w')
    (hI2 : ∀ w, Calls Try.prog 17 #[sv s, sv t] w fun e w' => e = .returned (.bool I) ∧ Below w.heap.size w w')
    (hD2 : ∀ w, Calls Try.prog 18 #[.int .i64 7, sv s, sv t] w fun e w' => e = .returned (sv D) ∧ Below w.heap.size w w') :
    Calls Try.prog 3 #[.int .i64 7, sv s, sv t, .int .i64 x] w fun e w' => e = .returned (.bool true) ∧ Below w.heap.size w w' := by
  have S0 : SpAt ((w.alloc (.cells #[.bool s.n, .int .i64 s.lo, .int .i64 s.hi] 23)).alloc (.cells #[.bool t.n, .int .i64 t.lo, .int .i64 t.hi] 23)) w.heap.size s := (SpAt.new w s).alloc _
  have T0 : SpAt ((w.alloc (.cells #[.bool s.n, .int .i64 s.lo, .int .i64 s.hi] 23)).alloc (.cells #[.bool t.n, .int .i64 t.lo, .int .i64 t.hi] 23)) (w.heap.size + 1) t := by
    have := SpAt.new (w.alloc (.cells #[.bool s.n, .int .i64 s.lo, .int .i64 s.hi] 23)) t
    simpa using this
  have B0 : Below w.heap.size w ((w.alloc (.cells #[.bool s.n, .int .i64 s.lo, .int .i64 s.hi] 23)).alloc (.cells #[.bool t.n, .int .i64 t.lo, .int .i64 t.hi] 23)) := by go_grown
  have KS : ∀ wx, SpAt wx w.heap.size s → SpAt wx (w.heap.size + 1) t → (wx.cell? ⟨w.heap.size, 0, none⟩ = some (.bool s.n) ∧ wx.cell? ⟨w.heap.size, 1, none⟩ = some (.int .i64 s.lo) ∧ wx.cell? ⟨w.heap.size, 2, none⟩ = some (.int .i64 s.hi)) ∧ wx.cell? ⟨w.heap.size + 1, 0, none⟩ = some (.bool t.n) ∧ wx.cell? ⟨w.heap.size + 1, 1, none⟩ = some (.int .i64 t.lo) ∧ wx.cell? ⟨w.heap.size + 1, 2, none⟩ = some (.int .i64 t.hi) := fun wx a b => ⟨a.1, b.1⟩
  go_enter Try.func3, Try.ntmps3
  go_wp2_with (go_at_call 6; fail)
  refine (hJ _).mono ?_
  rintro e w1 ⟨rfl, hb⟩
  have S1 := S0.call hb
  have T1 := T0.call hb
  have B1 : Below w.heap.size w w1 := B0.trans (hb.mono (by simp; omega))
  clear hb hJ B0 S0 T0
  obtain ⟨⟨s0, s1, s2⟩, s3⟩ := id S1
  obtain ⟨⟨t0, t1, t2⟩, t3⟩ := id T1
  go_wp2_with (go_at_call 7; fail)
  refine (hM _).mono ?_
  rintro e w2 ⟨rfl, hb⟩
  clear s0 s1 s2 s3 t0 t1 t2 t3
  have S2 := (S1.alloc _).call hb
  have T2 := (T1.alloc _).call hb
  have PJ2 := (SpAt.new w1 J).call hb
  have B2 : Below w.heap.size w w2 := (B1.alloc B1.size _).trans (hb.mono (by simp; have := B1.size; omega))
  clear hb hM B1 S1 T1
  obtain ⟨⟨s0, s1, s2⟩, s3⟩ := id S2
  obtain ⟨⟨t0, t1, t2⟩, t3⟩ := id T2
  go_wp2_with (go_at_call 8; fail)
  refine (hX _).mono ?_
  rintro e w3 ⟨rfl, hb⟩
  clear s0 s1 s2 s3 t0 t1 t2 t3
  have S3 := (S2.alloc _).call hb
  have T3 := (T2.alloc _).call hb
  have PJ3 := (PJ2.alloc _).call hb
  have PM3 := (SpAt.new w2 M).call hb
  have B3 : Below w.heap.size w w3 := (B2.alloc B2.size _).trans (hb.mono (by simp; have := B2.size; omega))
  clear hb hX B2 S2 T2 PJ2
  obtain ⟨⟨s0, s1, s2⟩, s3⟩ := id S3
  obtain ⟨⟨t0, t1, t2⟩, t3⟩ := id T3
  go_wp2_with (go_at_call 9; fail)
  refine (hI _).mono ?_
  rintro e w4 ⟨rfl, hb⟩
  clear s0 s1 s2 s3 t0 t1 t2 t3
  have S4 := (S3.alloc _).call hb
  have T4 := (T3.alloc _).call hb
  have PJ4 := (PJ3.alloc _).call hb
  have PM4 := (PM3.alloc _).call hb
  have PX4 := (SpAt.new w3 X).call hb
  have B4 : Below w.heap.size w w4 := (B3.alloc B3.size _).trans (hb.mono (by simp; have := B3.size; omega))
  clear hb hI B3 S3 T3 PJ3 PM3
  obtain ⟨⟨s0, s1, s2⟩, s3⟩ := id S4
  obtain ⟨⟨t0, t1, t2⟩, t3⟩ := id T4
  go_wp2_with (go_at_call 10; fail)
  refine (hH _).mono ?_
  rintro e w5 ⟨rfl, hb⟩
  clear s0 s1 s2 s3 t0 t1 t2 t3
  have S5 := S4.call hb
  have T5 := T4.call hb
  have PJ5 := PJ4.call hb
  have PM5 := PM4.call hb
  have PX5 := PX4.call hb
  have B5 : Below w.heap.size w w5 := B4.trans (hb.mono B4.size)
  clear hb hH B4 S4 T4 PJ4 PM4 PX4
  obtain ⟨⟨s0, s1, s2⟩, s3⟩ := id S5
  obtain ⟨⟨t0, t1, t2⟩, t3⟩ := id T5
  go_wp2_with (go_at_call 11; fail)
  refine (hD _).mono ?_
  rintro e w6 ⟨rfl, hb⟩
  clear s0 s1 s2 s3 t0 t1 t2 t3
  have S6 := S5.call hb
  have T6 := T5.call hb
  have PJ6 := PJ5.call hb
  have PM6 := PM5.call hb
  have PX6 := PX5.call hb
  have B6 : Below w.heap.size w w6 := B5.trans (hb.mono B5.size)
  clear hb hD B5 S5 T5 PJ5 PM5 PX5
  obtain ⟨⟨s0, s1, s2⟩, s3⟩ := id S6
  obtain ⟨⟨t0, t1, t2⟩, t3⟩ := id T6
  go_wp2
  go_region_held3 (fun w' => (w'.cell? ⟨w.heap.size, 0, none⟩ = some (.bool s.n) ∧ w'.cell? ⟨w.heap.size, 1, none⟩ = some (.int .i64 s.lo) ∧ w'.cell? ⟨w.heap.size, 2, none⟩ = some (.int .i64 s.hi)) ∧ w'.cell? ⟨w.heap.size + 1, 0, none⟩ = some (.bool t.n) ∧ w'.cell? ⟨w.heap.size + 1, 1, none⟩ = some (.int .i64 t.lo) ∧ w'.cell? ⟨w.heap.size + 1, 2, none⟩ = some (.int .i64 t.hi)) (first | exact KS _ (S6.alloc _).drew (T6.alloc _).drew | exact KS _ S7 T7 | exact KS _ S8 T8)
    (first
      | (go_at_call 12; refine (hu _).mono ?_; rintro e w7 ⟨rfl, hb7⟩; have S7 := (S6.alloc _).drew.call hb7; have T7 := (T6.alloc _).drew.call hb7)
      | (go_at_call 13; refine (hc _).mono ?_; rintro e w8 ⟨rfl, hb8⟩; have S8 := S7.call hb8; have T8 := T7.call hb8))
  have PJ8 := (((PJ6.alloc _).drew.call hb7).call hb8)
  have PM8 := (((PM6.alloc _).drew.call hb7).call hb8)
  have PX8 := (((PX6.alloc _).drew.call hb7).call hb8)
  have PD8 := ((SpAt.new w6 D).drew.call hb7).call hb8
  have B7 : Below w.heap.size w w7 := (B6.alloc B6.size _).drew.trans (hb7.mono (by simp; have := B6.size; omega))
  have B8 : Below w.heap.size w w8 := B7.trans (hb8.mono B7.size)
  clear hb7 hb8 B6 B7 hu hc S7 T7 s0 s1 s2 s3 t0 t1 t2 t3 S6 T6 PJ6 PM6 PX6
  obtain ⟨⟨s0, s1, s2⟩, s3⟩ := id S8
  obtain ⟨⟨t0, t1, t2⟩, t3⟩ := id T8
  have sz1 : w.heap.size < w8.heap.size + 1 := by omega
  have sz2 : w.heap.size < w8.heap.size + 1 + 1 := by omega
  have sz3 : w.heap.size < w8.heap.size + 1 + 1 + 1 := by omega
  have tz1 : w.heap.size + 1 < w8.heap.size + 1 := by omega
  have tz2 : w.heap.size + 1 < w8.heap.size + 1 + 1 := by omega
  have tz3 : w.heap.size + 1 < w8.heap.size + 1 + 1 + 1 := by omega
  have SW := S8.w4
  have TW := T8.w4
  have PJW := PJ8.w4
  have PMW := PM8.w4
  have PXW := PX8.w4
  have PDW := PD8.w4
  obtain ⟨⟨VJW, FVJW⟩, ⟨VMW, FVMW⟩, ⟨VXW, FVXW⟩, VDW, FVDW⟩ := w4_at w8
  have BW := below_w4 B8 B8.size
  have low8 : w.heap.size + 1 < w8.heap.size := t3
  have lowJ := PJ8.2
  have lowM := PM8.2
  have lowX := PX8.2
  have lowD := PD8.2
  clear S8 T8 PJ8 PM8 PX8 PD8 B8
  go_wp2_with (go_at_call 14; fail)
  refine (hH2 _).mono ?_
  rintro e w9 ⟨rfl, hb9⟩
  have S9 := SW.call hb9
  have T9 := TW.call hb9
  have PJ9 := PJW.call hb9
  have PM9 := PMW.call hb9
  have PX9 := PXW.call hb9
  have PD9 := PDW.call hb9
  have VJ9 := VJW.call hb9
  have VM9 := VMW.call hb9
  have VX9 := VXW.call hb9
  have VD9 := VDW.call hb9
  have FVJ9 := FVJW.call hb9
  have FVM9 := FVMW.call hb9
  have FVX9 := FVXW.call hb9
  have FVD9 := FVDW.call hb9
  have B9 : Below w.heap.size w w9 := BW.trans (hb9.mono BW.size)
  clear SW TW PJW PMW PXW PDW VJW VMW VXW VDW FVJW FVMW FVXW FVDW BW hb9
  clear s0 s1 s2 s3 t0 t1 t2 t3
  obtain ⟨⟨s0, s1, s2⟩, s3⟩ := id S9
  obtain ⟨⟨t0, t1, t2⟩, t3⟩ := id T9
  clear hH2 sz1 sz2 sz3 tz1 tz2 tz3
  go_wp2
  go_region_held3 (fun w' => (w'.cell? ⟨w.heap.size, 0, none⟩ = some (.bool s.n) ∧ w'.cell? ⟨w.heap.size, 1, none⟩ = some (.int .i64 s.lo) ∧ w'.cell? ⟨w.heap.size, 2, none⟩ = some (.int .i64 s.hi)) ∧ w'.cell? ⟨w.heap.size + 1, 0, none⟩ = some (.bool t.n) ∧ w'.cell? ⟨w.heap.size + 1, 1, none⟩ = some (.int .i64 t.lo) ∧ w'.cell? ⟨w.heap.size + 1, 2, none⟩ = some (.int .i64 t.hi))
    (first | with_reducible exact KS _ S9.drew T9.drew | with_reducible exact KS _ S10 T10 | with_reducible exact KS _ S11 T11 | with_reducible exact KS _ S12 T12 | with_reducible exact KS _ S13 T13 | (refine KS _ ?_ ?_ <;> (repeat' (first | with_reducible exact S13 | with_reducible exact T13 | refine SpAt.put ?_ (by omega)))))
    (first
      | (go_at_call 15; have T11x := T11; refine (hX2 _).mono ?_; rintro e w12 ⟨rfl, hb12⟩; have S12 := S11.call hb12; have T12 := T11.call hb12)
      | (go_at_call 15; refine (hJ2 _).mono ?_; rintro e w10 ⟨rfl, hb10⟩; have S10 := S9.drew.call hb10; have T10 := T9.drew.call hb10)
      | (go_at_call 16; refine (hM2 _).mono ?_; rintro e w11 ⟨rfl, hb11⟩; have S11 := S10.call hb11; have T11 := T10.call hb11)
      | (go_at_call 17; refine (hI2 _).mono ?_; rintro e w13 ⟨rfl, hb13⟩; have S13 := S12.call hb13; have T13 := T12.call hb13; obtain ⟨⟨a0, a1, a2⟩, a3⟩ := (((VJ9.drew.call hb10).call hb11).call hb12).call hb13; obtain ⟨⟨b0, b1, b2⟩, b3⟩ := (((VM9.drew.call hb10).call hb11).call hb12).call hb13; obtain ⟨⟨c0, c1, c2⟩, c3⟩ := (((VX9.drew.call hb10).call hb11).call hb12).call hb13; obtain ⟨⟨d0, d1, d2⟩, -⟩ := (((FVJ9.drew.call hb10).call hb11).call hb12).call hb13; obtain ⟨⟨e0, e1, e2⟩, -⟩ := (((FVM9.drew.call hb10).call hb11).call hb12).call hb13; obtain ⟨⟨f0, f1, f2⟩, -⟩ := (((FVX9.drew.call hb10).call hb11).call hb12).call hb13))
  have S14 : SpAt ((((((((((w13).setCell ⟨w8.heap.size, 0, none⟩ (.bool J.n)).setCell ⟨w8.heap.size, 1, none⟩ (.int .i64 J.lo)).setCell ⟨w8.heap.size, 2, none⟩ (.int .i64 J.hi)).setCell ⟨w8.heap.size + 1, 0, none⟩ (.bool M.n)).setCell ⟨w8.heap.size + 1, 1, none⟩ (.int .i64 M.lo)).setCell ⟨w8.heap.size + 1, 2, none⟩ (.int .i64 M.hi)).setCell ⟨w8.heap.size + 1 + 1, 0, none⟩ (.bool X.n)).setCell ⟨w8.heap.size + 1 + 1, 1, none⟩ (.int .i64 X.lo)).setCell ⟨w8.heap.size + 1 + 1, 2, none⟩ (.int .i64 X.hi)) (w.heap.size) s := ((((((S9.drew.call hb10).call hb11).call hb12).call hb13).put (by omega)).put (by omega)).put (by omega)
  have T14 : SpAt ((((((((((w13).setCell ⟨w8.heap.size, 0, none⟩ (.bool J.n)).setCell ⟨w8.heap.size, 1, none⟩ (.int .i64 J.lo)).setCell ⟨w8.heap.size, 2, none⟩ (.int .i64 J.hi)).setCell ⟨w8.heap.size + 1, 0, none⟩ (.bool M.n)).setCell ⟨w8.heap.size + 1, 1, none⟩ (.int .i64 M.lo)).setCell ⟨w8.heap.size + 1, 2, none⟩ (.int .i64 M.hi)).setCell ⟨w8.heap.size + 1 + 1, 0, none⟩ (.bool X.n)).setCell ⟨w8.heap.size + 1 + 1, 1, none⟩ (.int .i64 X.lo)).setCell ⟨w8.heap.size + 1 + 1, 2, none⟩ (.int .i64 X.hi)) (w.heap.size + 1) t := ((((((T9.drew.call hb10).call hb11).call hb12).call hb13).put (by omega)).put (by omega)).put (by omega)
  have PJ14 : SpAt ((((((((((w13).setCell ⟨w8.heap.size, 0, none⟩ (.bool J.n)).setCell ⟨w8.heap.size, 1, none⟩ (.int .i64 J.lo)).setCell ⟨w8.heap.size, 2, none⟩ (.int .i64 J.hi)).setCell ⟨w8.heap.size + 1, 0, none⟩ (.bool M.n)).setCell ⟨w8.heap.size + 1, 1, none⟩ (.int .i64 M.lo)).setCell ⟨w8.heap.size + 1, 2, none⟩ (.int .i64 M.hi)).setCell ⟨w8.heap.size + 1 + 1, 0, none⟩ (.bool X.n)).setCell ⟨w8.heap.size + 1 + 1, 1, none⟩ (.int .i64 X.lo)).setCell ⟨w8.heap.size + 1 + 1, 2, none⟩ (.int .i64 X.hi)) (w1.heap.size) J := ((((((PJ9.drew.call hb10).call hb11).call hb12).call hb13).put (by omega)).put (by omega)).put (by omega)
  have PM14 : SpAt ((((((((((w13).setCell ⟨w8.heap.size, 0, none⟩ (.bool J.n)).setCell ⟨w8.heap.size, 1, none⟩ (.int .i64 J.lo)).setCell ⟨w8.heap.size, 2, none⟩ (.int .i64 J.hi)).setCell ⟨w8.heap.size + 1, 0, none⟩ (.bool M.n)).setCell ⟨w8.heap.size + 1, 1, none⟩ (.int .i64 M.lo)).setCell ⟨w8.heap.size + 1, 2, none⟩ (.int .i64 M.hi)).setCell ⟨w8.heap.size + 1 + 1, 0, none⟩ (.bool X.n)).setCell ⟨w8.heap.size + 1 + 1, 1, none⟩ (.int .i64 X.lo)).setCell ⟨w8.heap.size + 1 + 1, 2, none⟩ (.int .i64 X.hi)) (w2.heap.size) M := ((((((PM9.drew.call hb10).call hb11).call hb12).call hb13).put (by omega)).put (by omega)).put (by omega)
  have PX14 : SpAt ((((((((((w13).setCell ⟨w8.heap.size, 0, none⟩ (.bool J.n)).setCell ⟨w8.heap.size, 1, none⟩ (.int .i64 J.lo)).setCell ⟨w8.heap.size, 2, none⟩ (.int .i64 J.hi)).setCell ⟨w8.heap.size + 1, 0, none⟩ (.bool M.n)).setCell ⟨w8.heap.size + 1, 1, none⟩ (.int .i64 M.lo)).setCell ⟨w8.heap.size + 1, 2, none⟩ (.int .i64 M.hi)).setCell ⟨w8.heap.size + 1 + 1, 0, none⟩ (.bool X.n)).setCell ⟨w8.heap.size + 1 + 1, 1, none⟩ (.int .i64 X.lo)).setCell ⟨w8.heap.size + 1 + 1, 2, none⟩ (.int .i64 X.hi)) (w3.heap.size) X := ((((((PX9.drew.call hb10).call hb11).call hb12).call hb13).put (by omega)).put (by omega)).put (by omega)
  have PD14 : SpAt ((((((((((w13).setCell ⟨w8.heap.size, 0, none⟩ (.bool J.n)).setCell ⟨w8.heap.size, 1, none⟩ (.int .i64 J.lo)).setCell ⟨w8.heap.size, 2, none⟩ (.int .i64 J.hi)).setCell ⟨w8.heap.size + 1, 0, none⟩ (.bool M.n)).setCell ⟨w8.heap.size + 1, 1, none⟩ (.int .i64 M.lo)).setCell ⟨w8.heap.size + 1, 2, none⟩ (.int .i64 M.hi)).setCell ⟨w8.heap.size + 1 + 1, 0, none⟩ (.bool X.n)).setCell ⟨w8.heap.size + 1 + 1, 1, none⟩ (.int .i64 X.lo)).setCell ⟨w8.heap.size + 1 + 1, 2, none⟩ (.int .i64 X.hi)) (w6.heap.size) D := ((((((PD9.drew.call hb10).call hb11).call hb12).call hb13).put (by omega)).put (by omega)).put (by omega)
  have VD14 : SpAt ((((((((((w13).setCell ⟨w8.heap.size, 0, none⟩ (.bool J.n)).setCell ⟨w8.heap.size, 1, none⟩ (.int .i64 J.lo)).setCell ⟨w8.heap.size, 2, none⟩ (.int .i64 J.hi)).setCell ⟨w8.heap.size + 1, 0, none⟩ (.bool M.n)).setCell ⟨w8.heap.size + 1, 1, none⟩ (.int .i64 M.lo)).setCell ⟨w8.heap.size + 1, 2, none⟩ (.int .i64 M.hi)).setCell ⟨w8.heap.size + 1 + 1, 0, none⟩ (.bool X.n)).setCell ⟨w8.heap.size + 1 + 1, 1, none⟩ (.int .i64 X.lo)).setCell ⟨w8.heap.size + 1 + 1, 2, none⟩ (.int .i64 X.hi)) (w8.heap.size + 1 + 1 + 1) zeroSp := ((((((VD9.drew.call hb10).call hb11).call hb12).call hb13).put (by omega)).put (by omega)).put (by omega)
  have VJ14 : SpAt ((((((((((w13).setCell ⟨w8.heap.size, 0, none⟩ (.bool J.n)).setCell ⟨w8.heap.size, 1, none⟩ (.int .i64 J.lo)).setCell ⟨w8.heap.size, 2, none⟩ (.int .i64 J.hi)).setCell ⟨w8.heap.size + 1, 0, none⟩ (.bool M.n)).setCell ⟨w8.heap.size + 1, 1, none⟩ (.int .i64 M.lo)).setCell ⟨w8.heap.size + 1, 2, none⟩ (.int .i64 M.hi)).setCell ⟨w8.heap.size + 1 + 1, 0, none⟩ (.bool X.n)).setCell ⟨w8.heap.size + 1 + 1, 1, none⟩ (.int .i64 X.lo)).setCell ⟨w8.heap.size + 1 + 1, 2, none⟩ (.int .i64 X.hi)) (w8.heap.size) J := ((((((VJ9.drew.call hb10).call hb11).call hb12).call hb13).set).put (by omega)).put (by omega)
  have VM14 : SpAt ((((((((((w13).setCell ⟨w8.heap.size, 0, none⟩ (.bool J.n)).setCell ⟨w8.heap.size, 1, none⟩ (.int .i64 J.lo)).setCell ⟨w8.heap.size, 2, none⟩ (.int .i64 J.hi)).setCell ⟨w8.heap.size + 1, 0, none⟩ (.bool M.n)).setCell ⟨w8.heap.size + 1, 1, none⟩ (.int .i64 M.lo)).setCell ⟨w8.heap.size + 1, 2, none⟩ (.int .i64 M.hi)).setCell ⟨w8.heap.size + 1 + 1, 0, none⟩ (.bool X.n)).setCell ⟨w8.heap.size + 1 + 1, 1, none⟩ (.int .i64 X.lo)).setCell ⟨w8.heap.size + 1 + 1, 2, none⟩ (.int .i64 X.hi)) (w8.heap.size + 1) M := ((((((VM9.drew.call hb10).call hb11).call hb12).call hb13).put (by omega)).set).put (by omega)
  have VX14 : SpAt ((((((((((w13).setCell ⟨w8.heap.size, 0, none⟩ (.bool J.n)).setCell ⟨w8.heap.size, 1, none⟩ (.int .i64 J.lo)).setCell ⟨w8.heap.size, 2, none⟩ (.int .i64 J.hi)).setCell ⟨w8.heap.size + 1, 0, none⟩ (.bool M.n)).setCell ⟨w8.heap.size + 1, 1, none⟩ (.int .i64 M.lo)).setCell ⟨w8.heap.size + 1, 2, none⟩ (.int .i64 M.hi)).setCell ⟨w8.heap.size + 1 + 1, 0, none⟩ (.bool X.n)).setCell ⟨w8.heap.size + 1 + 1, 1, none⟩ (.int .i64 X.lo)).setCell ⟨w8.heap.size + 1 + 1, 2, none⟩ (.int .i64 X.hi)) (w8.heap.size + 1 + 1) X := ((((((VX9.drew.call hb10).call hb11).call hb12).call hb13).put (by omega)).put (by omega)).set
  have FVD14 : FrAt ((((((((((w13).setCell ⟨w8.heap.size, 0, none⟩ (.bool J.n)).setCell ⟨w8.heap.size, 1, none⟩ (.int .i64 J.lo)).setCell ⟨w8.heap.size, 2, none⟩ (.int .i64 J.hi)).setCell ⟨w8.heap.size + 1, 0, none⟩ (.bool M.n)).setCell ⟨w8.heap.size + 1, 1, none⟩ (.int .i64 M.lo)).setCell ⟨w8.heap.size + 1, 2, none⟩ (.int .i64 M.hi)).setCell ⟨w8.heap.size + 1 + 1, 0, none⟩ (.bool X.n)).setCell ⟨w8.heap.size + 1 + 1, 1, none⟩ (.int .i64 X.lo)).setCell ⟨w8.heap.size + 1 + 1, 2, none⟩ (.int .i64 X.hi)) (w8.heap.size + 1 + 1 + 1) := ((((((FVD9.drew.call hb10).call hb11).call hb12).call hb13).put).put).put
  have B13 : Below w.heap.size w w13 := ((((B9.drew.trans (hb10.mono B9.size)).trans (hb11.mono (B9.drew.trans (hb10.mono B9.size)).size)).trans (hb12.mono ((B9.drew.trans (hb10.mono B9.size)).trans (hb11.mono (B9.drew.trans (hb10.mono B9.size)).size)).size))).trans (hb13.mono ((((B9.drew.trans (hb10.mono B9.size)).trans (hb11.mono (B9.drew.trans (hb10.mono B9.size)).size)).trans (hb12.mono ((B9.drew.trans (hb10.mono B9.size)).trans (hb11.mono (B9.drew.trans (hb10.mono B9.size)).size)).size))).size)
  have B14 : Below w.heap.size w ((((((((((w13).setCell ⟨w8.heap.size, 0, none⟩ (.bool J.n)).setCell ⟨w8.heap.size, 1, none⟩ (.int .i64 J.lo)).setCell ⟨w8.heap.size, 2, none⟩ (.int .i64 J.hi)).setCell ⟨w8.heap.size + 1, 0, none⟩ (.bool M.n)).setCell ⟨w8.heap.size + 1, 1, none⟩ (.int .i64 M.lo)).setCell ⟨w8.heap.size + 1, 2, none⟩ (.int .i64 M.hi)).setCell ⟨w8.heap.size + 1 + 1, 0, none⟩ (.bool X.n)).setCell ⟨w8.heap.size + 1 + 1, 1, none⟩ (.int .i64 X.lo)).setCell ⟨w8.heap.size + 1 + 1, 2, none⟩ (.int .i64 X.hi)) := below_put (below_put (below_put B13 (by omega)) (by omega)) (by omega)
  clear S10 T10 S11 T11 S12 T12 S13 T13 a0 a1 a2 a3 b0 b1 b2 b3 c0 c1 c2 c3 d0 d1 d2 e0 e1 e2 f0 f1 f2 hb10 hb11 hb12 hb13 B13 hJ2 hM2 hX2 hI2 S9 T9 PJ9 PM9 PX9 PD9 VJ9 VM9 VX9 VD9 FVJ9 FVM9 FVX9 FVD9 B9
  clear s0 s1 s2 s3 t0 t1 t2 t3
  generalize (((((((((w13).setCell ⟨w8.heap.size, 0, none⟩ (.bool J.n)).setCell ⟨w8.heap.size, 1, none⟩ (.int .i64 J.lo)).setCell ⟨w8.heap.size, 2, none⟩ (.int .i64 J.hi)).setCell ⟨w8.heap.size + 1, 0, none⟩ (.bool M.n)).setCell ⟨w8.heap.size + 1, 1, none⟩ (.int .i64 M.lo)).setCell ⟨w8.heap.size + 1, 2, none⟩ (.int .i64 M.hi)).setCell ⟨w8.heap.size + 1 + 1, 0, none⟩ (.bool X.n)).setCell ⟨w8.heap.size + 1 + 1, 1, none⟩ (.int .i64 X.lo)).setCell ⟨w8.heap.size + 1 + 1, 2, none⟩ (.int .i64 X.hi) = w14 at B14 S14 T14 PJ14 PM14 PX14 PD14 VJ14 VM14 VX14 VD14 FVD14 ⊢
  obtain ⟨⟨s0, s1, s2⟩, s3⟩ := id S14
  obtain ⟨⟨t0, t1, t2⟩, t3⟩ := id T14
  go_wp2_with (go_at_call 18; fail)
  refine (hD2 _).mono ?_
  rintro e w15 ⟨rfl, hb15⟩
  have S15 := S14.call hb15
  have T15 := T14.call hb15
  have PJ15 := PJ14.call hb15
  have PM15 := PM14.call hb15
  have PX15 := PX14.call hb15
  have PD15 := PD14.call hb15
  have VJ15 := VJ14.call hb15
  have VM15 := VM14.call hb15
  have VX15 := VX14.call hb15
  have VD15 := VD14.call hb15
  have FVD15 := FVD14.call hb15
  have B15 : Below w.heap.size w w15 := B14.trans (hb15.mono B14.size)
  clear S14 T14 PJ14 PM14 PX14 PD14 VJ14 VM14 VX14 VD14 FVD14 B14 hb15
  obtain ⟨⟨a0, a1, a2⟩, a3⟩ := id VD15
  obtain ⟨⟨d0, d1, d2⟩, -⟩ := id FVD15
  clear s0 s1 s2 s3 t0 t1 t2 t3 hD2
  go_wp2_with (go_at_call 19; fail)
  refine (spanBegun_any _).mono ?_
  rintro e w16 ⟨rfl, hb16⟩
  have S16 := (SpAt.put (r := D) (g := w8.heap.size + 1 + 1 + 1) S15 (by omega)).call hb16
  have T16 := (SpAt.put (r := D) (g := w8.heap.size + 1 + 1 + 1) T15 (by omega)).call hb16
  have PJ16 := (SpAt.put (r := D) (g := w8.heap.size + 1 + 1 + 1) PJ15 (by omega)).call hb16
  have PM16 := (SpAt.put (r := D) (g := w8.heap.size + 1 + 1 + 1) PM15 (by omega)).call hb16
  have PX16 := (SpAt.put (r := D) (g := w8.heap.size + 1 + 1 + 1) PX15 (by omega)).call hb16
  have PD16 := (SpAt.put (r := D) (g := w8.heap.size + 1 + 1 + 1) PD15 (by omega)).call hb16
  have VJ16 := (SpAt.put (r := D) (g := w8.heap.size + 1 + 1 + 1) VJ15 (by omega)).call hb16
  have VM16 := (SpAt.put (r := D) (g := w8.heap.size + 1 + 1 + 1) VM15 (by omega)).call hb16
  have VX16 := (SpAt.put (r := D) (g := w8.heap.size + 1 + 1 + 1) VX15 (by omega)).call hb16
  have VD16 := (SpAt.set (r := D) VD15).call hb16
  have B16 : Below w.heap.size w w16 := (below_put (r := D) (g := w8.heap.size + 1 + 1 + 1) B15 (by omega)).trans (hb16.mono (below_put (r := D) (g := w8.heap.size + 1 + 1 + 1) B15 (by omega)).size)
  clear hb16 a0 a1 a2 a3 d0 d1 d2 S15 T15 PJ15 PM15 PX15 PD15 VJ15 VM15 VX15 VD15 FVD15 B15
  obtain ⟨⟨s0, s1, s2⟩, s3⟩ := id S16
  go_wp2_with (go_at_call 20; fail)
  refine (hk _).mono ?_
  rintro e w17 ⟨rfl, hb17⟩
  have S17 := S16.call hb17
  have T17 := T16.call hb17
  have PJ17 := PJ16.call hb17
  have PM17 := PM16.call hb17
  have PX17 := PX16.call hb17
  have PD17 := PD16.call hb17
  have VJ17 := VJ16.call hb17
  have VM17 := VM16.call hb17
  have VX17 := VX16.call hb17
  have VD17 := VD16.call hb17
  have B17 : Below w.heap.size w w17 := B16.trans (hb17.mono B16.size)
  clear S16 T16 PJ16 PM16 PX16 PD16 VJ16 VM16 VX16 VD16 B16 hb17
  clear s0 s1 s2 s3 hk
  obtain ⟨⟨a0, a1, a2⟩, a3⟩ := id PJ17
  obtain ⟨⟨b0, b1, b2⟩, b3⟩ := id VJ17
  go_wp2_with (go_at_call 21; fail)
  refine (spanIs_yes J _ _ (fun h => absurd rfl h)).mono ?_
  rintro e w18 ⟨rfl, hb18⟩
  have S18 := S17.call hb18
  have T18 := T17.call hb18
  have PJ18 := PJ17.call hb18
  have PM18 := PM17.call hb18
  have PX18 := PX17.call hb18
  have PD18 := PD17.call hb18
  have VJ18 := VJ17.call hb18
  have VM18 := VM17.call hb18
  have VX18 := VX17.call hb18
  have VD18 := VD17.call hb18
  have B18 : Below w.heap.size w w18 := B17.trans (hb18.mono B17.size)
  clear S17 T17 PJ17 PM17 PX17 PD17 VJ17 VM17 VX17 VD17 B17 hb18
  clear a0 a1 a2 a3 b0 b1 b2 b3
  obtain ⟨⟨a0, a1, a2⟩, a3⟩ := id PM18
  obtain ⟨⟨b0, b1, b2⟩, b3⟩ := id VM18
  go_wp2_with (go_at_call 21; fail)
  refine (spanIs_yes M _ _ (fun h => absurd rfl h)).mono ?_
  rintro e w19 ⟨rfl, hb19⟩
  have S19 := S18.call hb19
  have T19 := T18.call hb19
  have PJ19 := PJ18.call hb19
  have PM19 := PM18.call hb19
  have PX19 := PX18.call hb19
  have PD19 := PD18.call hb19
  have VJ19 := VJ18.call hb19
  have VM19 := VM18.call hb19
  have VX19 := VX18.call hb19
  have VD19 := VD18.call hb19
  have B19 : Below w.heap.size w w19 := B18.trans (hb19.mono B18.size)
  clear S18 T18 PJ18 PM18 PX18 PD18 VJ18 VM18 VX18 VD18 B18 hb19
  clear a0 a1 a2 a3 b0 b1 b2 b3
  obtain ⟨⟨a0, a1, a2⟩, a3⟩ := id PX19
  obtain ⟨⟨b0, b1, b2⟩, b3⟩ := id VX19
  go_wp2_with (go_at_call 21; fail)
  refine (spanIs_yes X _ _ (fun h => absurd rfl h)).mono ?_
  rintro e w20 ⟨rfl, hb20⟩
  have S20 := S19.call hb20
  have T20 := T19.call hb20
  have PJ20 := PJ19.call hb20
  have PM20 := PM19.call hb20
  have PX20 := PX19.call hb20
  have PD20 := PD19.call hb20
  have VJ20 := VJ19.call hb20
  have VM20 := VM19.call hb20
  have VX20 := VX19.call hb20
  have VD20 := VD19.call hb20
  have B20 : Below w.heap.size w w20 := B19.trans (hb20.mono B19.size)
  clear S19 T19 PJ19 PM19 PX19 PD19 VJ19 VM19 VX19 VD19 B19 hb20
  clear a0 a1 a2 a3 b0 b1 b2 b3
  obtain ⟨⟨a0, a1, a2⟩, a3⟩ := id PD20
  obtain ⟨⟨b0, b1, b2⟩, b3⟩ := id VD20
  go_wp2_with (go_at_call 21; fail)
  refine (spanIs_yes D _ _ (fun h => absurd rfl h)).mono ?_
  rintro e w21 ⟨rfl, hb21⟩
  have S21 := S20.call hb21
  have T21 := T20.call hb21
  have PJ21 := PJ20.call hb21
  have PM21 := PM20.call hb21
  have PX21 := PX20.call hb21
  have PD21 := PD20.call hb21
  have VJ21 := VJ20.call hb21
  have VM21 := VM20.call hb21
  have VX21 := VX20.call hb21
  have VD21 := VD20.call hb21
  have B21 : Below w.heap.size w w21 := B20.trans (hb21.mono B20.size)
  clear S20 T20 PJ20 PM20 PX20 PD20 VJ20 VM20 VX20 VD20 B20 hb21
  clear a0 a1 a2 a3 b0 b1 b2 b3
  go_wp2
  go_ret
  exact ⟨rfl, B21⟩
end Go.Proofs.Ytmapdpcfanecdaa
