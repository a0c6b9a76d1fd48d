/- The law SpanSound: K7. -/
import Derived.Test.YtmapdpcfanecdaaSpY
import Derived.Test.YtmapdpcfanecdaaSpAt
namespace Go.Proofs.Ytmapdpcfanecdaa
set_option linter.unusedVariables false
set_option linter.unusedSimpArgs false
open Go.RowKit

set_option maxHeartbeats 2000000 in
set_option maxRecDepth 20000 in
theorem spanSound_K7 (k a b lo hi lo' hi' : Int) (ls : Option Addr) (cap : Nat) (L : List Sp) (w : World) (hL : SpsAt w ls L) (hlen : L.length ≤ 9223372036854775807) (fk : fitS k) (fa : fitS a) (fb : fitS b) (hK : chs k 3 = 2) (hs : Sp.Ok ⟨false, lo, hi⟩) (ht : Sp.Ok ⟨false, lo', hi'⟩) :
    Calls Try.prog 4 #[.int .i64 k, sv ⟨false, lo, hi⟩, sv ⟨false, lo', hi'⟩, .int .i64 a, .int .i64 b, .slice ls L.length cap] w fun e w' => e = .returned (.bool true) ∧ Below w.heap.size w w' := by
  have hc : ckSps ⟨false, lo, hi⟩ ⟨false, lo', hi'⟩ = 0 := ckSps_ok.2 ⟨hs, ht⟩
  have hD := fun w => do_any 7 ⟨false, lo, hi⟩ ⟨false, lo', hi'⟩ w
  rw [show doErr 7 ⟨false, lo, hi⟩ ⟨false, lo', hi'⟩ = 0 by unfold doErr; rw [if_pos hc, if_pos (by decide)]] at hD
  have hC := fun w => choose_any k 3 w fk (by decide)
  rw [hK] at hC
  have hs' := hs
  have ht' := ht
  obtain ⟨hs1, hs2, -, hs3⟩ := hs'
  obtain ⟨ht1, ht2, -, ht3⟩ := ht'
  simp only [inNum] at hs1 hs2 ht1 ht2 hs3 ht3
  have ka := fun w => choose_any a (hi - lo + 1) w fa (by omega)
  have kb := fun w => choose_any b (hi' - lo' + 1) w fb (by omega)
  have ca := chs_lt a (n := hi - lo + 1) (by omega)
  have cb := chs_lt b (n := hi' - lo' + 1) (by omega)
  generalize chs a (hi - lo + 1) = X at ka ca
  generalize chs b (hi' - lo' + 1) = Y at kb cb
  have hJ := fun w => joinF_any ⟨false, lo, hi⟩ ⟨false, lo', hi'⟩ w
  rw [hc] at hJ
  have hHd := fun w => has_any (doSp 7 ⟨false, lo, hi⟩ ⟨false, lo', hi'⟩) (wrS (opOf 7 (lo + X) (lo' + Y))) w
  rw [ckSp_ok.2 (do_ok hs ht), do_has (by decide) rfl rfl ⟨by show lo ≤ lo + X; omega, by show lo + X ≤ hi; omega⟩ ⟨by show lo' ≤ lo' + Y; omega, by show lo' + Y ≤ hi'; omega⟩] at hHd
  have hHa := fun w => has_any (joinSp ⟨false, lo, hi⟩ ⟨false, lo', hi'⟩) (lo + X) w
  have hHb := fun w => has_any (joinSp ⟨false, lo, hi⟩ ⟨false, lo', hi'⟩) (lo' + Y) w
  rw [ckSp_ok.2 (join_ok hs ht), join_has rfl rfl (.inl ⟨by show lo ≤ lo + X; omega, by show lo + X ≤ hi; omega⟩)] at hHa
  rw [ckSp_ok.2 (join_ok hs ht), join_has rfl rfl (.inr ⟨by show lo' ≤ lo' + Y; omega, by show lo' + Y ≤ hi'; omega⟩)] at hHb
  have hN : opOf 7 (lo + X) (lo' + Y) = (lo + X) * (lo' + Y) := rfl
  rw [hN] at hHd
  have hW := fun w => wrapS_any ((lo + X) * (lo' + Y)) w
  generalize hDD : doSp 7 ⟨false, lo, hi⟩ ⟨false, lo', hi'⟩ = D at hD hHd
  generalize hJJ : joinSp ⟨false, lo, hi⟩ ⟨false, lo', hi'⟩ = J at hJ hHa hHb
  rw [show spIf 0 D = D from rfl] at hD
  rw [show spIf 0 J = J from rfl] at hJ
  clear hDD hJJ hN
  have e1 : wrap64 (hi - lo) = hi - lo := wrap_small (by omega) (by omega)
  have i1 : IntKind.i64.wrap (hi - lo) = hi - lo := wrapkS e1
  have e2 : wrap64 (hi - lo + 1) = hi - lo + 1 := wrap_small (by omega) (by omega)
  have i2 : IntKind.i64.wrap (hi - lo + 1) = hi - lo + 1 := wrapkS e2
  have e3 : wrap64 (hi' - lo') = hi' - lo' := wrap_small (by omega) (by omega)
  have i3 : IntKind.i64.wrap (hi' - lo') = hi' - lo' := wrapkS e3
  have e4 : wrap64 (hi' - lo' + 1) = hi' - lo' + 1 := wrap_small (by omega) (by omega)
  have i4 : IntKind.i64.wrap (hi' - lo' + 1) = hi' - lo' + 1 := wrapkS e4
  have e5 : wrap64 (lo + X) = lo + X := wrap_small (by omega) (by omega)
  have i5 : IntKind.i64.wrap (lo + X) = lo + X := wrapkS e5
  have e6 : wrap64 (lo' + Y) = lo' + Y := wrap_small (by omega) (by omega)
  have i6 : IntKind.i64.wrap (lo' + Y) = lo' + Y := wrapkS e6
  have e7 : wrap64 ((lo + X) * (lo' + Y)) = (lo + X) * (lo' + Y) := wrap_mul (by unfold inNum; omega) (by unfold inNum; omega)
  have S0 : SpAt ((w.alloc (.cells #[.bool false, .int .i64 lo, .int .i64 hi] 23)).alloc (.cells #[.bool false, .int .i64 lo', .int .i64 hi'] 23)) w.heap.size ⟨false, lo, hi⟩ := (SpAt.new w ⟨false, lo, hi⟩).alloc _
  have FS0 : FrAt ((w.alloc (.cells #[.bool false, .int .i64 lo, .int .i64 hi] 23)).alloc (.cells #[.bool false, .int .i64 lo', .int .i64 hi'] 23)) w.heap.size := (FrAt.new w ⟨false, lo, hi⟩).alloc _
  have T0 : SpAt ((w.alloc (.cells #[.bool false, .int .i64 lo, .int .i64 hi] 23)).alloc (.cells #[.bool false, .int .i64 lo', .int .i64 hi'] 23)) (w.heap.size + 1) ⟨false, lo', hi'⟩ := by
    have := SpAt.new (w.alloc (.cells #[.bool false, .int .i64 lo, .int .i64 hi] 23)) ⟨false, lo', hi'⟩
    simpa using this
  have B0 : Below w.heap.size w ((w.alloc (.cells #[.bool false, .int .i64 lo, .int .i64 hi] 23)).alloc (.cells #[.bool false, .int .i64 lo', .int .i64 hi'] 23)) := by go_grown
  go_enter Try.func4, Try.ntmps4
  go_wp2_with (go_at_call 19; fail)
  refine (spanBegun_any _).mono ?_
  rintro e w1 ⟨rfl, hb1⟩
  have S1 := S0.call hb1
  have FS1 := FS0.call hb1
  have T1 := T0.call hb1
  have B1 : Below w.heap.size w w1 := B0.trans (hb1.mono (by simp; omega))
  clear hb1 S0 FS0 T0 B0
  obtain ⟨⟨s0, s1, s2⟩, s3⟩ := id S1
  obtain ⟨⟨t0, t1, t2⟩, t3⟩ := id T1
  go_wp2_with (first | (go_at_call 22; refine (hC _).mono ?_; rintro e w' ⟨rfl, hw⟩; have hw2 := hw.symm; subst hw2) | (go_at_call 11; fail))
  refine (hD _).mono ?_
  rintro e w2 ⟨rfl, hb2⟩
  have S2 := S1.call hb2
  have FS2 := FS1.call hb2
  have T2 := T1.call hb2
  have B2 : Below w.heap.size w w2 := B1.trans (hb2.mono B1.size)
  clear hb2 S1 FS1 T1 B1 hC hD s0 s1 s2 s3 t0 t1 t2 t3
  obtain ⟨⟨s0, s1, s2⟩, s3⟩ := id S2
  obtain ⟨⟨t0, t1, t2⟩, t3⟩ := id T2
  have KS : ((w2.alloc (.cells #[.bool D.n, .int .i64 D.lo, .int .i64 D.hi] 23)).drew.cell? ⟨w.heap.size, 1, none⟩ = some (.int .i64 lo) ∧ (w2.alloc (.cells #[.bool D.n, .int .i64 D.lo, .int .i64 D.hi] 23)).drew.cell? ⟨w.heap.size, 2, none⟩ = some (.int .i64 hi)) ∧ (w2.alloc (.cells #[.bool D.n, .int .i64 D.lo, .int .i64 D.hi] 23)).drew.cell? ⟨w.heap.size + 1, 1, none⟩ = some (.int .i64 lo') ∧ (w2.alloc (.cells #[.bool D.n, .int .i64 D.lo, .int .i64 D.hi] 23)).drew.cell? ⟨w.heap.size + 1, 2, none⟩ = some (.int .i64 hi') := ⟨(S2.alloc _).drew.1.2, (T2.alloc _).drew.1.2⟩
  go_wp2
  go_region_held3 (fun w' => (w'.cell? ⟨w.heap.size, 1, none⟩ = some (.int .i64 lo) ∧ w'.cell? ⟨w.heap.size, 2, none⟩ = some (.int .i64 hi)) ∧ w'.cell? ⟨w.heap.size + 1, 1, none⟩ = some (.int .i64 lo') ∧ w'.cell? ⟨w.heap.size + 1, 2, none⟩ = some (.int .i64 hi')) (with_reducible exact KS)
    (first
      | (go_at_call 22; have zzMark2 := zzMark; refine (kb _).mono ?_; rintro e wb ⟨rfl, hwb⟩; have hwb2 := hwb.symm; subst hwb2)
      | (go_at_call 22; refine (ka _).mono ?_; rintro e wa ⟨rfl, hwa⟩; have hwa2 := hwa.symm; subst hwa2; have zzMark : HidS True := trivial))
  go_wp2
  have PD2 := (SpAt.new w2 D).drew
  have KD : ∀ wx, SpAt wx w2.heap.size D → wx.cell? ⟨w2.heap.size, 0, none⟩ = some (.bool D.n) ∧ wx.cell? ⟨w2.heap.size, 1, none⟩ = some (.int .i64 D.lo) ∧ wx.cell? ⟨w2.heap.size, 2, none⟩ = some (.int .i64 D.hi) := fun wx h => h.1
  go_region_held3 (fun w' => w'.cell? ⟨w2.heap.size, 0, none⟩ = some (.bool D.n) ∧ w'.cell? ⟨w2.heap.size, 1, none⟩ = some (.int .i64 D.lo) ∧ w'.cell? ⟨w2.heap.size, 2, none⟩ = some (.int .i64 D.hi)) (first | exact KD _ PD2.drew | exact KD _ PD3)
    (first
      | (go_at_call 23; refine (hW _).mono ?_; rintro e wc ⟨rfl, hwc⟩; have hwc2 := hwc.symm; subst hwc2)
      | (go_at_call 10; refine (hHd _).mono ?_; rintro e w3 ⟨rfl, hb3⟩; have PD3 := PD2.drew.call hb3))
  have S3 := (S2.alloc _).drew.drew.call hb3
  have FS3 := (FS2.alloc _).drew.drew.call hb3
  have T3 := (T2.alloc _).drew.drew.call hb3
  have B3 : Below w.heap.size w w3 := (B2.alloc B2.size _).drew.drew.trans (hb3.mono (by simp; have := B2.size; omega))
  clear hb3 S2 FS2 T2 B2 hHd hW PD2 PD3 KD s0 s1 s2 s3 t0 t1 t2 t3 KS
  obtain ⟨⟨s0, s1, s2⟩, s3⟩ := id S3
  obtain ⟨⟨t0, t1, t2⟩, t3⟩ := id T3
  go_wp2_with (go_at_call 6; fail)
  refine (hJ _).mono ?_
  rintro e w4 ⟨rfl, hb4⟩
  have S4 := S3.call hb4
  have FS4 := FS3.call hb4
  have B4 : Below w.heap.size w w4 := B3.trans (hb4.mono B3.size)
  clear hb4 S3 FS3 T3 B3 hJ s0 s1 s2 s3 t0 t1 t2 t3
  go_wp2_with (go_at_call 10; fail)
  refine (hHa _).mono ?_
  rintro e w5 ⟨rfl, hb5⟩
  have S5 := (S4.alloc _).call hb5
  have FS5 := (FS4.alloc _).call hb5
  have PJ5 := (SpAt.new w4 J).call hb5
  have B5 : Below w.heap.size w w5 := (B4.alloc B4.size _).trans (hb5.mono (by simp; have := B4.size; omega))
  clear hb5 S4 FS4 B4 hHa
  obtain ⟨⟨s0, s1, s2⟩, s3⟩ := id PJ5
  go_wp2_with (go_at_call 10; fail)
  refine (hHb _).mono ?_
  rintro e w6 ⟨rfl, hb6⟩
  have S6 := S5.call hb6
  have FS6 := FS5.call hb6
  have B6 : Below w.heap.size w w6 := B5.trans (hb6.mono B5.size)
  clear hb6 S5 FS5 PJ5 B5 hHb s0 s1 s2 s3 ca cb hs1 hs2 hs3 ht1 ht2 ht3 fa fb fk hK hc ka kb e1 i1 e2 i2 e3 i3 e4 i4 e5 i5 e6 i6 e7
  go_wp2
  go_loopw [23, 24] (fun c i wr => ∃ (I : Nat) (cnt : Int) (cur : Sp), I ≤ L.length ∧ i = .int .i64 I ∧ c = .int .i64 cnt ∧ 0 ≤ cnt ∧ cnt + pot cur ≤ 2 ∧ cur.Ok ∧ SpAt wr w.heap.size cur ∧ FrAt wr w.heap.size ∧ Below w.heap.size w wr) (fun _ i _ => L.length - (intOf i).toNat)
  case atStart => exact ⟨0, 0, ⟨false, lo, hi⟩, Nat.zero_le _, rfl, rfl, Int.le_refl _, by have := pot_le ⟨false, lo, hi⟩; omega, hs, S6, FS6, B6⟩
  case round =>
    clear hs ht S6 FS6 B6
    obtain ⟨I, cnt, cur, hI, rfl, rfl, hc0, hcp, hok, SC, FC, BC⟩ := hrel
    obtain ⟨⟨s0, s1, s2⟩, s3⟩ := id SC
    by_cases hlt : I < L.length
    · rcases hL with rfl | ⟨b0, off, rfl, hb0, hcell⟩
      · exact absurd hlt (by simp)
      · obtain ⟨q0, q1, q2⟩ : wr.cell? ⟨b0, off + I * 3, none⟩ = some (.bool L[I].n) ∧ wr.cell? ⟨b0, off + I * 3 + 1, none⟩ = some (.int .i64 L[I].lo) ∧ wr.cell? ⟨b0, off + I * 3 + 2, none⟩ = some (.int .i64 L[I].hi) := by
          rw [BC.cell (p := ⟨b0, _, none⟩) hb0, BC.cell (p := ⟨b0, _, none⟩) hb0, BC.cell (p := ⟨b0, _, none⟩) hb0]
          exact hcell I hlt
        have n0 : (0 : Int) ≤ (I : Int) := by omega
        have n1 : (I : Int) < (L.length : Int) := by omega
        have hWd := fun w => widenF_any cur L[I] w
        have hLI := @wide_meet cur L[I] hok
        have hWo := @wide_ok cur L[I] hok
        have hWp := @wide_pot cur L[I]
        have hck := @ckSps_ok cur L[I]
        have KE : ∀ wx, Below w.heap.size w wx → wx.cell? ⟨b0, off + I * 3, none⟩ = some (.bool L[I].n) ∧ wx.cell? ⟨b0, off + I * 3 + 1, none⟩ = some (.int .i64 L[I].lo) ∧ wx.cell? ⟨b0, off + I * 3 + 2, none⟩ = some (.int .i64 L[I].hi) := by
          intro wx hb
          rw [hb.cell (p := ⟨b0, _, none⟩) hb0, hb.cell (p := ⟨b0, _, none⟩) hb0, hb.cell (p := ⟨b0, _, none⟩) hb0]
          exact hcell I hlt
        generalize L[I] = el at *
        clear hcell
        have KS : ∀ wx, SpAt wx w.heap.size cur → Below w.heap.size w wx → (wx.cell? ⟨w.heap.size, 0, none⟩ = some (.bool cur.n) ∧ wx.cell? ⟨w.heap.size, 1, none⟩ = some (.int .i64 cur.lo) ∧ wx.cell? ⟨w.heap.size, 2, none⟩ = some (.int .i64 cur.hi)) ∧ wx.cell? ⟨b0, off + I * 3, none⟩ = some (.bool el.n) ∧ wx.cell? ⟨b0, off + I * 3 + 1, none⟩ = some (.int .i64 el.lo) ∧ wx.cell? ⟨b0, off + I * 3 + 2, none⟩ = some (.int .i64 el.hi) := fun wx h hb => ⟨h.1, KE wx hb⟩
        by_cases hc : ckSps cur el = 0
        · have hel := (hck.1 hc).2
          have hXo := hWo hel
          have hIn := fun w => within_any cur (wideSp cur el) w
          rw [ckSps_ok.2 ⟨hok, hXo⟩, hLI hel, show (decide ((0 : Int) = 0) && @decide _ (cur.dq cur)) = true by simp] at hIn
          rw [hc, show spIf 0 (wideSp cur el) = wideSp cur el from rfl] at hWd
          have hPn := fun hn => hWp hn hok
          have hPx := pot_le (wideSp cur el)
          generalize wideSp cur el = X at *
          clear hLI hWo hWp hck hel hc
          go_wp2
          go_region_held3 (fun w' => (w'.cell? ⟨w.heap.size, 0, none⟩ = some (.bool cur.n) ∧ w'.cell? ⟨w.heap.size, 1, none⟩ = some (.int .i64 cur.lo) ∧ w'.cell? ⟨w.heap.size, 2, none⟩ = some (.int .i64 cur.hi)) ∧ w'.cell? ⟨b0, off + I * 3, none⟩ = some (.bool el.n) ∧ w'.cell? ⟨b0, off + I * 3 + 1, none⟩ = some (.int .i64 el.lo) ∧ w'.cell? ⟨b0, off + I * 3 + 2, none⟩ = some (.int .i64 el.hi))
            (first | with_reducible exact KS _ SC.drew BC.drew | with_reducible exact KS _ (SC.alloc _).drew (BC.alloc BC.size _).drew | with_reducible exact KS _ SQ BQ | with_reducible exact KS _ (SQ.alloc _) (BQ.alloc BQ.size _) | (refine KS _ ?_ ?_ <;> first | refine SpAt.put SQ ?_ <;> omega | refine below_put BQ ?_ <;> omega))
            (first
              | (go_at_call 8; refine (hWd _).mono ?_; rintro e wq ⟨rfl, hbq⟩; have SQ : SpAt wq w.heap.size cur := (by first | exact SC.drew.call hbq | exact (SC.alloc _).drew.call hbq); have FQ : FrAt wq w.heap.size := (by first | exact FC.drew.call hbq | exact (FC.alloc _).drew.call hbq); have BQ : Below w.heap.size w wq := (by first | exact BC.drew.trans (hbq.mono BC.size) | exact (BC.alloc BC.size _).drew.trans (hbq.mono (BC.alloc BC.size _).size)); have zq : w.heap.size ≤ wq.heap.size := BQ.size; have zr : w.heap.size < wr.heap.size := s3; (first | (have xx := (SpAt.new wr zeroSp).drew.call hbq; have yy := (FrAt.new wr zeroSp).drew.call hbq; obtain ⟨⟨x0, x1, x2⟩, x3⟩ := xx; obtain ⟨⟨y0, y1, y2⟩, -⟩ := yy; simp only [zeroSp] at x0 x1 x2) | skip)))
          all_goals first
            | (have zzt := x3
               have SX := SpAt.put (r := X) SQ (show w.heap.size ≠ wr.heap.size by omega)
               have XX := SpAt.set (r := X) (show SpAt wq wr.heap.size zeroSp from ⟨⟨x0, x1, x2⟩, x3⟩)
               have FX := FrAt.put (g := wr.heap.size) (r := X) FQ
               have BX := below_put (r := X) BQ (show w.heap.size ≤ wr.heap.size by omega)
               clear x0 x1 x2 x3 y0 y1 y2
               unfold put3 at SX XX FX BX
               generalize ((wq.setCell ⟨wr.heap.size, 0, none⟩ (.bool X.n)).setCell ⟨wr.heap.size, 1, none⟩ (.int .i64 X.lo)).setCell ⟨wr.heap.size, 2, none⟩ (.int .i64 X.hi) = W7 at *
               generalize wr.heap.size = xb at *)
            | (have SX := SQ.alloc (.cells #[.bool X.n, .int .i64 X.lo, .int .i64 X.hi] 23)
               have XX := SpAt.new wq X
               have FX := FQ.alloc (.cells #[.bool X.n, .int .i64 X.lo, .int .i64 X.hi] 23)
               have BX := BQ.alloc BQ.size (.cells #[.bool X.n, .int .i64 X.lo, .int .i64 X.hi] 23)
               generalize wq.alloc (.cells #[.bool X.n, .int .i64 X.lo, .int .i64 X.hi] 23) = W7 at *
               generalize wq.heap.size = xb at *)
          all_goals
            clear hWd hbq SQ FQ BQ KS KE q0 q1 q2 s0 s1 s2 s3 SC FC BC
            obtain ⟨⟨s0, s1, s2⟩, s3⟩ := id SX
            obtain ⟨⟨x0, x1, x2⟩, x3⟩ := id XX
            go_wp2_with (go_at_call 9; fail)
            refine (hIn _).mono ?_
            rintro e w8 ⟨rfl, hb8⟩
            have S8 := SX.call hb8
            have X8 := XX.call hb8
            have F8 := FX.call hb8
            have B8 := BX.trans (hb8.mono BX.size)
            clear hb8 SX XX FX BX s0 s1 s2 s3 x0 x1 x2 x3 hIn
            obtain ⟨⟨s0, s1, s2⟩, s3⟩ := id S8
            obtain ⟨⟨x0, x1, x2⟩, x3⟩ := id X8
            obtain ⟨⟨f0, f1, f2⟩, -⟩ := id F8
            by_cases hE : X = cur
            · subst hE
              go_wp2
              go_roundw
              case rel => exact ⟨I + 1, cnt, X, by omega, by go_num, rfl, hc0, hcp, hXo, SpAt.set (r := X) S8, FrAt.put (r := X) F8, below_put (r := X) B8 (Nat.le_refl _)⟩
              case measure => simp [intOf]; omega
            · obtain ⟨cn, cl, ch⟩ := cur
              obtain ⟨xn, xl, xh⟩ := X
              cases cn with
              | false =>
                have hP := hPn rfl hE
                clear hPn
                cases xn with
                | true =>
                  go_wp2
                  go_roundw
                  case rel => exact ⟨I + 1, cnt + 1, ⟨true, xl, xh⟩, by omega, by go_num, rfl, by omega, by omega, hXo, SpAt.set (r := ⟨true, xl, xh⟩) S8, FrAt.put (r := ⟨true, xl, xh⟩) F8, below_put (r := ⟨true, xl, xh⟩) B8 (Nat.le_refl _)⟩
                  case measure => simp [intOf]; omega
                | false =>
                  by_cases h1 : xl = cl
                  · subst h1
                    have h2 : (xh == ch) = false := by simp only [beq_eq_false_iff_ne]; intro h; subst h; exact hE rfl
                    go_wp2
                    go_roundw
                    case rel => exact ⟨I + 1, cnt + 1, ⟨false, xl, xh⟩, by omega, by go_num, rfl, by omega, by omega, hXo, SpAt.set (r := ⟨false, xl, xh⟩) S8, FrAt.put (r := ⟨false, xl, xh⟩) F8, below_put (r := ⟨false, xl, xh⟩) B8 (Nat.le_refl _)⟩
                    case measure => simp [intOf]; omega
                  · have h2 : (xl == cl) = false := by simpa using h1
                    go_wp2
                    go_roundw
                    case rel => exact ⟨I + 1, cnt + 1, ⟨false, xl, xh⟩, by omega, by go_num, rfl, by omega, by omega, hXo, SpAt.set (r := ⟨false, xl, xh⟩) S8, FrAt.put (r := ⟨false, xl, xh⟩) F8, below_put (r := ⟨false, xl, xh⟩) B8 (Nat.le_refl _)⟩
                    case measure => simp [intOf]; omega
              | true =>
                have hP : pot ⟨true, cl, ch⟩ = 2 := rfl
                rw [hP] at hcp
                clear hP hPn
                cases xn with
                | false =>
                  go_wp2
                  go_roundw
                  case rel => exact ⟨I + 1, cnt, ⟨false, xl, xh⟩, by omega, by go_num, rfl, by omega, by omega, hXo, SpAt.set (r := ⟨false, xl, xh⟩) S8, FrAt.put (r := ⟨false, xl, xh⟩) F8, below_put (r := ⟨false, xl, xh⟩) B8 (Nat.le_refl _)⟩
                  case measure => simp [intOf]; omega
                | true =>
                  by_cases h1 : xl = cl
                  · subst h1
                    have h2 : (xh == ch) = false := by simp only [beq_eq_false_iff_ne]; intro h; subst h; exact hE rfl
                    go_wp2
                    go_roundw
                    case rel => exact ⟨I + 1, cnt, ⟨true, xl, xh⟩, by omega, by go_num, rfl, by omega, by omega, hXo, SpAt.set (r := ⟨true, xl, xh⟩) S8, FrAt.put (r := ⟨true, xl, xh⟩) F8, below_put (r := ⟨true, xl, xh⟩) B8 (Nat.le_refl _)⟩
                    case measure => simp [intOf]; omega
                  · have h2 : (xl == cl) = false := by simpa using h1
                    go_wp2
                    go_roundw
                    case rel => exact ⟨I + 1, cnt, ⟨true, xl, xh⟩, by omega, by go_num, rfl, by omega, by omega, hXo, SpAt.set (r := ⟨true, xl, xh⟩) S8, FrAt.put (r := ⟨true, xl, xh⟩) F8, below_put (r := ⟨true, xl, xh⟩) B8 (Nat.le_refl _)⟩
                    case measure => simp [intOf]; omega
        · rw [show ∀ r, spIf (ckSps cur el) r = zeroSp from fun r => if_neg hc] at hWd
          have hne : (ckSps cur el != 0) = true := by simpa using hc
          generalize ckSps cur el = ce at *
          clear hLI hWo hWp hck hc
          go_wp2
          go_region_held3 (fun w' => (w'.cell? ⟨w.heap.size, 0, none⟩ = some (.bool cur.n) ∧ w'.cell? ⟨w.heap.size, 1, none⟩ = some (.int .i64 cur.lo) ∧ w'.cell? ⟨w.heap.size, 2, none⟩ = some (.int .i64 cur.hi)) ∧ w'.cell? ⟨b0, off + I * 3, none⟩ = some (.bool el.n) ∧ w'.cell? ⟨b0, off + I * 3 + 1, none⟩ = some (.int .i64 el.lo) ∧ w'.cell? ⟨b0, off + I * 3 + 2, none⟩ = some (.int .i64 el.hi))
            (first | with_reducible exact KS _ SC.drew BC.drew | with_reducible exact KS _ (SC.alloc _).drew (BC.alloc BC.size _).drew | with_reducible exact KS _ SQ BQ | with_reducible exact KS _ (SQ.alloc _) (BQ.alloc BQ.size _) | (refine KS _ ?_ ?_ <;> first | refine SpAt.put SQ ?_ <;> omega | refine below_put BQ ?_ <;> omega))
            (first
              | (go_at_call 8; refine (hWd _).mono ?_; rintro e wq ⟨rfl, hbq⟩; have SQ : SpAt wq w.heap.size cur := (by first | exact SC.drew.call hbq | exact (SC.alloc _).drew.call hbq); have FQ : FrAt wq w.heap.size := (by first | exact FC.drew.call hbq | exact (FC.alloc _).drew.call hbq); have BQ : Below w.heap.size w wq := (by first | exact BC.drew.trans (hbq.mono BC.size) | exact (BC.alloc BC.size _).drew.trans (hbq.mono (BC.alloc BC.size _).size)); have zq : w.heap.size ≤ wq.heap.size := BQ.size; have zr : w.heap.size < wr.heap.size := s3; (first | (have xx := (SpAt.new wr zeroSp).drew.call hbq; have yy := (FrAt.new wr zeroSp).drew.call hbq; obtain ⟨⟨x0, x1, x2⟩, x3⟩ := xx; obtain ⟨⟨y0, y1, y2⟩, -⟩ := yy; simp only [zeroSp] at x0 x1 x2) | skip)))
          all_goals first
            | (have zzt := x3
               have SX := SpAt.put (r := zeroSp) SQ (show w.heap.size ≠ wr.heap.size by omega)
               have FX := FrAt.put (g := wr.heap.size) (r := zeroSp) FQ
               have BX := below_put (r := zeroSp) BQ (show w.heap.size ≤ wr.heap.size by omega)
               clear x0 x1 x2 x3 y0 y1 y2)
            | (have SX := SQ.alloc (.cells #[.bool false, .int .i64 0, .int .i64 0] 23)
               have FX := FQ.alloc (.cells #[.bool false, .int .i64 0, .int .i64 0] 23)
               have BX := BQ.alloc BQ.size (.cells #[.bool false, .int .i64 0, .int .i64 0] 23))
          all_goals
            clear hWd hbq SQ FQ BQ KS KE q0 q1 q2 s0 s1 s2 s3 SC FC BC
            go_wp2
            go_roundw
            case rel => exact ⟨I + 1, cnt, cur, by omega, by go_num, rfl, hc0, hcp, hok, SX, FX, BX⟩
            case measure => simp [intOf]; omega
    · go_wp2
      go_ret
      exact ⟨ret_bool (decide_eq_true (by have := pot_le cur; omega)), BC⟩
end Go.Proofs.Ytmapdpcfanecdaa
