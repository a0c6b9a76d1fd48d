/- The document's DoGuess: kind 9. -/
import Derived.Test.YtmapdpcfanecdabGreatKstpxp01
import Derived.Test.YtmapdpcfanecdabGreatKstpxp32
set_option linter.unusedSimpArgs false
set_option linter.unusedVariables false
namespace Go.Proofs.YtmapdpcfanecdabGreat
section
set_option maxHeartbeats 16000000
set_option maxRecDepth 100000
open Go.RowKit

theorem prf_25d470 {p : Prop} (h : p := by
 refine wpAnyH_done (by kernel_rfl) ?_ _
 obtain ⟨⟨r0, r1, r2, r3, r4, r5, r6⟩, rz⟩ := id D9.2.2.1
 simp only [Nat.zero_add] at r0 r1 r2 r3 r4 r5 r6
 obtain ⟨⟨o0, o1, o2, o3, o4, o5, o6⟩, oz⟩ := id D9.2.2.2.2.1
 simp only [Nat.zero_add] at o0 o1 o2 o3 o4 o5 o6
 simp only [zeroG] at r0 r1 r2 r3 r4 r5 r6
 have fz := D9.2.2.2.1.1
 have fo := D9.2.2.2.2.2.1.1
 have zo := D9.2.2.2.2.2.2.2
 go_wp2
 refine bodyPost_ret (v := .tuple #[gv ⟨false, ⟨true, 0, 0⟩, y, true, []⟩ none 0, .bool false]) (by simp [results, Tryz.results27, go_sem, r0, r1, r2, r3, r4, r5, r6]) rfl ⟨?_, ?_⟩
 ·rw [show al = true from Eal.out]
 ·exact below_put7 D9.2.2.2.2.2.2.1 (by omega)) : p := h
theorem doR_9n0s0 (w : World) (g : Gs) (ss : Option Addr) (gc : Nat) (h : Gs) (st : Option Addr) (hc : Nat) (hs : IntsAt w ss g.s) (hgl : g.s.length ≤ 9223372036854775807) (ht : IntsAt w st h.s) (hhl : h.s.length ≤ 9223372036854775807) (Hn1 : Hid (g.n = true)) (Hn2 : Hid (h.n = true)) (hS : Hid (oneGs g < 0 ∨ oneGs g ≠ oneGs h)) :
  Calls Tryz.prog 27 #[.int .i64 9, gv g ss gc, gv h st hc] w fun e w' => e = .returned (if (nothingGs g || nothingGs h) = true then .tuple #[gv noneG none 0, .bool false] else .tuple #[gv ⟨false, ⟨true, 0, 0⟩, (g.n && h.n) || (!(meetSp g.sp h.sp).n || ((g.t && h.t) || ((g.f && h.f) || g.s.any fun x => h.s.contains x))), !alikeGs g h, []⟩ none 0, .bool false]) ∧ Below w.heap.size w w' := by
 have HM : Hid (∀ w, Calls Tryz.prog 60 #[sv g.sp, sv h.sp] w fun e w' => e = .returned (.agg #[.bool (meetSp g.sp h.sp).n, .int .i64 (meetSp g.sp h.sp).lo, .int .i64 (meetSp g.sp h.sp).hi]) ∧ Below w.heap.size w w') := fun w => meetSpan_any g.sp h.sp w
 have HSg := hideH (fun w => single_any g ss gc w)
 have HSh := hideH (fun w => single_any h st hc w)
 generalize hy : ((g.n && h.n) || (!(meetSp g.sp h.sp).n || ((g.t && h.t) || ((g.f && h.f) || g.s.any fun x => h.s.contains x)))) = y
 have Hy := hideH hy
 generalize hal : (!alikeGs g h) = al
 have Hal : Hid (al = (decide (oneGs g < 0) || (decide (oneGs g ≠ oneGs h) || @decide _ (@instDecidableNot _ (g.sp.dq h.sp))))) := by show _ = _; rw [← hal, alike_one]
 clear hy hal
 generalize oneGs g = x1 at *
 generalize oneGs h = x2 at *
 generalize meetSp g.sp h.sp = ms at *
 have hfld : ∀ wx : World, (Instr.field 58 (.agg #[.bool ms.n, .int .i64 ms.lo, .int .i64 ms.hi]) 0).run Tryz.prog wx = .ok (.bool ms.n) wx := fun _ => by kernel_rfl
 generalize hnn : (nothingGs g || nothingGs h) = nn
 have Hnn := hideH hnn
 clear hnn
 have HNg := hideH (fun w => isNothing_any g ss gc w)
 have HNh := hideH (fun w => isNothing_any h st hc w)
 generalize nothingGs g = ng at *
 generalize nothingGs h = nh at *
 go_enter Tryz.func27, Tryz.ntmps27
 go_upto_region 1 with fail
 go_cut [8] (fun t wy => ∃ ob, t = .pointer (some ⟨ob, 0, none⟩) ∧ DG w g ss gc h st hc ob noneG wy)
 case first =>
  go_wp2_with (go_at_call 21; fail)
  refine (nothingR_any _).mono ?_
  rintro e w1 ⟨rfl, hb1⟩
  have D1 := doW_out hb1
  go_wp2_with fail
  go_meet
  refine ⟨w1.heap.size, rfl, ?_⟩
  exact D1
 obtain ⟨ob, rfl, D1⟩ := hcut
 obtain ⟨⟨g0, g1, g2, g3, g4, g5, g6⟩, gz⟩ := id D1.1
 simp only [Nat.zero_add] at g0 g1 g2 g3 g4 g5 g6
 obtain ⟨⟨k0, k1, k2, k3, k4, k5, k6⟩, kz⟩ := id D1.2.1
 simp only [Nat.zero_add] at k0 k1 k2 k3 k4 k5 k6
 have fz := D1.2.2.2.1.1
 have fo := D1.2.2.2.2.2.1.1
 have zo := D1.2.2.2.2.2.2.2
 go_upto_region 2 with fail
 go_cut [27] (fun t wy => t = .bool nn ∧ DG w g ss gc h st hc ob noneG wy)
 case first =>
  exact prf_485914
 obtain ⟨rfl, D2⟩ := hcut
 clear g0 g1 g2 g3 g4 g5 g6 gz k0 k1 k2 k3 k4 k5 k6 kz fz fo zo D1 HNg HNh Hnn
 cases nn with
 | true =>
  exact prf_3a00b6
 | false =>
  go_wp2_with fail
  go_loopw [11, 12] (fun cm i wr => ∃ (k : Nat) (cb : Bool), k ≤ g.s.length ∧ i = .int .i64 k ∧ cm = .bool cb ∧ Hid (cb = (g.s.take k).any fun x => h.s.contains x) ∧ DG w g ss gc h st hc ob noneG wr) (fun _ i _ => g.s.length - (intOf i).toNat)
  case atStart => exact ⟨0, false, Nat.zero_le _, rfl, rfl, (by show _ = _; simp), D2⟩
  case round =>
   obtain ⟨k, cb, hk, rfl, rfl, HC, DR⟩ := hrel
   clear D2
   obtain ⟨⟨g0, g1, g2, g3, g4, g5, g6⟩, gz⟩ := id DR.1
   simp only [Nat.zero_add] at g0 g1 g2 g3 g4 g5 g6
   obtain ⟨⟨k0, k1, k2, k3, k4, k5, k6⟩, kz⟩ := id DR.2.1
   simp only [Nat.zero_add] at k0 k1 k2 k3 k4 k5 k6
   have fz := DR.2.2.2.1.1
   have fo := DR.2.2.2.2.2.1.1
   have zo := DR.2.2.2.2.2.2.2
   by_cases hlt : k < g.s.length
   ·have IR := hs.below DR.2.2.2.2.2.2.1 (Nat.le_refl _)
    exact prf_d31000
   ·have ek : k = g.s.length := by omega
    have HA : Hid (cb = g.s.any fun x => h.s.contains x) := by show _ = _; rw [HC.out, ek, List.take_length]
    subst ek
    clear hlt
    clear HC
    obtain ⟨⟨o0, o1, o2, o3, o4, o5, o6⟩, oz⟩ := id DR.2.2.2.2.1
    simp only [Nat.zero_add] at o0 o1 o2 o3 o4 o5 o6
    simp only [noneG] at o0 o1 o2 o3 o4 o5 o6
    go_upto_region 17 with fail
    go_cut [11, 98] (fun t t' wy => DG w g ss gc h st hc ob ⟨false, ⟨true, 0, 0⟩, y, false, []⟩ wy)
    case first =>
     have en1 := Hn1.out
     have en2 := Hn2.out
     cases cb with
     | true =>
      have Ey : Hid (y = true) := by show _ = _; rw [← Hy.out, ← HA.out]; simp
      go_wp2_with fail
      go_meet
      rw [Ey.out]
      exact DR.t
     | false =>
      have Ey : Hid (y = true) := by show _ = _; rw [← Hy.out, en1, en2]; simp
      go_wp2_with fail
      go_meet
      rw [Ey.out]
      exact DR.t
    have D6 := hcut
    clear DR g0 g1 g2 g3 g4 g5 g6 gz k0 k1 k2 k3 k4 k5 k6 kz fz fo zo o0 o1 o2 o3 o4 o5 o6 oz hcut Hy HA HM
    go_wp2_with fail
    have KS : ∀ {o : Gs} wx, DG w g ss gc h st hc ob o wx → regT w.heap.size g ss gc h st hc wx := fun wx a => ⟨by simpa using a.1.1, by simpa using a.2.1.1⟩
    generalize wc = w6 at *
    have D7 := D6.drew
    refine wp_region_held_drew (S := regT w.heap.size g ss gc h st hc) (by kernel_rfl) (KS _ D7) (fun hHeld => ?_)
    unfold regT at hHeld KS ⊢
    clear D6
    generalize w6.drew = w7 at *
    refine tH 0 ?_ ?_;refine sm ?_
    refine wpAnyH_ready (rs := [1]) (by kernel_rfl) (by simp) ?_
    refine AllReadyH.cons rfl (fun K hK => ?_) AllReadyH.nil
    go_simp
    refine (HSg.out _).mono ?_
    rintro e w8 ⟨rfl, hb8⟩
    have D8 := D7.call hb8
    refine hK.out _ _ (KS _ D8) (fun hHeld8 => ?_)
    clear hK K hb8 D7
    refine sm ?_
    refine tH 2 ?_ ?_;refine sm ?_
    have Hlt : ∃ lt : Bool, Hid (decide (x1 < 0) = lt) := ⟨_, rfl⟩
    obtain ⟨lt, Hlt⟩ := Hlt
    rw [Hlt.out]
    cases lt with
    | true =>
     have Eal : Hid (al = true) := by show _ = _; rw [Hal.out, Hlt.out]; rfl
     refine tH 3 ?_ ?_;refine sm ?_
     refine uH 4 ?_;refine sm ?_
     refine uH 5 ?_;refine sm ?_
     refine uH 6 ?_;refine sm ?_
     refine uH 7 ?_;refine sm ?_
     refine uH 8 ?_;refine sm ?_
     refine tH 9 ?_ ?_;refine sm ?_
     refine tH 10 ?_ ?_;refine sm ?_
     refine uH 11 ?_;refine sm ?_
     refine uH 12 ?_;refine sm ?_
     refine uH 13 ?_;refine sm ?_
     refine uH 14 ?_;refine sm ?_
     refine uH 15 ?_;refine sm ?_
     refine tH 16 ?_ ?_;refine sm ?_
     refine tH 17 ?_ ?_;refine sm ?_
     obtain ⟨⟨o0, o1, o2, o3, o4, o5, o6⟩, oz⟩ := id D8.2.2.2.2.1
     simp only [Nat.zero_add] at o0 o1 o2 o3 o4 o5 o6
     have fo := D8.2.2.2.2.2.1.1
     have D9 := D8.f (y := true)
     refine wpAnyH_ready (rs := [18]) (by kernel_rfl) (by simp) ?_
     refine AllReadyH.cons rfl (fun K hK => ?_) AllReadyH.nil
     go_simp
     refine hK.out _ (w8.setCell ⟨ob, 5, none⟩ (.bool true)) (KS _ D9) (fun hHeldz => ?_)
     clear hK K o0 o1 o2 o3 o4 o5 o6 oz fo D8
     refine sm ?_
     generalize w8.setCell ⟨ob, 5, none⟩ (.bool true) = w9 at *
     exact prf_25d470
    | false =>
     have hne : x1 ≠ x2 := by
      rcases hS.out with h | h
      ·exact absurd h (of_decide_eq_false Hlt.out)
      ·exact h
     refine tH 3 ?_ ?_;refine sm ?_
     refine tH 4 ?_ ?_;refine sm ?_
     refine tH 6 ?_ ?_;refine sm ?_
     refine wpAnyH_ready (rs := [5]) (by kernel_rfl) (by simp) ?_
     refine AllReadyH.cons rfl (fun K hK => ?_) AllReadyH.nil
     go_simp
     refine (HSg.out _).mono ?_
     rintro e w9 ⟨rfl, hb9⟩
     have D9 := D8.call hb9
     refine hK.out _ _ (KS _ D9) (fun hHeld9 => ?_)
     clear hK K hb9 D8
     refine sm ?_
     refine wpAnyH_ready (rs := [7]) (by kernel_rfl) (by simp) ?_
     refine AllReadyH.cons rfl (fun K hK => ?_) AllReadyH.nil
     go_simp
     refine (HSh.out _).mono ?_
     rintro e w10 ⟨rfl, hb10⟩
     have D10 := D9.call hb10
     refine hK.out _ _ (KS _ D10) (fun hHeld10 => ?_)
     clear hK K hb10 D9
     refine sm ?_
     have hneb : (x1 != x2) = true := by simpa using hne
     have Eal : Hid (al = true) := by show _ = _; rw [Hal.out, Hlt.out, decide_eq_true (p := x1 ≠ x2) hne]; simp
     refine tH 8 ?_ ?_;refine sm ?_
     refine tH 9 ?_ ?_;refine sm ?_
     refine tH 10 ?_ ?_;refine sm ?_
     refine uH 11 ?_;refine sm ?_
     refine uH 12 ?_;refine sm ?_
     refine uH 13 ?_;refine sm ?_
     refine uH 14 ?_;refine sm ?_
     refine uH 15 ?_;refine sm ?_
     refine tH 16 ?_ ?_;refine sm ?_
     refine tH 17 ?_ ?_;refine sm ?_
     obtain ⟨⟨o0, o1, o2, o3, o4, o5, o6⟩, oz⟩ := id D10.2.2.2.2.1
     simp only [Nat.zero_add] at o0 o1 o2 o3 o4 o5 o6
     have fo := D10.2.2.2.2.2.1.1
     have D9 := D10.f (y := true)
     refine wpAnyH_ready (rs := [18]) (by kernel_rfl) (by simp) ?_
     refine AllReadyH.cons rfl (fun K hK => ?_) AllReadyH.nil
     go_simp
     refine hK.out _ (w10.setCell ⟨ob, 5, none⟩ (.bool true)) (KS _ D9) (fun hHeldz => ?_)
     clear hK K o0 o1 o2 o3 o4 o5 o6 oz fo D10
     refine sm ?_
     generalize w10.setCell ⟨ob, 5, none⟩ (.bool true) = w9 at *
     exact prf_25d470
end
end Go.Proofs.YtmapdpcfanecdabGreat
