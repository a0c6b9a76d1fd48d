/- The document's DoGuess: kind 8. -/
import Derived.Test.YtmapdpcfanecdabGreatKstpxp01
import Derived.Test.YtmapdpcfanecdabGreatKstpxp32
set_option linter.unusedSimpArgs false
set_option linter.unusedVariables false
namespace Go.Proofs.YtmapdpcfanecdabGreat
section
set_option maxHeartbeats 4000000
set_option maxRecDepth 10000
open Go.RowKit

theorem doR_8 (w : World) (g : Gs) (ss : Option Addr) (gc : Nat) (h : Gs) (st : Option Addr) (hc : Nat) :
  Calls Tryz.prog 27 #[.int .i64 8, gv g ss gc, gv h st hc] w fun e w' => e = .returned (if (nothingGs g || nothingGs h) = true then .tuple #[gv noneG none 0, .bool false] else .tuple #[gv ⟨false, ⟨true, 0, 0⟩, !(g.sp.n || h.sp.n) && decide (g.sp.lo < h.sp.hi), !(g.sp.n || h.sp.n) && decide (h.sp.lo ≤ g.sp.hi), []⟩ none 0, .bool (otherGs g || otherGs h)]) ∧ Below w.heap.size w w' := by
 have HOg := hideH (fun w => noNumber_any g ss gc w)
 have HOh := hideH (fun w => noNumber_any h st hc w)
 generalize hwr : (otherGs g || otherGs h) = wr
 have HWr0 := hideH hwr
 clear hwr
 generalize otherGs g = og at *
 generalize otherGs h = oh at *
 have HWr : Hid (wr = (og || oh)) := HWr0.out.symm
 clear HWr0
 generalize hy : (!(g.sp.n || h.sp.n) && decide (g.sp.lo < h.sp.hi)) = y
 generalize hn : (!(g.sp.n || h.sp.n) && decide (h.sp.lo ≤ g.sp.hi)) = n
 have Hy := hideH hy
 have Hn := hideH hn
 clear hy hn
 have HB0 : ∃ nb : Bool, Hid (nb = (!g.sp.n && !h.sp.n)) := ⟨_, rfl⟩
 obtain ⟨nb, HB⟩ := HB0
 have HT : Hid (nb = true → Hid (y = decide (g.sp.lo < h.sp.hi)) ∧ Hid (n = decide (h.sp.lo ≤ g.sp.hi))) := by
  intro e
  have e0 := HB.out.symm.trans e
  cases e1 : g.sp.n <;> cases e2 : h.sp.n <;> rw [e1, e2] at e0 <;> first | (exact Bool.noConfusion e0) | exact ⟨by show _ = _; rw [← Hy.out, e1, e2]; simp, by show _ = _; rw [← Hn.out, e1, e2]; simp⟩
 have HF : Hid (nb = false → Hid (y = false) ∧ Hid (n = false)) := by
  intro e
  have e0 := HB.out.symm.trans e
  cases e1 : g.sp.n <;> cases e2 : h.sp.n <;> rw [e1, e2] at e0 <;> first | (exact Bool.noConfusion e0) | exact ⟨by show _ = _; rw [← Hy.out, e1, e2]; simp, by show _ = _; rw [← Hn.out, e1, e2]; simp⟩
 generalize hnn : (nothingGs g || nothingGs h) = nn
 have Hnn := hideH hnn
 clear hnn
 have HNg := hideH (fun w => isNothing_any g ss gc w)
 have HNh := hideH (fun w => isNothing_any h st hc w)
 generalize nothingGs g = ng at *
 generalize nothingGs h = nh at *
 go_enter Tryz.func27, Tryz.ntmps27
 go_upto_region 1 with fail
 go_cut [8] (fun t wy => ∃ ob, t = .pointer (some ⟨ob, 0, none⟩) ∧ DG w g ss gc h st hc ob noneG wy)
 case first =>
  go_wp2_with (go_at_call 21; fail)
  refine (nothingR_any _).mono ?_
  rintro e w1 ⟨rfl, hb1⟩
  have D1 := doW_out hb1
  go_wp2_with fail
  go_meet
  refine ⟨w1.heap.size, rfl, ?_⟩
  exact D1
 obtain ⟨ob, rfl, D1⟩ := hcut
 obtain ⟨⟨g0, g1, g2, g3, g4, g5, g6⟩, gz⟩ := id D1.1
 simp only [Nat.zero_add] at g0 g1 g2 g3 g4 g5 g6
 obtain ⟨⟨k0, k1, k2, k3, k4, k5, k6⟩, kz⟩ := id D1.2.1
 simp only [Nat.zero_add] at k0 k1 k2 k3 k4 k5 k6
 have fz := D1.2.2.2.1.1
 have fo := D1.2.2.2.2.2.1.1
 have zo := D1.2.2.2.2.2.2.2
 go_upto_region 2 with fail
 go_cut [27] (fun t wy => t = .bool nn ∧ DG w g ss gc h st hc ob noneG wy)
 case first =>
  go_wp2_with (go_at_call 28; fail)
  refine (HNg.out _).mono ?_
  rintro e w2 ⟨rfl, hb2⟩
  have D2 := D1.call hb2
  clear g0 g1 g2 g3 g4 g5 g6 gz k0 k1 k2 k3 k4 k5 k6 kz fz fo
  cases ng with
  | true =>
   go_wp2_with fail
   go_meet
   exact ⟨by rw [← Hnn.out]; first | done | rfl | simp, D2⟩
  | false =>
   obtain ⟨⟨k0, k1, k2, k3, k4, k5, k6⟩, kz⟩ := id D2.2.1
   simp only [Nat.zero_add] at k0 k1 k2 k3 k4 k5 k6
   have fz := D2.2.2.2.1.1
   have fo := D2.2.2.2.2.2.1.1
   have zo2 := D2.2.2.2.2.2.2.2
   go_wp2_with (go_at_call 28; fail)
   refine (HNh.out _).mono ?_
   rintro e w3 ⟨rfl, hb3⟩
   have D3 := D2.call hb3
   go_wp2_with fail
   go_meet
   exact ⟨by rw [← Hnn.out]; first | done | rfl | simp, D3⟩
 obtain ⟨rfl, D2⟩ := hcut
 clear g0 g1 g2 g3 g4 g5 g6 gz k0 k1 k2 k3 k4 k5 k6 kz fz fo zo D1 HNg HNh Hnn
 cases nn with
 | true =>
  obtain ⟨⟨g0, g1, g2, g3, g4, g5, g6⟩, gz⟩ := id D2.1
  simp only [Nat.zero_add] at g0 g1 g2 g3 g4 g5 g6
  obtain ⟨⟨r0, r1, r2, r3, r4, r5, r6⟩, rz⟩ := id D2.2.2.1
  simp only [Nat.zero_add] at r0 r1 r2 r3 r4 r5 r6
  obtain ⟨⟨o0, o1, o2, o3, o4, o5, o6⟩, oz⟩ := id D2.2.2.2.2.1
  simp only [Nat.zero_add] at o0 o1 o2 o3 o4 o5 o6
  simp only [zeroG] at r0 r1 r2 r3 r4 r5 r6
  have fz := D2.2.2.2.1.1
  have fo := D2.2.2.2.2.2.1.1
  have zo := D2.2.2.2.2.2.2.2
  simp only [noneG] at o0 o1 o2 o3 o4 o5 o6
  go_wp2
  refine bodyPost_ret (v := .tuple #[gv noneG none 0, .bool false]) (by simp [results, Tryz.results27, go_sem, r0, r1, r2, r3, r4, r5, r6, noneG]) rfl ⟨?_, ?_⟩
  ·rfl
  ·exact below_put7 D2.2.2.2.2.2.2.1 (by omega)
 | false =>
  obtain ⟨⟨g0, g1, g2, g3, g4, g5, g6⟩, gz⟩ := id D2.1
  simp only [Nat.zero_add] at g0 g1 g2 g3 g4 g5 g6
  obtain ⟨⟨k0, k1, k2, k3, k4, k5, k6⟩, kz⟩ := id D2.2.1
  simp only [Nat.zero_add] at k0 k1 k2 k3 k4 k5 k6
  have fz := D2.2.2.2.1.1
  have fo := D2.2.2.2.2.2.1.1
  have zo := D2.2.2.2.2.2.2.2
  go_upto_region 21 with fail
  go_cut [130] (fun t wy => t = .bool nb ∧ DG w g ss gc h st hc ob noneG wy)
  case first =>
   have hb3 : g.sp.n = true ∨ (g.sp.n = false ∧ h.sp.n = true) ∨ (g.sp.n = false ∧ h.sp.n = false) := by cases g.sp.n <;> cases h.sp.n <;> simp
   rcases hb3 with e1 | ⟨e1, e2⟩ | ⟨e1, e2⟩
   ·go_wp2_with fail
    go_meet
    exact ⟨by rw [HB.out, e1]; simp, D2⟩
   ·go_wp2_with fail
    go_meet
    exact ⟨by rw [HB.out, e1, e2]; simp, D2⟩
   ·go_wp2_with fail
    go_meet
    exact ⟨by rw [HB.out, e1, e2]; simp, D2⟩
  obtain ⟨rfl, D2b⟩ := hcut
  clear g0 g1 g2 g3 g4 g5 g6 gz k0 k1 k2 k3 k4 k5 k6 kz fz fo zo D2
  obtain ⟨⟨g0, g1, g2, g3, g4, g5, g6⟩, gz⟩ := id D2b.1
  simp only [Nat.zero_add] at g0 g1 g2 g3 g4 g5 g6
  obtain ⟨⟨k0, k1, k2, k3, k4, k5, k6⟩, kz⟩ := id D2b.2.1
  simp only [Nat.zero_add] at k0 k1 k2 k3 k4 k5 k6
  obtain ⟨⟨o0, o1, o2, o3, o4, o5, o6⟩, oz⟩ := id D2b.2.2.2.2.1
  simp only [Nat.zero_add] at o0 o1 o2 o3 o4 o5 o6
  have fz := D2b.2.2.2.1.1
  have fo := D2b.2.2.2.2.2.1.1
  have zo := D2b.2.2.2.2.2.2.2
  simp only [noneG] at o0 o1 o2 o3 o4 o5 o6
  go_upto_if 130 with fail
  go_cut [131] (fun t wy => DG w g ss gc h st hc ob ⟨false, ⟨true, 0, 0⟩, y, n, []⟩ wy)
  case first =>
   cases nb with
   | true =>
    obtain ⟨Ey, En⟩ := HT.out rfl
    go_wp2_with fail
    go_meet
    rw [Ey.out, En.out]
    exact D2b.t.f
   | false =>
    obtain ⟨Ey, En⟩ := HF.out rfl
    go_wp2_with fail
    go_meet
    rw [Ey.out, En.out]
    exact D2b
  clear o0 o1 o2 o3 o4 o5 o6 oz
  have D3 := hcut
  clear D2b g0 g1 g2 g3 g4 g5 g6 gz k0 k1 k2 k3 k4 k5 k6 kz fz fo zo hcut
  generalize ho : (⟨false, ⟨true, 0, 0⟩, y, n, []⟩ : Gs) = o at D3
  have HO : Hid (Ending.returned (.tuple #[gv o none 0, .bool wr]) = Ending.returned (.tuple #[gv ⟨false, ⟨true, 0, 0⟩, y, n, []⟩ none 0, .bool wr])) := by show _ = _; rw [← ho]
  clear ho
  go_wp2_with fail
  generalize wc = w3 at *
  have KS : ∀ wx, DG w g ss gc h st hc ob o wx → regR w.heap.size ob g ss gc h st hc o wx := fun wx a => ⟨by simpa using a.1.1, by simpa using a.2.1.1, by simpa using a.2.2.2.2.1.1⟩
  have KSp : ∀ wx, DG w g ss gc h st hc ob o wx → regR w.heap.size ob g ss gc h st hc o (Go.Proofs.YtmapdpcfanecdabGreat.put7 wx (w.heap.size + 1 + 1) (.bool o.n) (.bool o.sp.n) (.int .i64 o.sp.lo) (.int .i64 o.sp.hi) (.bool o.t) (.bool o.f) (.slice none o.s.length 0)) := fun wx a => ⟨by simpa using (GuAt.put7 a.1 (by omega)).1, by simpa using (GuAt.put7 a.2.1 (by omega)).1, by simpa using (GuAt.put7 a.2.2.2.2.1 (by have := a.2.2.2.2.2.2.2; omega)).1⟩
  have D4 := D3.drew
  refine wp_region_held_drew (S := regR w.heap.size ob g ss gc h st hc o) (by kernel_rfl) (KS _ D4) (fun hHeld => ?_)
  unfold regR at hHeld KS KSp ⊢
  clear D3
  generalize w3.drew = w4 at *
  refine tH 0 ?_ ?_;refine sm ?_
  refine tH 1 ?_ ?_;refine sm ?_
  refine wpAnyH_ready (rs := [2]) (by kernel_rfl) (by simp) ?_
  refine AllReadyH.cons rfl (fun K hK => ?_) AllReadyH.nil
  go_simp
  refine (HOg.out _).mono ?_
  rintro e w5 ⟨rfl, hb5⟩
  have D5 := D4.call hb5
  refine hK.out _ _ (KS _ D5) (fun hHeld5 => ?_)
  clear hK K hb5 D4
  refine sm ?_
  cases og with
  | true =>
   have ewr : wr = true := by rw [HWr.out]; rfl
   subst ewr
   refine tH 3 ?_ ?_;refine sm ?_
   refine uH 4 ?_;refine sm ?_
   refine uH 5 ?_;refine sm ?_
   refine tH 6 ?_ ?_;refine sm ?_
   obtain ⟨⟨r0, r1, r2, r3, r4, r5, r6⟩, rz⟩ := id D5.2.2.1
   simp only [Nat.zero_add] at r0 r1 r2 r3 r4 r5 r6
   simp only [zeroG] at r0 r1 r2 r3 r4 r5 r6
   have fz := D5.2.2.2.1.1
   have zo := D5.2.2.2.2.2.2.2
   refine wpAnyH_ready (rs := [7]) (by kernel_rfl) (by simp) ?_
   refine AllReadyH.cons rfl (fun K hK => ?_) AllReadyH.nil
   go_simp
   refine hK.out _ (Go.Proofs.YtmapdpcfanecdabGreat.put7 w5 (w.heap.size + 1 + 1) (.bool o.n) (.bool o.sp.n) (.int .i64 o.sp.lo) (.int .i64 o.sp.hi) (.bool o.t) (.bool o.f) (.slice none o.s.length 0)) (KSp _ D5) (fun hHeldz => ?_)
   clear hK K
   refine sm ?_
   refine tH 8 ?_ ?_;refine sm ?_
   refine wpAnyH_done (by kernel_rfl) ?_ _
   go_wp2
   refine bodyPost_ret (v := .tuple #[gv o none 0, .bool true]) (by simp [results, Tryz.results27, go_sem, Go.Proofs.YtmapdpcfanecdabGreat.put7, r0, r1, r2, r3, r4, r5, r6]) rfl ⟨HO.out, ?_⟩
   exact below_put7 D5.2.2.2.2.2.2.1 (by omega)
  | false =>
   have ewr : wr = oh := by rw [HWr.out]; rfl
   subst ewr
   refine tH 3 ?_ ?_;refine sm ?_
   refine tH 4 ?_ ?_;refine sm ?_
   refine wpAnyH_ready (rs := [5]) (by kernel_rfl) (by simp) ?_
   refine AllReadyH.cons rfl (fun K hK => ?_) AllReadyH.nil
   go_simp
   refine (HOh.out _).mono ?_
   rintro e w6 ⟨rfl, hb6⟩
   have D6 := D5.call hb6
   refine hK.out _ _ (KS _ D6) (fun hHeld6 => ?_)
   clear hK K hb6 D5
   refine sm ?_
   refine tH 6 ?_ ?_;refine sm ?_
   obtain ⟨⟨r0, r1, r2, r3, r4, r5, r6⟩, rz⟩ := id D6.2.2.1
   simp only [Nat.zero_add] at r0 r1 r2 r3 r4 r5 r6
   simp only [zeroG] at r0 r1 r2 r3 r4 r5 r6
   have fz := D6.2.2.2.1.1
   have zo := D6.2.2.2.2.2.2.2
   refine wpAnyH_ready (rs := [7]) (by kernel_rfl) (by simp) ?_
   refine AllReadyH.cons rfl (fun K hK => ?_) AllReadyH.nil
   go_simp
   refine hK.out _ (Go.Proofs.YtmapdpcfanecdabGreat.put7 w6 (w.heap.size + 1 + 1) (.bool o.n) (.bool o.sp.n) (.int .i64 o.sp.lo) (.int .i64 o.sp.hi) (.bool o.t) (.bool o.f) (.slice none o.s.length 0)) (KSp _ D6) (fun hHeldz => ?_)
   clear hK K
   refine sm ?_
   refine tH 8 ?_ ?_;refine sm ?_
   refine wpAnyH_done (by kernel_rfl) ?_ _
   go_wp2
   refine bodyPost_ret (v := .tuple #[gv o none 0, .bool wr]) (by simp [results, Tryz.results27, go_sem, Go.Proofs.YtmapdpcfanecdabGreat.put7, r0, r1, r2, r3, r4, r5, r6]) rfl ⟨HO.out, ?_⟩
   exact below_put7 D6.2.2.2.2.2.2.1 (by omega)
end
end Go.Proofs.YtmapdpcfanecdabGreat
