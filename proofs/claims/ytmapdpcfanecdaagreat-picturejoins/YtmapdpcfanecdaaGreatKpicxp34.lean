/- The document's own answer: is a picture within another one? -/
import Derived.Test.YtmapdpcfanecdaaGreatKpicxp33
import Derived.Test.YtmapdpcfanecdaaGreatKpicxp27
import Derived.Test.YtmapdpcfanecdaaGreatKpicxp07
import Derived.Deep.DeepCutAuto
namespace Go.Proofs.YtmapdpcfanecdaaGreat
set_option linter.unusedVariables false
set_option linter.unusedSimpArgs false
open Go.RowKit
attribute [local go_sem ↓] Go.wp_at_zero Go.wp_at_succ

theorem inRow_step (a b : List Gs) (k : Nat) (h : k < a.length) (h' : k < b.length) : inRow (a.drop k) (b.drop k) = (inGs a[k] b[k] && inRow (a.drop (k + 1)) (b.drop (k + 1))) := by
  unfold inRow
  rw [List.drop_eq_getElem_cons h, List.drop_eq_getElem_cons h']
  rfl
def inRows (a b : List (List Gs)) : Bool := (List.zipWith inRow a b).all id
theorem inRows_step (a b : List (List Gs)) (k : Nat) (h : k < a.length) (h' : k < b.length) : inRows (a.drop k) (b.drop k) = (inRow a[k] b[k] && inRows (a.drop (k + 1)) (b.drop (k + 1))) := by
  unfold inRows
  rw [List.drop_eq_getElem_cons h, List.drop_eq_getElem_cons h']
  rfl
set_option maxHeartbeats 8000000 in
set_option maxRecDepth 20000 in
theorem pictureIn_main (vx vy : List Gs) (fx fy : List (List Gs)) (vs1 : Option Addr) (vc1 : Nat) (fs1 : Option Addr) (fc1 : Nat) (vs2 : Option Addr) (vc2 : Nat) (fs2 : Option Addr) (fc2 : Nat) (w : World) (hx : PicAt w ⟨false, vx, fx⟩ vs1 fs1) (hy : PicAt w ⟨false, vy, fy⟩ vs2 fs2) (hv : vx.length = vy.length) (hv8 : vx.length ≤ 8) (hf : fx.length = fy.length) (h60 : fx.length ≤ 60) (hr : ∀ i (h : i < fx.length) (h' : i < fy.length), fx[i].length = fy[i].length ∧ fx[i].length ≤ 3) :
    Calls Tryz.prog 30 #[xv ⟨false, vx, fx⟩ vs1 vc1 fs1 fc1, xv ⟨false, vy, fy⟩ vs2 vc2 fs2 fc2] w fun e w' => e = .returned (.bool (inRow vx vy && inRows fx fy)) ∧ Below w.heap.size w w' := by
  have HV := hideH hv
  have HF := hideH hf
  have HR := hideH hr
  have HX := hideH hx
  have HY := hideH hy
  clear hv hf hr hx hy
  obtain ⟨res, HRES, hres⟩ : ∃ r, Hid (r = (inRow vx vy && inRows fx fy)) ∧ (inRow vx vy && inRows fx fy) = r := ⟨_, rfl, rfl⟩
  rw [hres]
  clear hres
  have hb0 : Below w.heap.size w ((w.alloc (.cells #[.bool false, .slice vs1 vx.length vc1, .slice fs1 fx.length fc1] 58)).alloc (.cells #[.bool false, .slice vs2 vy.length vc2, .slice fs2 fy.length fc2] 58)) := by go_grown
  have A0 := (XAt.new w ⟨false, vx, fx⟩ vs1 vc1 fs1 fc1).call (w' := ((w.alloc (.cells #[.bool false, .slice vs1 vx.length vc1, .slice fs1 fx.length fc1] 58)).alloc (.cells #[.bool false, .slice vs2 vy.length vc2, .slice fs2 fy.length fc2] 58))) (by go_grown)
  have B0 := XAt.new (w.alloc (.cells #[.bool false, .slice vs1 vx.length vc1, .slice fs1 fx.length fc1] 58)) ⟨false, vy, fy⟩ vs2 vc2 fs2 fc2
  rw [World.size_alloc] at B0
  (try simp only at A0 B0)
  go_enter Tryz.func30, Tryz.ntmps30
  go_upto_region 5 with fail
  generalize ((w.alloc (.cells #[.bool false, .slice vs1 vx.length vc1, .slice fs1 fx.length fc1] 58)).alloc (.cells #[.bool false, .slice vs2 vy.length vc2, .slice fs2 fy.length fc2] 58)) = w1 at *
  go_wp2
  go_loopw [5] (fun i wr => ∃ k : Nat, k ≤ vx.length ∧ i = .int .i64 k ∧ Below w1.heap.size w1 wr ∧ Hid (inRow vx vy = inRow (vx.drop k) (vy.drop k))) (fun i _ => vx.length - (intOf i).toNat)
  case atStart => exact ⟨0, Nat.zero_le _, rfl, Below.refl _ _, rfl⟩
  case round =>
    obtain ⟨k, hk, rfl, hbr, HK⟩ := hrel
    obtain ⟨⟨a0, a1, a2⟩, az, -⟩ := id (A0.call hbr)
    obtain ⟨⟨c0, c1, c2⟩, cz, -⟩ := id (B0.call hbr)
    have LR := hb0.trans (hbr.mono hb0.size)
    by_cases hlt : k < vx.length
    · have n0 : (0 : Int) ≤ (k : Int) := by omega
      have n1 : (k : Int) < (vx.length : Int) := by omega
      have hlt' : k < vy.length := by have := HV.out; omega
      have n2 : (k : Int) < (vy.length : Int) := by omega
      obtain ⟨b1, o1, e1, ss1, g1, G1, I1, k1, m1⟩ := (HX.out.1.below LR (Nat.le_refl _)) k hlt
      obtain ⟨b2, o2, e2, ss2, g2, G2, I2, k2, m2⟩ := (HY.out.1.below LR (Nat.le_refl _)) k hlt'
      subst e1 e2
      (try simp only at G1 G2 I1 I2 k1 k2)
      have hl1 : vx[k].s.length ≤ 9223372036854775807 := by unfold maxLen at m1; omega
      have hl2 : vy[k].s.length ≤ 9223372036854775807 := by unfold maxLen at m2; omega
      have HKZ : Hid (∀ wx, Below wr.heap.size wr wx → (wx.cell? ⟨w.heap.size, 1, none⟩ = some (.slice (some ⟨b1, o1, none⟩) vx.length vc1) ∧ (wx.cell? ⟨b1, o1 + k * 7, none⟩ = some (.bool vx[k].n) ∧ wx.cell? ⟨b1, o1 + k * 7 + 1, none⟩ = some (.bool vx[k].sp.n) ∧ wx.cell? ⟨b1, o1 + k * 7 + 2, none⟩ = some (.int .i64 vx[k].sp.lo) ∧ wx.cell? ⟨b1, o1 + k * 7 + 3, none⟩ = some (.int .i64 vx[k].sp.hi) ∧ wx.cell? ⟨b1, o1 + k * 7 + 4, none⟩ = some (.bool vx[k].t) ∧ wx.cell? ⟨b1, o1 + k * 7 + 5, none⟩ = some (.bool vx[k].f) ∧ wx.cell? ⟨b1, o1 + k * 7 + 6, none⟩ = some (.slice ss1 vx[k].s.length g1))) ∧ (wx.cell? ⟨w.heap.size + 1, 1, none⟩ = some (.slice (some ⟨b2, o2, none⟩) vy.length vc2) ∧ (wx.cell? ⟨b2, o2 + k * 7, none⟩ = some (.bool vy[k].n) ∧ wx.cell? ⟨b2, o2 + k * 7 + 1, none⟩ = some (.bool vy[k].sp.n) ∧ wx.cell? ⟨b2, o2 + k * 7 + 2, none⟩ = some (.int .i64 vy[k].sp.lo) ∧ wx.cell? ⟨b2, o2 + k * 7 + 3, none⟩ = some (.int .i64 vy[k].sp.hi) ∧ wx.cell? ⟨b2, o2 + k * 7 + 4, none⟩ = some (.bool vy[k].t) ∧ wx.cell? ⟨b2, o2 + k * 7 + 5, none⟩ = some (.bool vy[k].f) ∧ wx.cell? ⟨b2, o2 + k * 7 + 6, none⟩ = some (.slice ss2 vy[k].s.length g2)))) := fun wx hx => ⟨⟨by rw [hx.cell (by simp only; exact az)]; exact a1, (G1.call hx).1⟩, by rw [hx.cell (by simp only; exact cz)]; exact c1, (G2.call hx).1⟩
      have HD : Below wr.heap.size wr wr.drew := (Below.refl _ _).drew
      have HS := hideH (inRow_step vx vy k hlt hlt')
      go_wp2
      clear a0 a1 a2 az c0 c1 c2 cz
      refine wp_region_z (S := (fun wx => (wx.cell? ⟨w.heap.size, 1, none⟩ = some (.slice (some ⟨b1, o1, none⟩) vx.length vc1) ∧ (wx.cell? ⟨b1, o1 + k * 7, none⟩ = some (.bool vx[k].n) ∧ wx.cell? ⟨b1, o1 + k * 7 + 1, none⟩ = some (.bool vx[k].sp.n) ∧ wx.cell? ⟨b1, o1 + k * 7 + 2, none⟩ = some (.int .i64 vx[k].sp.lo) ∧ wx.cell? ⟨b1, o1 + k * 7 + 3, none⟩ = some (.int .i64 vx[k].sp.hi) ∧ wx.cell? ⟨b1, o1 + k * 7 + 4, none⟩ = some (.bool vx[k].t) ∧ wx.cell? ⟨b1, o1 + k * 7 + 5, none⟩ = some (.bool vx[k].f) ∧ wx.cell? ⟨b1, o1 + k * 7 + 6, none⟩ = some (.slice ss1 vx[k].s.length g1))) ∧ (wx.cell? ⟨w.heap.size + 1, 1, none⟩ = some (.slice (some ⟨b2, o2, none⟩) vy.length vc2) ∧ (wx.cell? ⟨b2, o2 + k * 7, none⟩ = some (.bool vy[k].n) ∧ wx.cell? ⟨b2, o2 + k * 7 + 1, none⟩ = some (.bool vy[k].sp.n) ∧ wx.cell? ⟨b2, o2 + k * 7 + 2, none⟩ = some (.int .i64 vy[k].sp.lo) ∧ wx.cell? ⟨b2, o2 + k * 7 + 3, none⟩ = some (.int .i64 vy[k].sp.hi) ∧ wx.cell? ⟨b2, o2 + k * 7 + 4, none⟩ = some (.bool vy[k].t) ∧ wx.cell? ⟨b2, o2 + k * 7 + 5, none⟩ = some (.bool vy[k].f) ∧ wx.cell? ⟨b2, o2 + k * 7 + 6, none⟩ = some (.slice ss2 vy[k].s.length g2))))) [] (by kernel_rfl) (HKZ.out _ HD) (fun hHeld => ?_)
      refine tkZ 0 ?_ ?_ ?_
      rotate_left
      · exact rn
      (try simp only [Act.put, List.getElem_toArray, List.getElem_cons_zero, List.getElem_cons_succ, List.setIfInBounds_toArray, List.set_cons_zero, List.set_cons_succ])
      refine tkZ 1 ?_ ?_ ?_
      rotate_left
      · exact rn
      (try simp only [Act.put, List.getElem_toArray, List.getElem_cons_zero, List.getElem_cons_succ, List.setIfInBounds_toArray, List.set_cons_zero, List.set_cons_succ])
      refine tkZ 2 ?_ ?_ ?_
      rotate_left
      · exact rn
      (try simp only [Act.put, List.getElem_toArray, List.getElem_cons_zero, List.getElem_cons_succ, List.setIfInBounds_toArray, List.set_cons_zero, List.set_cons_succ])
      refine tkZ 3 ?_ ?_ ?_
      rotate_left
      · exact rn
      (try simp only [Act.put, List.getElem_toArray, List.getElem_cons_zero, List.getElem_cons_succ, List.setIfInBounds_toArray, List.set_cons_zero, List.set_cons_succ])
      refine tkZ 4 ?_ ?_ ?_
      rotate_left
      · exact rn
      (try simp only [Act.put, List.getElem_toArray, List.getElem_cons_zero, List.getElem_cons_succ, List.setIfInBounds_toArray, List.set_cons_zero, List.set_cons_succ])
      refine tkZ 5 ?_ ?_ ?_
      rotate_left
      · exact rn
      (try simp only [Act.put, List.getElem_toArray, List.getElem_cons_zero, List.getElem_cons_succ, List.setIfInBounds_toArray, List.set_cons_zero, List.set_cons_succ])
      refine tkZ 6 ?_ ?_ ?_
      rotate_left
      · exact rn
      (try simp only [Act.put, List.getElem_toArray, List.getElem_cons_zero, List.getElem_cons_succ, List.setIfInBounds_toArray, List.set_cons_zero, List.set_cons_succ])
      refine tkZ 7 ?_ ?_ ?_
      rotate_left
      · exact rn
      (try simp only [Act.put, List.getElem_toArray, List.getElem_cons_zero, List.getElem_cons_succ, List.setIfInBounds_toArray, List.set_cons_zero, List.set_cons_succ])
      refine tkZ 8 ?_ ?_ ?_
      rotate_left
      · exact rn
      (try simp only [Act.put, List.getElem_toArray, List.getElem_cons_zero, List.getElem_cons_succ, List.setIfInBounds_toArray, List.set_cons_zero, List.set_cons_succ])
      refine tkZ 9 ?_ ?_ ?_
      rotate_left
      · exact rn
      (try simp only [Act.put, List.getElem_toArray, List.getElem_cons_zero, List.getElem_cons_succ, List.setIfInBounds_toArray, List.set_cons_zero, List.set_cons_succ])
      refine wpAnyZ_one (i := 10) rfl (by kernel_rfl) (fun K hK => ?_)
      go_simp
      go_at_call 14
      refine (guessIn_any vx[k] ss1 g1 vy[k] ss2 g2 _ (I1.call HD) hl1 (I2.call HD) hl2).mono ?_
      rintro e w5 ⟨rfl, hb5⟩
      have HB5 : Below wr.heap.size wr w5 := HD.trans (hb5.mono HD.size)
      go_wp2_with fail
      refine hK.out _ _ (HKZ.out _ HB5) (fun hHeld => ?_)
      clear hK K
      (try simp only [Act.put, List.getElem_toArray, List.getElem_cons_zero, List.getElem_cons_succ, List.setIfInBounds_toArray, List.set_cons_zero, List.set_cons_succ])
      refine tkZ 11 ?_ ?_ ?_
      rotate_left
      · exact rn
      (try simp only [Act.put, List.getElem_toArray, List.getElem_cons_zero, List.getElem_cons_succ, List.setIfInBounds_toArray, List.set_cons_zero, List.set_cons_succ])
      refine wpAnyZ_done (by kernel_rfl) ?_ _
      rcases (show inGs vx[k] vy[k] = false ∨ inGs vx[k] vy[k] = true by cases inGs vx[k] vy[k] <;> simp) with hs | hs <;> have HSG := hideH hs <;> rw [hs] <;> clear hs
      · go_wp2
        go_ret
        refine ⟨ret_bool ?_, LR.trans (HB5.mono LR.size)⟩
        rw [HRES.out, HK.out, HS.out, HSG.out]
        rfl
      · go_wp2
        go_roundw
        case rel => exact ⟨k + 1, by omega, by go_num, hbr.trans (HB5.mono hbr.size), by show _ = _; rw [HK.out, HS.out, HSG.out]; rfl⟩
        case measure => simp [intOf]; omega
    · have n1 : ¬ (k : Int) < (vx.length : Int) := by omega
      have HRE : Hid (res = inRows fx fy) := by
        show _ = _
        rw [HRES.out, HK.out, List.drop_eq_nil_of_le (by omega)]
        rfl
      have A2 := A0.call hbr
      have B2 := B0.call hbr
      generalize wr = w2 at *
      clear wr HRES HK A0 B0
      go_wp2
      clear a0 a1 a2 az c0 c1 c2 cz
      go_loopw [6] (fun i wr => ∃ k : Nat, k ≤ fx.length ∧ i = .int .i64 k ∧ Below w2.heap.size w2 wr ∧ Hid (res = inRows (fx.drop k) (fy.drop k))) (fun i _ => fx.length - (intOf i).toNat)
      case atStart => exact ⟨0, Nat.zero_le _, rfl, Below.refl _ _, HRE⟩
      case round =>
        obtain ⟨k2, hk2, rfl, hbq, HT⟩ := hrel
        generalize wr = w3 at *
        clear wr
        obtain ⟨⟨a0, a1, a2⟩, az, -⟩ := id (A2.call hbq)
        by_cases hlt2 : k2 < fx.length
        · have n0 : (0 : Int) ≤ (k2 : Int) := by omega
          have n2' : (k2 : Int) < (fx.length : Int) := by omega
          have hlt2' : k2 < fy.length := by have := HF.out; omega
          have n3' : (k2 : Int) < (fy.length : Int) := by omega
          have HU := hideH (inRows_step fx fy k2 hlt2 hlt2')
          go_wp2
          clear a0 a1 a2 az
          go_loopw [7] (fun i wr => ∃ m : Nat, m ≤ fx[k2].length ∧ i = .int .i64 m ∧ Below w2.heap.size w2 wr ∧ Hid (res = (inRow (fx[k2].drop m) (fy[k2].drop m) && inRows (fx.drop (k2 + 1)) (fy.drop (k2 + 1))))) (fun i _ => fx[k2].length - (intOf i).toNat)
          case atStart => exact ⟨0, Nat.zero_le _, rfl, hbq, by show _ = _; rw [HT.out, HU.out]; rfl⟩
          case round =>
            obtain ⟨m, hm, rfl, hbo, HV2⟩ := hrel
            have hlen := HR.out k2 hlt2 hlt2'
            have HEQ := hideH hlen.1
            have h3 := hlen.2
            clear hlen
            obtain ⟨⟨a0, a1, a2⟩, az, -⟩ := id (A2.call hbo)
            obtain ⟨⟨c0, c1, c2⟩, cz, -⟩ := id (B2.call hbo)
            have hwo := LR.trans (hbo.mono LR.size)
            obtain ⟨p1, q1, e1, zp1, r1, rc1, D1, k1, m1, J1⟩ := (HX.out.2.below hwo (Nat.le_refl _)) k2 hlt2
            obtain ⟨p2, q2, e2, zp2, r2, rc2, D2, k2', m2, J2⟩ := (HY.out.2.below hwo (Nat.le_refl _)) k2 hlt2'
            subst e1 e2
            (try simp only at D1 D2 J1 J2 k1 k2')
            by_cases hltm : m < fx[k2].length
            · have m0 : (0 : Int) ≤ (m : Int) := by omega
              have m1' : (m : Int) < (fx[k2].length : Int) := by omega
              have hltm' : m < fy[k2].length := by have := HEQ.out; omega
              have m2' : (m : Int) < (fy[k2].length : Int) := by omega
              obtain ⟨b1, o1, e1, ss1, g1, G1, I1, l1, l2⟩ := J1 m hltm
              obtain ⟨b2, o2, e2, ss2, g2, G2, I2, l3, l4⟩ := J2 m hltm'
              subst e1 e2
              have hl1 : fx[k2][m].s.length ≤ 9223372036854775807 := by unfold maxLen at l2; omega
              have hl2 : fy[k2][m].s.length ≤ 9223372036854775807 := by unfold maxLen at l4; omega
              have HKZ : Hid (∀ wx, Below wr.heap.size wr wx → (wx.cell? ⟨w.heap.size, 2, none⟩ = some (.slice (some ⟨p1, q1, none⟩) fx.length fc1) ∧ wx.cell? ⟨p1, q1 + k2, none⟩ = some (.slice (some ⟨b1, o1, none⟩) fx[k2].length rc1) ∧ (wx.cell? ⟨b1, o1 + m * 7, none⟩ = some (.bool fx[k2][m].n) ∧ wx.cell? ⟨b1, o1 + m * 7 + 1, none⟩ = some (.bool fx[k2][m].sp.n) ∧ wx.cell? ⟨b1, o1 + m * 7 + 2, none⟩ = some (.int .i64 fx[k2][m].sp.lo) ∧ wx.cell? ⟨b1, o1 + m * 7 + 3, none⟩ = some (.int .i64 fx[k2][m].sp.hi) ∧ wx.cell? ⟨b1, o1 + m * 7 + 4, none⟩ = some (.bool fx[k2][m].t) ∧ wx.cell? ⟨b1, o1 + m * 7 + 5, none⟩ = some (.bool fx[k2][m].f) ∧ wx.cell? ⟨b1, o1 + m * 7 + 6, none⟩ = some (.slice ss1 fx[k2][m].s.length g1))) ∧ (wx.cell? ⟨w.heap.size + 1, 2, none⟩ = some (.slice (some ⟨p2, q2, none⟩) fy.length fc2) ∧ wx.cell? ⟨p2, q2 + k2, none⟩ = some (.slice (some ⟨b2, o2, none⟩) fy[k2].length rc2) ∧ (wx.cell? ⟨b2, o2 + m * 7, none⟩ = some (.bool fy[k2][m].n) ∧ wx.cell? ⟨b2, o2 + m * 7 + 1, none⟩ = some (.bool fy[k2][m].sp.n) ∧ wx.cell? ⟨b2, o2 + m * 7 + 2, none⟩ = some (.int .i64 fy[k2][m].sp.lo) ∧ wx.cell? ⟨b2, o2 + m * 7 + 3, none⟩ = some (.int .i64 fy[k2][m].sp.hi) ∧ wx.cell? ⟨b2, o2 + m * 7 + 4, none⟩ = some (.bool fy[k2][m].t) ∧ wx.cell? ⟨b2, o2 + m * 7 + 5, none⟩ = some (.bool fy[k2][m].f) ∧ wx.cell? ⟨b2, o2 + m * 7 + 6, none⟩ = some (.slice ss2 fy[k2][m].s.length g2)))) := fun wx hx => ⟨⟨by rw [hx.cell (by simp only; exact az)]; exact a2, by rw [hx.cell (by simp only; exact zp1)]; exact D1, (G1.call hx).1⟩, by rw [hx.cell (by simp only; exact cz)]; exact c2, by rw [hx.cell (by simp only; exact zp2)]; exact D2, (G2.call hx).1⟩
              have HD : Below wr.heap.size wr wr.drew := (Below.refl _ _).drew
              have HS := hideH (inRow_step fx[k2] fy[k2] m hltm hltm')
              go_wp2
              clear a0 a1 a2 az c0 c1 c2 cz D1 D2
              refine wp_region_z (S := (fun wx => (wx.cell? ⟨w.heap.size, 2, none⟩ = some (.slice (some ⟨p1, q1, none⟩) fx.length fc1) ∧ wx.cell? ⟨p1, q1 + k2, none⟩ = some (.slice (some ⟨b1, o1, none⟩) fx[k2].length rc1) ∧ (wx.cell? ⟨b1, o1 + m * 7, none⟩ = some (.bool fx[k2][m].n) ∧ wx.cell? ⟨b1, o1 + m * 7 + 1, none⟩ = some (.bool fx[k2][m].sp.n) ∧ wx.cell? ⟨b1, o1 + m * 7 + 2, none⟩ = some (.int .i64 fx[k2][m].sp.lo) ∧ wx.cell? ⟨b1, o1 + m * 7 + 3, none⟩ = some (.int .i64 fx[k2][m].sp.hi) ∧ wx.cell? ⟨b1, o1 + m * 7 + 4, none⟩ = some (.bool fx[k2][m].t) ∧ wx.cell? ⟨b1, o1 + m * 7 + 5, none⟩ = some (.bool fx[k2][m].f) ∧ wx.cell? ⟨b1, o1 + m * 7 + 6, none⟩ = some (.slice ss1 fx[k2][m].s.length g1))) ∧ (wx.cell? ⟨w.heap.size + 1, 2, none⟩ = some (.slice (some ⟨p2, q2, none⟩) fy.length fc2) ∧ wx.cell? ⟨p2, q2 + k2, none⟩ = some (.slice (some ⟨b2, o2, none⟩) fy[k2].length rc2) ∧ (wx.cell? ⟨b2, o2 + m * 7, none⟩ = some (.bool fy[k2][m].n) ∧ wx.cell? ⟨b2, o2 + m * 7 + 1, none⟩ = some (.bool fy[k2][m].sp.n) ∧ wx.cell? ⟨b2, o2 + m * 7 + 2, none⟩ = some (.int .i64 fy[k2][m].sp.lo) ∧ wx.cell? ⟨b2, o2 + m * 7 + 3, none⟩ = some (.int .i64 fy[k2][m].sp.hi) ∧ wx.cell? ⟨b2, o2 + m * 7 + 4, none⟩ = some (.bool fy[k2][m].t) ∧ wx.cell? ⟨b2, o2 + m * 7 + 5, none⟩ = some (.bool fy[k2][m].f) ∧ wx.cell? ⟨b2, o2 + m * 7 + 6, none⟩ = some (.slice ss2 fy[k2][m].s.length g2))))) [] (by kernel_rfl) (HKZ.out _ HD) (fun hHeld => ?_)
              refine tkZ 0 ?_ ?_ ?_
              rotate_left
              · exact rn
              (try simp only [Act.put, List.getElem_toArray, List.getElem_cons_zero, List.getElem_cons_succ, List.setIfInBounds_toArray, List.set_cons_zero, List.set_cons_succ])
              refine tkZ 1 ?_ ?_ ?_
              rotate_left
              · exact rn
              (try simp only [Act.put, List.getElem_toArray, List.getElem_cons_zero, List.getElem_cons_succ, List.setIfInBounds_toArray, List.set_cons_zero, List.set_cons_succ])
              refine tkZ 2 ?_ ?_ ?_
              rotate_left
              · exact rn
              (try simp only [Act.put, List.getElem_toArray, List.getElem_cons_zero, List.getElem_cons_succ, List.setIfInBounds_toArray, List.set_cons_zero, List.set_cons_succ])
              refine tkZ 3 ?_ ?_ ?_
              rotate_left
              · exact rn
              (try simp only [Act.put, List.getElem_toArray, List.getElem_cons_zero, List.getElem_cons_succ, List.setIfInBounds_toArray, List.set_cons_zero, List.set_cons_succ])
              refine tkZ 4 ?_ ?_ ?_
              rotate_left
              · exact rn
              (try simp only [Act.put, List.getElem_toArray, List.getElem_cons_zero, List.getElem_cons_succ, List.setIfInBounds_toArray, List.set_cons_zero, List.set_cons_succ])
              refine tkZ 5 ?_ ?_ ?_
              rotate_left
              · exact rn
              (try simp only [Act.put, List.getElem_toArray, List.getElem_cons_zero, List.getElem_cons_succ, List.setIfInBounds_toArray, List.set_cons_zero, List.set_cons_succ])
              refine tkZ 6 ?_ ?_ ?_
              rotate_left
              · exact rn
              (try simp only [Act.put, List.getElem_toArray, List.getElem_cons_zero, List.getElem_cons_succ, List.setIfInBounds_toArray, List.set_cons_zero, List.set_cons_succ])
              refine tkZ 7 ?_ ?_ ?_
              rotate_left
              · exact rn
              (try simp only [Act.put, List.getElem_toArray, List.getElem_cons_zero, List.getElem_cons_succ, List.setIfInBounds_toArray, List.set_cons_zero, List.set_cons_succ])
              refine tkZ 8 ?_ ?_ ?_
              rotate_left
              · exact rn
              (try simp only [Act.put, List.getElem_toArray, List.getElem_cons_zero, List.getElem_cons_succ, List.setIfInBounds_toArray, List.set_cons_zero, List.set_cons_succ])
              refine tkZ 9 ?_ ?_ ?_
              rotate_left
              · exact rn
              (try simp only [Act.put, List.getElem_toArray, List.getElem_cons_zero, List.getElem_cons_succ, List.setIfInBounds_toArray, List.set_cons_zero, List.set_cons_succ])
              refine tkZ 10 ?_ ?_ ?_
              rotate_left
              · exact rn
              (try simp only [Act.put, List.getElem_toArray, List.getElem_cons_zero, List.getElem_cons_succ, List.setIfInBounds_toArray, List.set_cons_zero, List.set_cons_succ])
              refine tkZ 11 ?_ ?_ ?_
              rotate_left
              · exact rn
              (try simp only [Act.put, List.getElem_toArray, List.getElem_cons_zero, List.getElem_cons_succ, List.setIfInBounds_toArray, List.set_cons_zero, List.set_cons_succ])
              refine tkZ 12 ?_ ?_ ?_
              rotate_left
              · exact rn
              (try simp only [Act.put, List.getElem_toArray, List.getElem_cons_zero, List.getElem_cons_succ, List.setIfInBounds_toArray, List.set_cons_zero, List.set_cons_succ])
              refine tkZ 13 ?_ ?_ ?_
              rotate_left
              · exact rn
              (try simp only [Act.put, List.getElem_toArray, List.getElem_cons_zero, List.getElem_cons_succ, List.setIfInBounds_toArray, List.set_cons_zero, List.set_cons_succ])
              refine tkZ 14 ?_ ?_ ?_
              rotate_left
              · exact rn
              (try simp only [Act.put, List.getElem_toArray, List.getElem_cons_zero, List.getElem_cons_succ, List.setIfInBounds_toArray, List.set_cons_zero, List.set_cons_succ])
              refine tkZ 15 ?_ ?_ ?_
              rotate_left
              · exact rn
              (try simp only [Act.put, List.getElem_toArray, List.getElem_cons_zero, List.getElem_cons_succ, List.setIfInBounds_toArray, List.set_cons_zero, List.set_cons_succ])
              refine wpAnyZ_one (i := 16) rfl (by kernel_rfl) (fun K hK => ?_)
              go_simp
              go_at_call 14
              refine (guessIn_any fx[k2][m] ss1 g1 fy[k2][m] ss2 g2 _ (I1.call HD) hl1 (I2.call HD) hl2).mono ?_
              rintro e w5 ⟨rfl, hb5⟩
              have HB5 : Below wr.heap.size wr w5 := HD.trans (hb5.mono HD.size)
              go_wp2_with fail
              refine hK.out _ _ (HKZ.out _ HB5) (fun hHeld => ?_)
              clear hK K
              (try simp only [Act.put, List.getElem_toArray, List.getElem_cons_zero, List.getElem_cons_succ, List.setIfInBounds_toArray, List.set_cons_zero, List.set_cons_succ])
              refine tkZ 17 ?_ ?_ ?_
              rotate_left
              · exact rn
              (try simp only [Act.put, List.getElem_toArray, List.getElem_cons_zero, List.getElem_cons_succ, List.setIfInBounds_toArray, List.set_cons_zero, List.set_cons_succ])
              refine wpAnyZ_done (by kernel_rfl) ?_ _
              rcases (show inGs fx[k2][m] fy[k2][m] = false ∨ inGs fx[k2][m] fy[k2][m] = true by cases inGs fx[k2][m] fy[k2][m] <;> simp) with hs | hs <;> have HSG := hideH hs <;> rw [hs] <;> clear hs
              · go_wp2
                go_ret
                refine ⟨ret_bool ?_, hwo.trans (HB5.mono hwo.size)⟩
                rw [HV2.out, HS.out, HSG.out]
                rfl
              · go_wp2
                go_roundw
                case rel => exact ⟨m + 1, by omega, by go_num, hbo.trans (HB5.mono hbo.size), by show _ = _; rw [HV2.out, HS.out, HSG.out]; rfl⟩
                case measure => simp [intOf]; omega
            · have m1' : ¬ (m : Int) < (fx[k2].length : Int) := by omega
              go_wp2
              go_roundw
              case rel => exact ⟨k2 + 1, by omega, by go_num, hbo, by show _ = _; rw [HV2.out, List.drop_eq_nil_of_le (by omega)]; rfl⟩
              case measure => simp [intOf]; omega
        · have n2' : ¬ (k2 : Int) < (fx.length : Int) := by omega
          go_wp2
          go_ret
          refine ⟨ret_bool ?_, LR.trans (hbq.mono LR.size)⟩
          rw [HT.out, List.drop_eq_nil_of_le (by omega)]
          rfl

set_option maxHeartbeats 2000000 in
theorem pictureIn_left (x y : Pic) (vs1 : Option Addr) (vc1 : Nat) (fs1 : Option Addr) (fc1 : Nat) (vs2 : Option Addr) (vc2 : Nat) (fs2 : Option Addr) (fc2 : Nat) (w : World) (hn : x.none = true) :
    Calls Tryz.prog 30 #[xv x vs1 vc1 fs1 fc1, xv y vs2 vc2 fs2 fc2] w fun e w' => e = .returned (.bool true) ∧ Below w.heap.size w w' := by
  obtain ⟨xn, vx, fx⟩ := x
  obtain ⟨yn, vy, fy⟩ := y
  simp only at hn
  subst hn
  go_enter Tryz.func30, Tryz.ntmps30
  go_wp2
  go_ret
  exact ⟨rfl, by go_grown⟩
set_option maxHeartbeats 2000000 in
theorem pictureIn_right (x y : Pic) (vs1 : Option Addr) (vc1 : Nat) (fs1 : Option Addr) (fc1 : Nat) (vs2 : Option Addr) (vc2 : Nat) (fs2 : Option Addr) (fc2 : Nat) (w : World) (hm : x.none = false) (hn : y.none = true) :
    Calls Tryz.prog 30 #[xv x vs1 vc1 fs1 fc1, xv y vs2 vc2 fs2 fc2] w fun e w' => e = .returned (.bool false) ∧ Below w.heap.size w w' := by
  obtain ⟨xn, vx, fx⟩ := x
  obtain ⟨yn, vy, fy⟩ := y
  simp only at hn hm
  subst hn hm
  go_enter Tryz.func30, Tryz.ntmps30
  go_wp2
  go_ret
  exact ⟨rfl, by go_grown⟩
theorem pictureIn_any {V F : Int} {c : List Ins} (x y : Pic) (vs1 : Option Addr) (vc1 : Nat) (fs1 : Option Addr) (fc1 : Nat) (vs2 : Option Addr) (vc2 : Nat) (fs2 : Option Addr) (fc2 : Nat) (w : World) (hx : PicAt w x vs1 fs1) (hy : PicAt w y vs2 fs2) (h0 : ckProg V F c = 0) (h1 : ckPic V F c x = 0) (h2 : ckPic V F c y = 0) :
    Calls Tryz.prog 30 #[xv x vs1 vc1 fs1 fc1, xv y vs2 vc2 fs2 fc2] w fun e w' => e = .returned (.bool (inPic x y)) ∧ Below w.heap.size w w' := by
  obtain ⟨⟨hV1, hV8⟩, ⟨hF0, hF3⟩, h60⟩ := ckProg_lim h0
  by_cases hn : x.none = true
  · have e : inPic x y = true := by unfold inPic; rw [hn]; rfl
    rw [e]
    exact pictureIn_left x y vs1 vc1 fs1 fc1 vs2 vc2 fs2 fc2 w hn
  · have hn' : x.none = false := by simpa using hn
    by_cases hm : y.none = true
    · have e : inPic x y = false := by unfold inPic; rw [hn', hm]; rfl
      rw [e]
      exact pictureIn_right x y vs1 vc1 fs1 fc1 vs2 vc2 fs2 fc2 w hn' hm
    · have hm' : y.none = false := by simpa using hm
      obtain ⟨a1, a2, a3, a4, a5⟩ := ckPic_form h1 hn'
      obtain ⟨b1, b2, b3, b4, b5⟩ := ckPic_form h2 hm'
      obtain ⟨xn, vx, fx⟩ := x
      obtain ⟨yn, vy, fy⟩ := y
      simp only at hn' hm' a1 a2 a3 a4 a5 b1 b2 b3 b4 b5
      subst hn' hm'
      exact pictureIn_main vx vy fx fy vs1 vc1 fs1 fc1 vs2 vc2 fs2 fc2 w hx hy (by omega) (by omega) (by omega) (by omega)
        (fun i h h' => by have := a3 _ (List.getElem_mem h); have := b3 _ (List.getElem_mem h'); omega)
end Go.Proofs.YtmapdpcfanecdaaGreat
