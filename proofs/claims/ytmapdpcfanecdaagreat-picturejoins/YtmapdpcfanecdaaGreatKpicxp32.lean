/- The document's own answer: two pictures joined. -/
import Derived.Test.YtmapdpcfanecdaaGreatKpicxp21
import Derived.Test.YtmapdpcfanecdaaGreatKpicxp31
import Derived.Test.YtmapdpcfanecdaaGreatKpicxp07
import Derived.Deep.DeepCutAuto
import Derived.Deep.RegionHeldLaw
namespace Go.Proofs.YtmapdpcfanecdaaGreat
set_option linter.unusedVariables false
set_option linter.unusedSimpArgs false
open Go.RowKit
attribute [local go_sem ↓] Go.wp_at_zero Go.wp_at_succ

/-- What is made of two guesses in new memory lies away from an older row. -/
theorem joined_in {w5 w6 : World} {wd : World} {B N : Nat} {js : Option Addr} {jc : Nat} {g : Gs} {v : Value} (hI : IntsAt w5 js g.s) (h1 : g.s.length ≤ jc) (h2 : jc ≤ maxLen) (hF : ∀ a, js = some a → wd.heap.size ≤ a.block) (hB : B ≤ N) (hv : ∀ {k}, v.ownBlock = some k → k < N) (hb : Below w5.heap.size w5 w6) (hN : N ≤ wd.heap.size) : GcIn (fun b => B ≤ b ∧ v.ownBlock ≠ some b) w6 ⟨g, js, jc⟩ := by
  refine ⟨?_, h1, h2⟩
  rcases hI with h | ⟨b, off, e, hz, hc⟩
  · exact .inl h
  · have hbn := hF _ e
    simp only at hbn
    exact .inr ⟨b, off, e, ⟨by omega, fun e' => by have := hv e'; omega⟩, Nat.lt_of_lt_of_le hz hb.size, fun k hk => by rw [hb.cell (by simp only; exact hz)]; exact hc k hk⟩
theorem joinRow_take (j : Gs → Gs → Gs) (a b : List Gs) (k : Nat) (h : k < a.length) (h' : k < b.length) : joinRow j (a.take (k + 1)) (b.take (k + 1)) = joinRow j (a.take k) (b.take k) ++ [j a[k] b[k]] := by
  unfold joinRow
  rw [List.take_succ_eq_append_getElem h, List.take_succ_eq_append_getElem h', List.zipWith_append (by simp; omega)]
  rfl
theorem joinRows_take (j : Gs → Gs → Gs) (a b : List (List Gs)) (k : Nat) (h : k < a.length) (h' : k < b.length) : List.zipWith (joinRow j) (a.take (k + 1)) (b.take (k + 1)) = List.zipWith (joinRow j) (a.take k) (b.take k) ++ [joinRow j a[k] b[k]] := by
  rw [List.take_succ_eq_append_getElem h, List.take_succ_eq_append_getElem h', List.zipWith_append (by simp; omega)]
  rfl
def JoinC (wide : Bool) (j : Gs → Gs → Gs) (RR : Gs → Gs → Prop) : Prop := ∀ (g : Gs) (ss : Option Addr) (gc : Nat) (h : Gs) (st : Option Addr) (hc : Nat) (wx : World), IntsAt wx ss g.s → IntsAt wx st h.s → RR g h → Calls Tryz.prog 13 #[gv g ss gc, gv h st hc, .bool wide] wx fun e w' => ∃ js jc, e = .returned (gv (j g h) js jc) ∧ IntsAt w' js (j g h).s ∧ (j g h).s.length ≤ jc ∧ jc ≤ maxLen ∧ (∀ a, js = some a → wx.heap.size ≤ a.block) ∧ Below wx.heap.size wx w'

set_option maxHeartbeats 16000000 in
set_option maxRecDepth 20000 in
theorem joinPicture_main (wide : Bool) (j : Gs → Gs → Gs) (RR : Gs → Gs → Prop) (hJ : JoinC wide j RR) (vx vy : List Gs) (fx fy : List (List Gs)) (vs1 : Option Addr) (vc1 : Nat) (fs1 : Option Addr) (fc1 : Nat) (vs2 : Option Addr) (vc2 : Nat) (fs2 : Option Addr) (fc2 : Nat) (w : World) (hx : PicAt w ⟨false, vx, fx⟩ vs1 fs1) (hy : PicAt w ⟨false, vy, fy⟩ vs2 fs2) (hv : vx.length = vy.length) (hv8 : vx.length ≤ 8) (hf : fx.length = fy.length) (h60 : fx.length ≤ 60) (hr : ∀ i (h : i < fx.length) (h' : i < fy.length), fx[i].length = fy[i].length ∧ fx[i].length ≤ 3) (hR1 : ∀ i (h : i < vx.length) (h' : i < vy.length), RR vx[i] vy[i]) (hR2 : ∀ i (h : i < fx.length) (h' : i < fy.length) k (hk : k < fx[i].length) (hk' : k < fy[i].length), RR fx[i][k] fy[i][k]) :
    Calls Tryz.prog 29 #[xv ⟨false, vx, fx⟩ vs1 vc1 fs1 fc1, xv ⟨false, vy, fy⟩ vs2 vc2 fs2 fc2, .bool wide] w fun e w' => PicRF w.heap.size w' e ⟨false, joinRow j vx vy, List.zipWith (joinRow j) fx fy⟩ ∧ Below w.heap.size w w' := by
  obtain ⟨ti, hi, hz0, hz1, hz2⟩ := info_parts Tryz.info_guess
  obtain ⟨tk, hk, hx0, hx1, hx2⟩ := info_parts Tryz.info_row
  have HJ : Hid (∀ (g : Gs) (ss : Option Addr) (gc : Nat) (h : Gs) (st : Option Addr) (hc : Nat) (wx : World), IntsAt wx ss g.s → IntsAt wx st h.s → RR g h → Calls Tryz.prog 13 #[gv g ss gc, gv h st hc, .bool wide] wx fun e w' => ∃ js jc, e = .returned (gv (j g h) js jc) ∧ IntsAt w' js (j g h).s ∧ (j g h).s.length ≤ jc ∧ jc ≤ maxLen ∧ (∀ a, js = some a → wx.heap.size ≤ a.block) ∧ Below wx.heap.size wx w') := hJ
  have HV := hideH hv
  have HF := hideH hf
  have HR := hideH hr
  have HR1 := hideH hR1
  have HR2 := hideH hR2
  have HX := hideH hx
  have HY := hideH hy
  clear hJ hv hf hr hR1 hR2 hx hy
  have hb0 : Below w.heap.size w ((((w.alloc (.cells #[.bool false, .slice vs1 vx.length vc1, .slice fs1 fx.length fc1] 58)).alloc (.cells #[.bool false, .slice vs2 vy.length vc2, .slice fs2 fy.length fc2] 58)).alloc (.cells #[.bool false, .slice none 0 0, .slice none 0 0] 58)).alloc (.cells #[.bool false, .slice none 0 0, .slice none 0 0] 58)) := by go_grown
  have A0 := (XAt.new w ⟨false, vx, fx⟩ vs1 vc1 fs1 fc1).call (w' := ((((w.alloc (.cells #[.bool false, .slice vs1 vx.length vc1, .slice fs1 fx.length fc1] 58)).alloc (.cells #[.bool false, .slice vs2 vy.length vc2, .slice fs2 fy.length fc2] 58)).alloc (.cells #[.bool false, .slice none 0 0, .slice none 0 0] 58)).alloc (.cells #[.bool false, .slice none 0 0, .slice none 0 0] 58))) (by go_grown)
  have B0 := (XAt.new (w.alloc (.cells #[.bool false, .slice vs1 vx.length vc1, .slice fs1 fx.length fc1] 58)) ⟨false, vy, fy⟩ vs2 vc2 fs2 fc2).call (w' := ((((w.alloc (.cells #[.bool false, .slice vs1 vx.length vc1, .slice fs1 fx.length fc1] 58)).alloc (.cells #[.bool false, .slice vs2 vy.length vc2, .slice fs2 fy.length fc2] 58)).alloc (.cells #[.bool false, .slice none 0 0, .slice none 0 0] 58)).alloc (.cells #[.bool false, .slice none 0 0, .slice none 0 0] 58))) (by go_grown)
  have C0 := (X3.new ((w.alloc (.cells #[.bool false, .slice vs1 vx.length vc1, .slice fs1 fx.length fc1] 58)).alloc (.cells #[.bool false, .slice vs2 vy.length vc2, .slice fs2 fy.length fc2] 58)) 58 (.bool false) (.slice none 0 0) (.slice none 0 0)).call (w' := ((((w.alloc (.cells #[.bool false, .slice vs1 vx.length vc1, .slice fs1 fx.length fc1] 58)).alloc (.cells #[.bool false, .slice vs2 vy.length vc2, .slice fs2 fy.length fc2] 58)).alloc (.cells #[.bool false, .slice none 0 0, .slice none 0 0] 58)).alloc (.cells #[.bool false, .slice none 0 0, .slice none 0 0] 58))) (by go_grown)
  have D0 := X3.new (((w.alloc (.cells #[.bool false, .slice vs1 vx.length vc1, .slice fs1 fx.length fc1] 58)).alloc (.cells #[.bool false, .slice vs2 vy.length vc2, .slice fs2 fy.length fc2] 58)).alloc (.cells #[.bool false, .slice none 0 0, .slice none 0 0] 58)) 58 (.bool false) (.slice none 0 0) (.slice none 0 0)
  have z0 : w.heap.size + 1 + 1 + 1 + 1 ≤ ((((w.alloc (.cells #[.bool false, .slice vs1 vx.length vc1, .slice fs1 fx.length fc1] 58)).alloc (.cells #[.bool false, .slice vs2 vy.length vc2, .slice fs2 fy.length fc2] 58)).alloc (.cells #[.bool false, .slice none 0 0, .slice none 0 0] 58)).alloc (.cells #[.bool false, .slice none 0 0, .slice none 0 0] 58)).heap.size := by simp
  rw [World.size_alloc] at B0
  rw [World.size_alloc, World.size_alloc] at C0
  rw [World.size_alloc, World.size_alloc, World.size_alloc] at D0
  (try simp only at A0 B0)
  go_enter Tryz.func29, Tryz.ntmps29
  go_upto_region 6 with fail
  generalize ((((w.alloc (.cells #[.bool false, .slice vs1 vx.length vc1, .slice fs1 fx.length fc1] 58)).alloc (.cells #[.bool false, .slice vs2 vy.length vc2, .slice fs2 fy.length fc2] 58)).alloc (.cells #[.bool false, .slice none 0 0, .slice none 0 0] 58)).alloc (.cells #[.bool false, .slice none 0 0, .slice none 0 0] 58)) = w1 at *
  go_wp2
  go_loopw [8] (fun i wr => ∃ (k : Nat) (vs : Option Addr) (vc : Nat) (l : List Gc), k ≤ vx.length ∧ i = .int .i64 k ∧ XAt wr w.heap.size ⟨false, vx, fx⟩ vs1 vc1 fs1 fc1 ∧ XAt wr (w.heap.size + 1) ⟨false, vy, fy⟩ vs2 vc2 fs2 fc2 ∧ X3 wr (w.heap.size + 1 + 1) (.bool false) (.slice none 0 0) (.slice none 0 0) ∧ X3 wr (w.heap.size + 1 + 1 + 1) (.bool false) (.slice vs l.length vc) (.slice none 0 0) ∧ SRow wr (w.heap.size + 1 + 1 + 1 + 1) (.slice vs l.length vc) l ∧ Hid (l.map Gc.g = joinRow j (vx.take k) (vy.take k)) ∧ Below w.heap.size w wr ∧ w.heap.size + 1 + 1 + 1 + 1 ≤ wr.heap.size) (fun i _ => vx.length - (intOf i).toNat)
  case atStart => exact ⟨0, none, 0, [], Nat.zero_le _, rfl, A0, B0, C0, D0, SRow.nil _ _, rfl, hb0, z0⟩
  case round =>
    obtain ⟨k, vs, vc, l, hk1, rfl, AR, BR, CR, ZR, SR, HL, LR, zr⟩ := hrel
    clear A0 B0 C0 D0 hb0 z0
    have LL : Hid (l.length = k) := by
      show _ = _
      have h1 := congrArg List.length HL.out
      have h2 := HV.out
      unfold joinRow at h1
      rw [List.length_map, List.length_zipWith, List.length_take, List.length_take] at h1
      omega
    by_cases hlt : k < vx.length
    · have n0 : (0 : Int) ≤ (k : Int) := by omega
      have n1 : (k : Int) < (vx.length : Int) := by omega
      have hlt' : k < vy.length := by have := HV.out; omega
      have n2 : (k : Int) < (vy.length : Int) := by omega
      obtain ⟨b1, o1, e1, ss1, g1, G1, I1, k1, m1⟩ := (HX.out.1.below LR (Nat.le_refl _)) k hlt
      obtain ⟨b2, o2, e2, ss2, g2, G2, I2, k2, m2⟩ := (HY.out.1.below LR (Nat.le_refl _)) k hlt'
      subst e1 e2
      have hRk := HR1.out k hlt hlt'
      (try simp only at G1 G2 I1 I2)
      have zb1 : b1 < w.heap.size := gs_low (HX.out.1) k hlt
      have zb2 : b2 < w.heap.size := gs_low (HY.out.1) k hlt'
      obtain ⟨⟨a0, a1, a2⟩, az, -⟩ := id AR
      obtain ⟨⟨c0, c1, c2⟩, cz, -⟩ := id BR
      obtain ⟨⟨y0, y1, y2⟩, yz, -⟩ := id ZR
      have HKZ : Hid (∀ wx, Below (w.heap.size + 1 + 1 + 1 + 1) wr wx → wx.cell? ⟨w.heap.size + 1 + 1 + 1, 1, none⟩ = some (.slice vs l.length vc) ∧ (wx.cell? ⟨w.heap.size, 1, none⟩ = some (.slice (some ⟨b1, o1, none⟩) vx.length vc1) ∧ (wx.cell? ⟨b1, o1 + k * 7, none⟩ = some (.bool vx[k].n) ∧ wx.cell? ⟨b1, o1 + k * 7 + 1, none⟩ = some (.bool vx[k].sp.n) ∧ wx.cell? ⟨b1, o1 + k * 7 + 2, none⟩ = some (.int .i64 vx[k].sp.lo) ∧ wx.cell? ⟨b1, o1 + k * 7 + 3, none⟩ = some (.int .i64 vx[k].sp.hi) ∧ wx.cell? ⟨b1, o1 + k * 7 + 4, none⟩ = some (.bool vx[k].t) ∧ wx.cell? ⟨b1, o1 + k * 7 + 5, none⟩ = some (.bool vx[k].f) ∧ wx.cell? ⟨b1, o1 + k * 7 + 6, none⟩ = some (.slice ss1 vx[k].s.length g1))) ∧ (wx.cell? ⟨w.heap.size + 1, 1, none⟩ = some (.slice (some ⟨b2, o2, none⟩) vy.length vc2) ∧ (wx.cell? ⟨b2, o2 + k * 7, none⟩ = some (.bool vy[k].n) ∧ wx.cell? ⟨b2, o2 + k * 7 + 1, none⟩ = some (.bool vy[k].sp.n) ∧ wx.cell? ⟨b2, o2 + k * 7 + 2, none⟩ = some (.int .i64 vy[k].sp.lo) ∧ wx.cell? ⟨b2, o2 + k * 7 + 3, none⟩ = some (.int .i64 vy[k].sp.hi) ∧ wx.cell? ⟨b2, o2 + k * 7 + 4, none⟩ = some (.bool vy[k].t) ∧ wx.cell? ⟨b2, o2 + k * 7 + 5, none⟩ = some (.bool vy[k].f) ∧ wx.cell? ⟨b2, o2 + k * 7 + 6, none⟩ = some (.slice ss2 vy[k].s.length g2)))) := fun wx hx => ⟨by rw [hx.cell (by simp only; omega)]; exact y1, ⟨by rw [hx.cell (by simp only; omega)]; exact a1, (G1.low hx (by omega)).1⟩, by rw [hx.cell (by simp only; omega)]; exact c1, (G2.low hx (by omega)).1⟩
      have HD : Below wr.heap.size wr wr.drew := (Below.refl _ _).drew
      go_wp2
      clear a0 a1 a2 az c0 c1 c2 cz y0 y1 y2 yz
      refine wp_region_z (S := (fun wx => wx.cell? ⟨w.heap.size + 1 + 1 + 1, 1, none⟩ = some (.slice vs l.length vc) ∧ (wx.cell? ⟨w.heap.size, 1, none⟩ = some (.slice (some ⟨b1, o1, none⟩) vx.length vc1) ∧ (wx.cell? ⟨b1, o1 + k * 7, none⟩ = some (.bool vx[k].n) ∧ wx.cell? ⟨b1, o1 + k * 7 + 1, none⟩ = some (.bool vx[k].sp.n) ∧ wx.cell? ⟨b1, o1 + k * 7 + 2, none⟩ = some (.int .i64 vx[k].sp.lo) ∧ wx.cell? ⟨b1, o1 + k * 7 + 3, none⟩ = some (.int .i64 vx[k].sp.hi) ∧ wx.cell? ⟨b1, o1 + k * 7 + 4, none⟩ = some (.bool vx[k].t) ∧ wx.cell? ⟨b1, o1 + k * 7 + 5, none⟩ = some (.bool vx[k].f) ∧ wx.cell? ⟨b1, o1 + k * 7 + 6, none⟩ = some (.slice ss1 vx[k].s.length g1))) ∧ (wx.cell? ⟨w.heap.size + 1, 1, none⟩ = some (.slice (some ⟨b2, o2, none⟩) vy.length vc2) ∧ (wx.cell? ⟨b2, o2 + k * 7, none⟩ = some (.bool vy[k].n) ∧ wx.cell? ⟨b2, o2 + k * 7 + 1, none⟩ = some (.bool vy[k].sp.n) ∧ wx.cell? ⟨b2, o2 + k * 7 + 2, none⟩ = some (.int .i64 vy[k].sp.lo) ∧ wx.cell? ⟨b2, o2 + k * 7 + 3, none⟩ = some (.int .i64 vy[k].sp.hi) ∧ wx.cell? ⟨b2, o2 + k * 7 + 4, none⟩ = some (.bool vy[k].t) ∧ wx.cell? ⟨b2, o2 + k * 7 + 5, none⟩ = some (.bool vy[k].f) ∧ wx.cell? ⟨b2, o2 + k * 7 + 6, none⟩ = some (.slice ss2 vy[k].s.length g2))))) [17] (by kernel_rfl) (HKZ.out _ (HD.mono zr)) (fun hHeld => ?_)
      refine tkZ 0 ?_ ?_ ?_
      rotate_left
      · exact rn
      (try simp only [Act.put, List.getElem_toArray, List.getElem_cons_zero, List.getElem_cons_succ, List.setIfInBounds_toArray, List.set_cons_zero, List.set_cons_succ])
      refine tkZ 1 ?_ ?_ ?_
      rotate_left
      · exact rn
      (try simp only [Act.put, List.getElem_toArray, List.getElem_cons_zero, List.getElem_cons_succ, List.setIfInBounds_toArray, List.set_cons_zero, List.set_cons_succ])
      refine tkZ 2 ?_ ?_ ?_
      rotate_left
      · exact rn
      (try simp only [Act.put, List.getElem_toArray, List.getElem_cons_zero, List.getElem_cons_succ, List.setIfInBounds_toArray, List.set_cons_zero, List.set_cons_succ])
      refine tkZ 3 ?_ ?_ ?_
      rotate_left
      · exact rn
      (try simp only [Act.put, List.getElem_toArray, List.getElem_cons_zero, List.getElem_cons_succ, List.setIfInBounds_toArray, List.set_cons_zero, List.set_cons_succ])
      refine tkZ 4 ?_ ?_ ?_
      rotate_left
      · exact rn
      (try simp only [Act.put, List.getElem_toArray, List.getElem_cons_zero, List.getElem_cons_succ, List.setIfInBounds_toArray, List.set_cons_zero, List.set_cons_succ])
      refine tkZ 5 ?_ ?_ ?_
      rotate_left
      · exact rn
      (try simp only [Act.put, List.getElem_toArray, List.getElem_cons_zero, List.getElem_cons_succ, List.setIfInBounds_toArray, List.set_cons_zero, List.set_cons_succ])
      refine tkZ 6 ?_ ?_ ?_
      rotate_left
      · exact rn
      (try simp only [Act.put, List.getElem_toArray, List.getElem_cons_zero, List.getElem_cons_succ, List.setIfInBounds_toArray, List.set_cons_zero, List.set_cons_succ])
      refine tkZ 7 ?_ ?_ ?_
      rotate_left
      · exact rn
      (try simp only [Act.put, List.getElem_toArray, List.getElem_cons_zero, List.getElem_cons_succ, List.setIfInBounds_toArray, List.set_cons_zero, List.set_cons_succ])
      refine tkZ 8 ?_ ?_ ?_
      rotate_left
      · exact rn
      (try simp only [Act.put, List.getElem_toArray, List.getElem_cons_zero, List.getElem_cons_succ, List.setIfInBounds_toArray, List.set_cons_zero, List.set_cons_succ])
      refine tkZ 9 ?_ ?_ ?_
      rotate_left
      · exact rn
      (try simp only [Act.put, List.getElem_toArray, List.getElem_cons_zero, List.getElem_cons_succ, List.setIfInBounds_toArray, List.set_cons_zero, List.set_cons_succ])
      refine tkZ 10 ?_ ?_ ?_
      rotate_left
      · exact rn
      (try simp only [Act.put, List.getElem_toArray, List.getElem_cons_zero, List.getElem_cons_succ, List.setIfInBounds_toArray, List.set_cons_zero, List.set_cons_succ])
      refine tkZ 11 ?_ ?_ ?_
      rotate_left
      · exact rn
      (try simp only [Act.put, List.getElem_toArray, List.getElem_cons_zero, List.getElem_cons_succ, List.setIfInBounds_toArray, List.set_cons_zero, List.set_cons_succ])
      refine tkZ 12 ?_ ?_ ?_
      rotate_left
      · exact rn
      (try simp only [Act.put, List.getElem_toArray, List.getElem_cons_zero, List.getElem_cons_succ, List.setIfInBounds_toArray, List.set_cons_zero, List.set_cons_succ])
      refine wpAnyZ_one (i := 13) rfl (by kernel_rfl) (fun K hK => ?_)
      go_simp
      go_at_call 13
      refine (HJ.out vx[k] ss1 g1 vy[k] ss2 g2 _ (I1.call HD) (I2.call HD) hRk).mono ?_
      rintro e w5 ⟨js, jc, rfl, HI5, HJ1, HJ2, HF5, hb5⟩
      have HW5 : Below wr.heap.size wr w5 := HD.trans (hb5.mono HD.size)
      have HB5 : Below (w.heap.size + 1 + 1 + 1 + 1) wr w5 := HW5.mono zr
      go_wp2_with fail
      refine hK.out _ _ (HKZ.out _ HB5) (fun hHeld => ?_)
      clear hK K
      (try simp only [Act.put, List.getElem_toArray, List.getElem_cons_zero, List.getElem_cons_succ, List.setIfInBounds_toArray, List.set_cons_zero, List.set_cons_succ])
      refine wpAnyZ_one (i := 14) rfl (by kernel_rfl) (fun K hK => ?_)
      go_simp
      have HW6 : Below wr.heap.size wr (w5.alloc (.cells #[.bool (j vx[k] vy[k]).n, .bool (j vx[k] vy[k]).sp.n, .int .i64 (j vx[k] vy[k]).sp.lo, .int .i64 (j vx[k] vy[k]).sp.hi, .bool (j vx[k] vy[k]).t, .bool (j vx[k] vy[k]).f, .slice js (j vx[k] vy[k]).s.length jc] 29)) := HW5.alloc HW5.size _
      have HB6 : Below (w.heap.size + 1 + 1 + 1 + 1) wr (w5.alloc (.cells #[.bool (j vx[k] vy[k]).n, .bool (j vx[k] vy[k]).sp.n, .int .i64 (j vx[k] vy[k]).sp.lo, .int .i64 (j vx[k] vy[k]).sp.hi, .bool (j vx[k] vy[k]).t, .bool (j vx[k] vy[k]).f, .slice js (j vx[k] vy[k]).s.length jc] 29)) := HW6.mono zr
      refine hK.out _ _ (HKZ.out _ HB6) (fun hHeld => ?_)
      clear hK K
      (try simp only [Act.put, List.getElem_toArray, List.getElem_cons_zero, List.getElem_cons_succ, List.setIfInBounds_toArray, List.set_cons_zero, List.set_cons_succ])
      refine wpAnyZ_one (i := 15) rfl (by kernel_rfl) (fun K hK => ?_)
      have S6 := SR.call HW6
      have GX : GcIn (fun b => w.heap.size + 1 + 1 + 1 + 1 ≤ b ∧ (Value.slice vs l.length vc).ownBlock ≠ some b) (w5.alloc (.cells #[.bool (j vx[k] vy[k]).n, .bool (j vx[k] vy[k]).sp.n, .int .i64 (j vx[k] vy[k]).sp.lo, .int .i64 (j vx[k] vy[k]).sp.hi, .bool (j vx[k] vy[k]).t, .bool (j vx[k] vy[k]).f, .slice js (j vx[k] vy[k]).s.length jc] 29)) ⟨j vx[k] vy[k], js, jc⟩ := joined_in HI5 HJ1 HJ2 HF5 zr (fun e => (ownsI_lt SR.1 e).1) (by go_grown) (HD.size)
      refine step_append_any _ rfl _ _ 41 rfl (w.heap.size + 1 + 1 + 1 + 1) 29 ti (.agg #[.bool false, .bool false, .int .i64 0, .int .i64 0, .bool false, .bool false, .slice none 0 0]) 7 64 Tryz.underlying41 hi hz0 hz1 hz2 rfl (by decide) _ _ _ rfl S6.1 (some ⟨w5.heap.size, 0, none⟩) 1 1 (gcCells ⟨j vx[k] vy[k], js, jc⟩) rfl rfl (fun h => by cases h) (news7 w5 ⟨j vx[k] vy[k], js, jc⟩ #[.bool (j vx[k] vy[k]).n, .bool (j vx[k] vy[k]).sp.n, .int .i64 (j vx[k] vy[k]).sp.lo, .int .i64 (j vx[k] vy[k]).sp.hi, .bool (j vx[k] vy[k]).t, .bool (j vx[k] vy[k]).f, .slice js (j vx[k] vy[k]).s.length jc] _ rfl) (gcCells_one _) (by unfold maxLen; have := LL.out; omega) (by have := LL.out; omega) (by rw [World.size_alloc]; have := HW5.size; omega) ?_
      intro v' w7 hown hgrow hat
      have S7 := S6.grown (x := ⟨j vx[k] vy[k], js, jc⟩) GX hown hgrow hat
      have HB7 : Below (w.heap.size + 1 + 1 + 1 + 1) wr w7 := HB6.grown hgrow (by rw [World.size_alloc]; have := HW5.size; omega) (fun k hk => (ownsI_lt S6.1 hk).2)
      obtain ⟨vs', vc', rfl, -, -, -⟩ := S7.in
      refine hK.out _ _ (HKZ.out _ HB7) (fun hHeld => ?_)
      clear hK K hown hgrow hat S6 GX HB6 HW6 HB5 HW5 HI5 HF5
      (try simp only [Act.put, List.getElem_toArray, List.getElem_cons_zero, List.getElem_cons_succ, List.setIfInBounds_toArray, List.set_cons_zero, List.set_cons_succ])
      refine tkZ 16 ?_ ?_ ?_
      rotate_left
      · exact rn
      (try simp only [Act.put, List.getElem_toArray, List.getElem_cons_zero, List.getElem_cons_succ, List.setIfInBounds_toArray, List.set_cons_zero, List.set_cons_succ])
      refine wpAnyZ_last (i := 17) rfl (by kernel_rfl) (by kernel_rfl) (fun K hK => ?_)
      have Z7 : X3 w7 (w.heap.size + 1 + 1 + 1) (.bool false) (.slice vs l.length vc) (.slice none 0 0) := ZR.same (HB7.block _ (by omega)) HB7.size
      obtain ⟨⟨y0, y1, y2⟩, yz, yf⟩ := id Z7
      have yf1 := yf 1
      clear yf
      go_simp
      refine hK.out _ _ ?_
      clear hK K
      (try simp only [Act.put, List.getElem_toArray, List.getElem_cons_zero, List.getElem_cons_succ, List.setIfInBounds_toArray, List.set_cons_zero, List.set_cons_succ])
      refine wpAnyZ_done (by kernel_rfl) ?_ _
      clear y0 y1 y2 yz yf1
      have A7 : XAt w7 w.heap.size ⟨false, vx, fx⟩ _ vc1 fs1 fc1 := AR.same (HB7.block _ (by omega)) HB7.size
      have B7 : XAt w7 (w.heap.size + 1) ⟨false, vy, fy⟩ _ vc2 fs2 fc2 := BR.same (HB7.block _ (by omega)) HB7.size
      have C7 : X3 w7 (w.heap.size + 1 + 1) (.bool false) (.slice none 0 0) (.slice none 0 0) := CR.same (HB7.block _ (by omega)) HB7.size
      have L7 := LR.trans (HB7.mono (by omega))
      have z7 : w.heap.size + 1 + 1 + 1 + 1 ≤ w7.heap.size := Nat.le_trans zr HB7.size
      have e7 : ∀ b, b ≠ w.heap.size + 1 + 1 + 1 → (w7.setCell ⟨w.heap.size + 1 + 1 + 1, 1, none⟩ (.slice vs' (l ++ [(⟨j vx[k] vy[k], js, jc⟩ : Gc)]).length vc')).heap[b]? = w7.heap[b]? := fun b hb => Below.heap_setCell _ _ _ _ hb
      have s7 : w7.heap.size ≤ (w7.setCell ⟨w.heap.size + 1 + 1 + 1, 1, none⟩ (.slice vs' (l ++ [(⟨j vx[k] vy[k], js, jc⟩ : Gc)]).length vc')).heap.size := by simp [World.setCell]
      clear AR BR CR ZR SR LR zr HKZ
      go_wp2
      go_roundw
      case rel => exact ⟨k + 1, vs', vc', l ++ [⟨j vx[k] vy[k], js, jc⟩], by omega, by go_num, by first | exact A7.same (e7 _ (by omega)) s7 | (simpa using A7.same (e7 _ (by omega)) s7), by first | exact B7.same (e7 _ (by omega)) s7 | (simpa using B7.same (e7 _ (by omega)) s7), by first | exact C7.same (e7 _ (by omega)) s7 | (simpa using C7.same (e7 _ (by omega)) s7), by first | exact Z7.put1 _ | (simpa using Z7.put1 (.slice vs' (l ++ [(⟨j vx[k] vy[k], js, jc⟩ : Gc)]).length vc')), by first | exact S7.old (fun b hb => e7 b (by omega)) s7 | (simpa using S7.old (fun b hb => e7 b (by omega)) s7), by show _ = _; rw [List.map_append, HL.out, joinRow_take j vx vy k hlt hlt']; rfl, by first | exact L7.setCell (by simp only; omega) _ | (simpa using L7.setCell (p := ⟨w.heap.size + 1 + 1 + 1, 1, none⟩) (by simp only; omega) (.slice vs' (l ++ [(⟨j vx[k] vy[k], js, jc⟩ : Gc)]).length vc')), by simpa [World.setCell] using z7⟩
      case measure => simp [intOf]; omega
    · have n1' : ¬ (k : Int) < (vx.length : Int) := by omega
      obtain ⟨vs0, vc0, e0, hk0, hk00, GV0⟩ := SR.in
      cases e0
      have ek : k = vx.length := by omega
      have et1 : vx.take k = vx := List.take_of_length_le (by omega)
      have et2 : vy.take k = vy := List.take_of_length_le (by have := HV.out; omega)
      have LV : Hid (l.length = (joinRow j vx vy).length) := by
        show _ = _
        have h1 := congrArg List.length HL.out
        rw [et1, et2, List.length_map] at h1
        exact h1
      rw [HL.out, et1, et2] at GV0
      have GV : GsIn (fun b => w.heap.size + 1 + 1 + 1 + 1 ≤ b ∧ b < wr.heap.size) wr vs (joinRow j vx vy) := GV0.mono fun b h1 h2 => ⟨h1, h2⟩
      clear GV0 SR LL HL hk0 hk00 et1 et2
      have zn : w.heap.size + 1 + 1 + 1 + 1 ≤ wr.heap.size := zr
      obtain ⟨⟨a0, a1, a2⟩, az, -⟩ := id AR
      generalize hN : wr.heap.size = N at *
      have HNN := hideH hN
      clear hN
      go_wp2
      clear a0 a1 a2 az
      go_loopw [9] (fun i wr => ∃ (k : Nat) (fs : Option Addr) (fc : Nat) (L : List Rw), k ≤ fx.length ∧ i = .int .i64 k ∧ XAt wr w.heap.size ⟨false, vx, fx⟩ vs1 vc1 fs1 fc1 ∧ XAt wr (w.heap.size + 1) ⟨false, vy, fy⟩ vs2 vc2 fs2 fc2 ∧ X3 wr (w.heap.size + 1 + 1) (.bool false) (.slice none 0 0) (.slice none 0 0) ∧ X3 wr (w.heap.size + 1 + 1 + 1) (.bool false) (.slice vs l.length vc) (.slice fs L.length fc) ∧ FRow wr N (.slice fs L.length fc) L ∧ Hid (L.map Rw.l = List.zipWith (joinRow j) (fx.take k) (fy.take k)) ∧ GsIn (fun b => w.heap.size + 1 + 1 + 1 + 1 ≤ b ∧ b < N) wr vs (joinRow j vx vy) ∧ Below w.heap.size w wr ∧ N ≤ wr.heap.size) (fun i _ => fx.length - (intOf i).toNat)
      case atStart => exact ⟨0, none, 0, [], Nat.zero_le _, rfl, AR, BR, CR, ZR, FRow.nil _ _, rfl, GV, LR, by rw [HNN.out]; exact Nat.le_refl _⟩
      case round =>
        clear AR BR CR ZR GV LR zr HNN
        obtain ⟨k2, fs, fc, L, hk2, rfl, AR, BR, CR, ZR, FR, HL, GV, LR, zr⟩ := hrel
        generalize wr = w6 at *
        clear wr
        have LL : Hid (L.length = k2) := by
          show _ = _
          have h1 := congrArg List.length HL.out
          have h2 := HF.out
          rw [List.length_map, List.length_zipWith, List.length_take, List.length_take] at h1
          omega
        obtain ⟨⟨a0, a1, a2⟩, az, -⟩ := id AR
        by_cases hlt2 : k2 < fx.length
        · have n0 : (0 : Int) ≤ (k2 : Int) := by omega
          have n2' : (k2 : Int) < (fx.length : Int) := by omega
          have hlt2' : k2 < fy.length := by have := HF.out; omega
          have n3' : (k2 : Int) < (fy.length : Int) := by omega
          go_wp2
          clear a0 a1 a2 az
          go_loopw [10, 11] (fun r i2 wo => ∃ (m : Nat) (rs : Option Addr) (rc : Nat) (lr : List Gc), m ≤ fx[k2].length ∧ r = .slice rs lr.length rc ∧ i2 = .int .i64 m ∧ Below w6.heap.size w6 wo ∧ SRow wo w6.heap.size (.slice rs lr.length rc) lr ∧ Hid (lr.map Gc.g = joinRow j (fx[k2].take m) (fy[k2].take m))) (fun _ i2 _ => fx[k2].length - (intOf i2).toNat)
          case atStart => exact ⟨0, none, 0, [], Nat.zero_le _, rfl, rfl, Below.refl _ _, SRow.nil _ _, rfl⟩
          case round =>
            obtain ⟨m, rs, rc, lr, hm, rfl, rfl, hbo, SR, HM⟩ := hrel
            have hlen := HR.out k2 hlt2 hlt2'
            have HEQ := hideH hlen.1
            have h3 := hlen.2
            clear hlen
            have LM : Hid (lr.length = m) := by
              show _ = _
              have h1 := congrArg List.length HM.out
              have h2 := HEQ.out
              unfold joinRow at h1
              rw [List.length_map, List.length_zipWith, List.length_take, List.length_take] at h1
              omega
            obtain ⟨⟨a0, a1, a2⟩, az, -⟩ := id (AR.call hbo)
            obtain ⟨⟨c0, c1, c2⟩, cz, -⟩ := id (BR.call hbo)
            obtain ⟨p1, q1, e1, zp1, r1, rc1, C1, k1, m1, J1⟩ := HX.out.2 k2 hlt2
            obtain ⟨p2, q2, e2, zp2, r2, rc2, C2, k2', m2, J2⟩ := HY.out.2 k2 hlt2'
            have hwo := LR.trans (hbo.mono LR.size)
            have D1 : wr.cell? ⟨p1, q1 + k2, none⟩ = some (.slice r1 fx[k2].length rc1) := by rw [hwo.cell (by simp only; exact zp1)]; exact C1
            have D2 : wr.cell? ⟨p2, q2 + k2, none⟩ = some (.slice r2 fy[k2].length rc2) := by rw [hwo.cell (by simp only; exact zp2)]; exact C2
            subst e1 e2
            clear C1 C2
            by_cases hltm : m < fx[k2].length
            · have m0 : (0 : Int) ≤ (m : Int) := by omega
              have m1' : (m : Int) < (fx[k2].length : Int) := by omega
              have hltm' : m < fy[k2].length := by have := HEQ.out; omega
              have m2' : (m : Int) < (fy[k2].length : Int) := by omega
              obtain ⟨b1, o1, e1, ss1, g1, G1, I1, l1, l2⟩ := (J1.below hwo (Nat.le_refl _)) m hltm
              obtain ⟨b2, o2, e2, ss2, g2, G2, I2, l3, l4⟩ := (J2.below hwo (Nat.le_refl _)) m hltm'
              subst e1 e2
              have zb1 : b1 < w.heap.size := gs_low J1 m hltm
              have zb2 : b2 < w.heap.size := gs_low J2 m hltm'
              have hRk := HR2.out k2 hlt2 hlt2' m hltm hltm'
              have zn6 : w.heap.size + 1 + 1 + 1 + 1 ≤ w6.heap.size := Nat.le_trans zn zr
              have HKL : Hid (∀ wx, Below w6.heap.size wr wx → (wx.cell? ⟨w.heap.size, 2, none⟩ = some (.slice (some ⟨p1, q1, none⟩) fx.length fc1) ∧ wx.cell? ⟨p1, q1 + k2, none⟩ = some (.slice (some ⟨b1, o1, none⟩) fx[k2].length rc1) ∧ (wx.cell? ⟨b1, o1 + m * 7, none⟩ = some (.bool fx[k2][m].n) ∧ wx.cell? ⟨b1, o1 + m * 7 + 1, none⟩ = some (.bool fx[k2][m].sp.n) ∧ wx.cell? ⟨b1, o1 + m * 7 + 2, none⟩ = some (.int .i64 fx[k2][m].sp.lo) ∧ wx.cell? ⟨b1, o1 + m * 7 + 3, none⟩ = some (.int .i64 fx[k2][m].sp.hi) ∧ wx.cell? ⟨b1, o1 + m * 7 + 4, none⟩ = some (.bool fx[k2][m].t) ∧ wx.cell? ⟨b1, o1 + m * 7 + 5, none⟩ = some (.bool fx[k2][m].f) ∧ wx.cell? ⟨b1, o1 + m * 7 + 6, none⟩ = some (.slice ss1 fx[k2][m].s.length g1))) ∧ (wx.cell? ⟨w.heap.size + 1, 2, none⟩ = some (.slice (some ⟨p2, q2, none⟩) fy.length fc2) ∧ wx.cell? ⟨p2, q2 + k2, none⟩ = some (.slice (some ⟨b2, o2, none⟩) fy[k2].length rc2) ∧ (wx.cell? ⟨b2, o2 + m * 7, none⟩ = some (.bool fy[k2][m].n) ∧ wx.cell? ⟨b2, o2 + m * 7 + 1, none⟩ = some (.bool fy[k2][m].sp.n) ∧ wx.cell? ⟨b2, o2 + m * 7 + 2, none⟩ = some (.int .i64 fy[k2][m].sp.lo) ∧ wx.cell? ⟨b2, o2 + m * 7 + 3, none⟩ = some (.int .i64 fy[k2][m].sp.hi) ∧ wx.cell? ⟨b2, o2 + m * 7 + 4, none⟩ = some (.bool fy[k2][m].t) ∧ wx.cell? ⟨b2, o2 + m * 7 + 5, none⟩ = some (.bool fy[k2][m].f) ∧ wx.cell? ⟨b2, o2 + m * 7 + 6, none⟩ = some (.slice ss2 fy[k2][m].s.length g2)))) := fun wx hx => ⟨⟨by rw [hx.cell (by simp only; omega)]; exact a2, by rw [hx.cell (by simp only; omega)]; exact D1, (G1.low hx (by omega)).1⟩, by rw [hx.cell (by simp only; omega)]; exact c2, by rw [hx.cell (by simp only; omega)]; exact D2, (G2.low hx (by omega)).1⟩
              have HKZ : Hid (∀ wx, Below wr.heap.size wr wx → (wx.cell? ⟨w.heap.size, 2, none⟩ = some (.slice (some ⟨p1, q1, none⟩) fx.length fc1) ∧ wx.cell? ⟨p1, q1 + k2, none⟩ = some (.slice (some ⟨b1, o1, none⟩) fx[k2].length rc1) ∧ (wx.cell? ⟨b1, o1 + m * 7, none⟩ = some (.bool fx[k2][m].n) ∧ wx.cell? ⟨b1, o1 + m * 7 + 1, none⟩ = some (.bool fx[k2][m].sp.n) ∧ wx.cell? ⟨b1, o1 + m * 7 + 2, none⟩ = some (.int .i64 fx[k2][m].sp.lo) ∧ wx.cell? ⟨b1, o1 + m * 7 + 3, none⟩ = some (.int .i64 fx[k2][m].sp.hi) ∧ wx.cell? ⟨b1, o1 + m * 7 + 4, none⟩ = some (.bool fx[k2][m].t) ∧ wx.cell? ⟨b1, o1 + m * 7 + 5, none⟩ = some (.bool fx[k2][m].f) ∧ wx.cell? ⟨b1, o1 + m * 7 + 6, none⟩ = some (.slice ss1 fx[k2][m].s.length g1))) ∧ (wx.cell? ⟨w.heap.size + 1, 2, none⟩ = some (.slice (some ⟨p2, q2, none⟩) fy.length fc2) ∧ wx.cell? ⟨p2, q2 + k2, none⟩ = some (.slice (some ⟨b2, o2, none⟩) fy[k2].length rc2) ∧ (wx.cell? ⟨b2, o2 + m * 7, none⟩ = some (.bool fy[k2][m].n) ∧ wx.cell? ⟨b2, o2 + m * 7 + 1, none⟩ = some (.bool fy[k2][m].sp.n) ∧ wx.cell? ⟨b2, o2 + m * 7 + 2, none⟩ = some (.int .i64 fy[k2][m].sp.lo) ∧ wx.cell? ⟨b2, o2 + m * 7 + 3, none⟩ = some (.int .i64 fy[k2][m].sp.hi) ∧ wx.cell? ⟨b2, o2 + m * 7 + 4, none⟩ = some (.bool fy[k2][m].t) ∧ wx.cell? ⟨b2, o2 + m * 7 + 5, none⟩ = some (.bool fy[k2][m].f) ∧ wx.cell? ⟨b2, o2 + m * 7 + 6, none⟩ = some (.slice ss2 fy[k2][m].s.length g2)))) := fun wx hx => HKL.out wx (hx.mono hbo.size)
              have HD : Below wr.heap.size wr wr.drew := (Below.refl _ _).drew
              go_wp2
              clear a0 a1 a2 az c0 c1 c2 cz D1 D2
              refine wp_region_z (S := (fun wx => (wx.cell? ⟨w.heap.size, 2, none⟩ = some (.slice (some ⟨p1, q1, none⟩) fx.length fc1) ∧ wx.cell? ⟨p1, q1 + k2, none⟩ = some (.slice (some ⟨b1, o1, none⟩) fx[k2].length rc1) ∧ (wx.cell? ⟨b1, o1 + m * 7, none⟩ = some (.bool fx[k2][m].n) ∧ wx.cell? ⟨b1, o1 + m * 7 + 1, none⟩ = some (.bool fx[k2][m].sp.n) ∧ wx.cell? ⟨b1, o1 + m * 7 + 2, none⟩ = some (.int .i64 fx[k2][m].sp.lo) ∧ wx.cell? ⟨b1, o1 + m * 7 + 3, none⟩ = some (.int .i64 fx[k2][m].sp.hi) ∧ wx.cell? ⟨b1, o1 + m * 7 + 4, none⟩ = some (.bool fx[k2][m].t) ∧ wx.cell? ⟨b1, o1 + m * 7 + 5, none⟩ = some (.bool fx[k2][m].f) ∧ wx.cell? ⟨b1, o1 + m * 7 + 6, none⟩ = some (.slice ss1 fx[k2][m].s.length g1))) ∧ (wx.cell? ⟨w.heap.size + 1, 2, none⟩ = some (.slice (some ⟨p2, q2, none⟩) fy.length fc2) ∧ wx.cell? ⟨p2, q2 + k2, none⟩ = some (.slice (some ⟨b2, o2, none⟩) fy[k2].length rc2) ∧ (wx.cell? ⟨b2, o2 + m * 7, none⟩ = some (.bool fy[k2][m].n) ∧ wx.cell? ⟨b2, o2 + m * 7 + 1, none⟩ = some (.bool fy[k2][m].sp.n) ∧ wx.cell? ⟨b2, o2 + m * 7 + 2, none⟩ = some (.int .i64 fy[k2][m].sp.lo) ∧ wx.cell? ⟨b2, o2 + m * 7 + 3, none⟩ = some (.int .i64 fy[k2][m].sp.hi) ∧ wx.cell? ⟨b2, o2 + m * 7 + 4, none⟩ = some (.bool fy[k2][m].t) ∧ wx.cell? ⟨b2, o2 + m * 7 + 5, none⟩ = some (.bool fy[k2][m].f) ∧ wx.cell? ⟨b2, o2 + m * 7 + 6, none⟩ = some (.slice ss2 fy[k2][m].s.length g2))))) [] (by kernel_rfl) (HKZ.out _ HD) (fun hHeld => ?_)
              refine tkZ 0 ?_ ?_ ?_
              rotate_left
              · exact rn
              (try simp only [Act.put, List.getElem_toArray, List.getElem_cons_zero, List.getElem_cons_succ, List.setIfInBounds_toArray, List.set_cons_zero, List.set_cons_succ])
              refine tkZ 1 ?_ ?_ ?_
              rotate_left
              · exact rn
              (try simp only [Act.put, List.getElem_toArray, List.getElem_cons_zero, List.getElem_cons_succ, List.setIfInBounds_toArray, List.set_cons_zero, List.set_cons_succ])
              refine tkZ 2 ?_ ?_ ?_
              rotate_left
              · exact rn
              (try simp only [Act.put, List.getElem_toArray, List.getElem_cons_zero, List.getElem_cons_succ, List.setIfInBounds_toArray, List.set_cons_zero, List.set_cons_succ])
              refine tkZ 3 ?_ ?_ ?_
              rotate_left
              · exact rn
              (try simp only [Act.put, List.getElem_toArray, List.getElem_cons_zero, List.getElem_cons_succ, List.setIfInBounds_toArray, List.set_cons_zero, List.set_cons_succ])
              refine tkZ 4 ?_ ?_ ?_
              rotate_left
              · exact rn
              (try simp only [Act.put, List.getElem_toArray, List.getElem_cons_zero, List.getElem_cons_succ, List.setIfInBounds_toArray, List.set_cons_zero, List.set_cons_succ])
              refine tkZ 5 ?_ ?_ ?_
              rotate_left
              · exact rn
              (try simp only [Act.put, List.getElem_toArray, List.getElem_cons_zero, List.getElem_cons_succ, List.setIfInBounds_toArray, List.set_cons_zero, List.set_cons_succ])
              refine tkZ 6 ?_ ?_ ?_
              rotate_left
              · exact rn
              (try simp only [Act.put, List.getElem_toArray, List.getElem_cons_zero, List.getElem_cons_succ, List.setIfInBounds_toArray, List.set_cons_zero, List.set_cons_succ])
              refine tkZ 7 ?_ ?_ ?_
              rotate_left
              · exact rn
              (try simp only [Act.put, List.getElem_toArray, List.getElem_cons_zero, List.getElem_cons_succ, List.setIfInBounds_toArray, List.set_cons_zero, List.set_cons_succ])
              refine tkZ 8 ?_ ?_ ?_
              rotate_left
              · exact rn
              (try simp only [Act.put, List.getElem_toArray, List.getElem_cons_zero, List.getElem_cons_succ, List.setIfInBounds_toArray, List.set_cons_zero, List.set_cons_succ])
              refine tkZ 9 ?_ ?_ ?_
              rotate_left
              · exact rn
              (try simp only [Act.put, List.getElem_toArray, List.getElem_cons_zero, List.getElem_cons_succ, List.setIfInBounds_toArray, List.set_cons_zero, List.set_cons_succ])
              refine tkZ 10 ?_ ?_ ?_
              rotate_left
              · exact rn
              (try simp only [Act.put, List.getElem_toArray, List.getElem_cons_zero, List.getElem_cons_succ, List.setIfInBounds_toArray, List.set_cons_zero, List.set_cons_succ])
              refine tkZ 11 ?_ ?_ ?_
              rotate_left
              · exact rn
              (try simp only [Act.put, List.getElem_toArray, List.getElem_cons_zero, List.getElem_cons_succ, List.setIfInBounds_toArray, List.set_cons_zero, List.set_cons_succ])
              refine tkZ 12 ?_ ?_ ?_
              rotate_left
              · exact rn
              (try simp only [Act.put, List.getElem_toArray, List.getElem_cons_zero, List.getElem_cons_succ, List.setIfInBounds_toArray, List.set_cons_zero, List.set_cons_succ])
              refine tkZ 13 ?_ ?_ ?_
              rotate_left
              · exact rn
              (try simp only [Act.put, List.getElem_toArray, List.getElem_cons_zero, List.getElem_cons_succ, List.setIfInBounds_toArray, List.set_cons_zero, List.set_cons_succ])
              refine tkZ 14 ?_ ?_ ?_
              rotate_left
              · exact rn
              (try simp only [Act.put, List.getElem_toArray, List.getElem_cons_zero, List.getElem_cons_succ, List.setIfInBounds_toArray, List.set_cons_zero, List.set_cons_succ])
              refine tkZ 15 ?_ ?_ ?_
              rotate_left
              · exact rn
              (try simp only [Act.put, List.getElem_toArray, List.getElem_cons_zero, List.getElem_cons_succ, List.setIfInBounds_toArray, List.set_cons_zero, List.set_cons_succ])
              refine tkZ 16 ?_ ?_ ?_
              rotate_left
              · exact rn
              (try simp only [Act.put, List.getElem_toArray, List.getElem_cons_zero, List.getElem_cons_succ, List.setIfInBounds_toArray, List.set_cons_zero, List.set_cons_succ])
              refine tkZ 17 ?_ ?_ ?_
              rotate_left
              · exact rn
              (try simp only [Act.put, List.getElem_toArray, List.getElem_cons_zero, List.getElem_cons_succ, List.setIfInBounds_toArray, List.set_cons_zero, List.set_cons_succ])
              refine wpAnyZ_one (i := 18) rfl (by kernel_rfl) (fun K hK => ?_)
              go_simp
              go_at_call 13
              refine (HJ.out fx[k2][m] ss1 g1 fy[k2][m] ss2 g2 _ (I1.call HD) (I2.call HD) hRk).mono ?_
              rintro e w7 ⟨js, jc, rfl, HI5, HJ1, HJ2, HF5, hb7⟩
              have HW7 : Below wr.heap.size wr w7 := HD.trans (hb7.mono HD.size)
              go_wp2_with fail
              refine hK.out _ _ (HKZ.out _ HW7) (fun hHeld => ?_)
              clear hK K
              (try simp only [Act.put, List.getElem_toArray, List.getElem_cons_zero, List.getElem_cons_succ, List.setIfInBounds_toArray, List.set_cons_zero, List.set_cons_succ])
              refine wpAnyZ_one (i := 19) rfl (by kernel_rfl) (fun K hK => ?_)
              go_simp
              have HW8 : Below wr.heap.size wr (w7.alloc (.cells #[.bool (j fx[k2][m] fy[k2][m]).n, .bool (j fx[k2][m] fy[k2][m]).sp.n, .int .i64 (j fx[k2][m] fy[k2][m]).sp.lo, .int .i64 (j fx[k2][m] fy[k2][m]).sp.hi, .bool (j fx[k2][m] fy[k2][m]).t, .bool (j fx[k2][m] fy[k2][m]).f, .slice js (j fx[k2][m] fy[k2][m]).s.length jc] 29)) := HW7.alloc HW7.size _
              refine hK.out _ _ (HKZ.out _ HW8) (fun hHeld => ?_)
              clear hK K
              (try simp only [Act.put, List.getElem_toArray, List.getElem_cons_zero, List.getElem_cons_succ, List.setIfInBounds_toArray, List.set_cons_zero, List.set_cons_succ])
              refine wpAnyZ_one (i := 20) rfl (by kernel_rfl) (fun K hK => ?_)
              have S8 := SR.call HW8
              have z67 : w6.heap.size ≤ wr.heap.size := hbo.size
              have GX : GcIn (fun b => w6.heap.size ≤ b ∧ (Value.slice rs lr.length rc).ownBlock ≠ some b) (w7.alloc (.cells #[.bool (j fx[k2][m] fy[k2][m]).n, .bool (j fx[k2][m] fy[k2][m]).sp.n, .int .i64 (j fx[k2][m] fy[k2][m]).sp.lo, .int .i64 (j fx[k2][m] fy[k2][m]).sp.hi, .bool (j fx[k2][m] fy[k2][m]).t, .bool (j fx[k2][m] fy[k2][m]).f, .slice js (j fx[k2][m] fy[k2][m]).s.length jc] 29)) ⟨j fx[k2][m] fy[k2][m], js, jc⟩ := joined_in HI5 HJ1 HJ2 HF5 z67 (fun e => (ownsI_lt SR.1 e).1) (by go_grown) (HD.size)
              refine step_append_any _ rfl _ _ 41 rfl w6.heap.size 29 ti (.agg #[.bool false, .bool false, .int .i64 0, .int .i64 0, .bool false, .bool false, .slice none 0 0]) 7 64 Tryz.underlying41 hi hz0 hz1 hz2 rfl (by decide) _ _ _ rfl S8.1 (some ⟨w7.heap.size, 0, none⟩) 1 1 (gcCells ⟨j fx[k2][m] fy[k2][m], js, jc⟩) rfl rfl (fun h => by cases h) (news7 w7 ⟨j fx[k2][m] fy[k2][m], js, jc⟩ #[.bool (j fx[k2][m] fy[k2][m]).n, .bool (j fx[k2][m] fy[k2][m]).sp.n, .int .i64 (j fx[k2][m] fy[k2][m]).sp.lo, .int .i64 (j fx[k2][m] fy[k2][m]).sp.hi, .bool (j fx[k2][m] fy[k2][m]).t, .bool (j fx[k2][m] fy[k2][m]).f, .slice js (j fx[k2][m] fy[k2][m]).s.length jc] _ rfl) (gcCells_one _) (by unfold maxLen; have := LM.out; omega) (by have := LM.out; omega) (by rw [World.size_alloc]; have := HW7.size; omega) ?_
              intro v' w9 hown hgrow hat
              have S9 := S8.grown (x := ⟨j fx[k2][m] fy[k2][m], js, jc⟩) GX hown hgrow hat
              have hb9 : Below w6.heap.size w6 w9 := (hbo.trans (HW8.mono hbo.size)).grown hgrow (by rw [World.size_alloc]; have := HW7.size; omega) (fun k hk => (ownsI_lt S8.1 hk).2)
              have HB9 : Below w6.heap.size wr w9 := (HW8.mono hbo.size).grown hgrow (by rw [World.size_alloc]; have := HW7.size; omega) (fun k hk => (ownsI_lt S8.1 hk).2)
              obtain ⟨rs', rc', rfl, -, -, -⟩ := S9.in
              refine hK.out _ _ (HKL.out _ HB9) (fun hHeld => ?_)
              clear hK K hown hgrow hat S8 GX HW8 HW7 HI5 HF5
              (try simp only [Act.put, List.getElem_toArray, List.getElem_cons_zero, List.getElem_cons_succ, List.setIfInBounds_toArray, List.set_cons_zero, List.set_cons_succ])
              refine tkZ 21 ?_ ?_ ?_
              rotate_left
              · exact rn
              (try simp only [Act.put, List.getElem_toArray, List.getElem_cons_zero, List.getElem_cons_succ, List.setIfInBounds_toArray, List.set_cons_zero, List.set_cons_succ])
              refine wpAnyZ_done (by kernel_rfl) ?_ _
              clear SR hbo HKZ HKL HB9
              go_wp2
              go_roundw
              case rel => exact ⟨m + 1, rs', rc', lr ++ [⟨j fx[k2][m] fy[k2][m], js, jc⟩], by omega, by first | rfl | (rw [List.length_append]; rfl), by go_num, hb9, S9, by show _ = _; rw [List.map_append, HM.out, joinRow_take j fx[k2] fy[k2] m hltm hltm']; rfl⟩
              case measure => simp [intOf]; omega
            · have m1' : ¬ (m : Int) < (fx[k2].length : Int) := by omega
              have et1 : fx[k2].take m = fx[k2] := List.take_of_length_le (by omega)
              have et2 : fy[k2].take m = fy[k2] := List.take_of_length_le (by have := HEQ.out; omega)
              obtain ⟨rs0, rc0, e0, hk0, hk00, GR⟩ := SR.in
              cases e0
              have HLF : Hid (lr.length = (joinRow j fx[k2] fy[k2]).length) := by
                show _ = _
                have h1 := congrArg List.length HM.out
                rw [et1, et2, List.length_map] at h1
                exact h1
              rw [HM.out, et1, et2] at GR
              have A9 := AR.call hbo
              have B9 := BR.call hbo
              have C9 := CR.call hbo
              have Z9 := ZR.call hbo
              have F9 := FR.call hbo
              have V9 := GV.call hbo
              have L9 := hwo
              have z9 : N ≤ wr.heap.size := Nat.le_trans zr hbo.size
              have RX : RwIn (fun b => N ≤ b ∧ (Value.slice fs L.length fc).ownBlock ≠ some b) wr ⟨rs, rc, joinRow j fx[k2] fy[k2]⟩ := ⟨GR.mono fun b h1 _ => ⟨Nat.le_trans zr h1, fun e => by have := (ownsI_lt FR.1 e).1; omega⟩, by rw [HLF.out] at hk0; exact hk0, hk00⟩
              clear AR BR CR ZR FR GV LR SR GR hbo zr hk0 hk00 LM HM hwo et1 et2
              generalize wr = w9 at *
              clear wr
              obtain ⟨⟨y0, y1, y2⟩, yz, yf⟩ := id Z9
              have F10 := F9.call (w' := w9.alloc (.cells #[.slice rs lr.length rc] 41)) (by go_grown)
              have R10 : RwIn (fun b => N ≤ b ∧ (Value.slice fs L.length fc).ownBlock ≠ some b) (w9.alloc (.cells #[.slice rs lr.length rc] 41)) ⟨rs, rc, joinRow j fx[k2] fy[k2]⟩ := ⟨RX.1.call (by go_grown), RX.2⟩
              go_wp2_with (at_builtin; refine wpList_append_any _ rfl _ _ 56 rfl N 41 tk (.slice none 0 0) 1 24 Tryz.underlying56 hk hx0 hx1 hx2 rfl (by decide) _ _ _ rfl F10.1 (some ⟨w9.heap.size, 0, none⟩) 1 1 [.slice rs lr.length rc] rfl rfl (fun h => by cases h) ?qc2 (by intro u hu; rw [List.mem_singleton.1 hu]; rfl) ?qc4 ?qc5 ?qc6 ?_)
              (try (case qc2 => exact news1 w9 _ _))
              case qc4 => unfold maxLen; have := LL.out; omega
              case qc5 => have := LL.out; omega
              (try (case qc6 => first | omega | (rw [World.size_alloc]; omega) | (simp; omega) | simp))
              intro v' w10 hown hgrow hat
              rw [HLF.out] at hown
              have F11 := F10.grown (x := ⟨rs, rc, joinRow j fx[k2] fy[k2]⟩) R10 hown hgrow (by rw [World.size_alloc]; exact hat)
              have hb10 : Below N w9 w10 := ((Below.refl _ w9).alloc z9 _).grown hgrow (by simp; omega) (fun k hk => (ownsI_lt F10.1 hk).2)
              obtain ⟨fs', fc', rfl, -, -, -⟩ := F11.rows
              clear hown hgrow hat F10 F9 R10 RX y0 y1 y2 yz yf a0 a1 a2 az c0 c1 c2 cz D1 D2
              have A4 : XAt w10 w.heap.size ⟨false, vx, fx⟩ _ vc1 _ fc1 := A9.same (hb10.block _ (by omega)) hb10.size
              have B4 : XAt w10 (w.heap.size + 1) ⟨false, vy, fy⟩ _ vc2 _ fc2 := B9.same (hb10.block _ (by omega)) hb10.size
              have C4 : X3 w10 (w.heap.size + 1 + 1) (.bool false) (.slice none 0 0) (.slice none 0 0) := C9.same (hb10.block _ (by omega)) hb10.size
              have Z4 : X3 w10 (w.heap.size + 1 + 1 + 1) (.bool false) (.slice vs l.length vc) (.slice fs L.length fc) := Z9.same (hb10.block _ (by omega)) hb10.size
              have V4 : GsIn (fun b => w.heap.size + 1 + 1 + 1 + 1 ≤ b ∧ b < N) w10 vs (joinRow j vx vy) := V9.same (fun b hS _ => hb10.block b hS.2) hb10.size
              have L4 := L9.trans (hb10.mono (by omega))
              have z4 : N ≤ w10.heap.size := Nat.le_trans z9 hb10.size
              clear A9 B9 C9 Z9 V9 L9 z9 hb10
              obtain ⟨⟨y0, y1, y2⟩, yz, yf⟩ := id Z4
              have yf2 := yf 2
              clear yf
              have e7 : ∀ (x : Value) b, b ≠ w.heap.size + 1 + 1 + 1 → (w10.setCell ⟨w.heap.size + 1 + 1 + 1, 2, none⟩ x).heap[b]? = w10.heap[b]? := fun x b hb => Below.heap_setCell _ _ _ _ hb
              have s7 : ∀ (x : Value), w10.heap.size ≤ (w10.setCell ⟨w.heap.size + 1 + 1 + 1, 2, none⟩ x).heap.size := fun x => by simp [World.setCell]
              have E7 := hideH e7
              have S7 := hideH s7
              clear e7 s7
              go_wp2
              go_roundw
              case rel => exact ⟨k2 + 1, fs', fc', L ++ [⟨rs, rc, joinRow j fx[k2] fy[k2]⟩], by omega, by go_num, A4.same (E7.out _ _ (by omega)) (S7.out _), B4.same (E7.out _ _ (by omega)) (S7.out _), C4.same (E7.out _ _ (by omega)) (S7.out _), by rw [List.length_append]; exact Z4.put2 _, F11.old (fun b hb => E7.out _ b (by omega)) (S7.out _), by show _ = _; rw [List.map_append, HL.out, joinRows_take j fx fy k2 hlt2 hlt2']; rfl, V4.same (fun b hS _ => E7.out _ b (by omega)) (S7.out _), L4.setCell (by simp only; omega) _, by simpa [World.setCell] using z4⟩
              case measure => simp [intOf]; omega
        · have n2' : ¬ (k2 : Int) < (fx.length : Int) := by omega
          have et1 : fx.take k2 = fx := List.take_of_length_le (by omega)
          have et2 : fy.take k2 = fy := List.take_of_length_le (by have := HF.out; omega)
          have ELL : Hid (L.length = (List.zipWith (joinRow j) fx fy).length) := by
            show _ = _
            have h1 := congrArg List.length HL.out
            rw [et1, et2, List.length_map] at h1
            exact h1
          have hch : ∀ b, b ≠ w.heap.size + 1 + 1 → (((w6.setCell ⟨w.heap.size + 1 + 1, 0, none⟩ (.bool false)).setCell ⟨w.heap.size + 1 + 1, 1, none⟩ (.slice vs l.length vc)).setCell ⟨w.heap.size + 1 + 1, 2, none⟩ (.slice fs L.length fc)).heap[b]? = w6.heap[b]? := fun b hb => by rw [Below.heap_setCell _ _ _ _ hb, Below.heap_setCell _ _ _ _ hb, Below.heap_setCell _ _ _ _ hb]
          have hcz : w6.heap.size ≤ (((w6.setCell ⟨w.heap.size + 1 + 1, 0, none⟩ (.bool false)).setCell ⟨w.heap.size + 1 + 1, 1, none⟩ (.slice vs l.length vc)).setCell ⟨w.heap.size + 1 + 1, 2, none⟩ (.slice fs L.length fc)).heap.size := by simp [World.setCell]
          have FX := FR.old (w' := (((w6.setCell ⟨w.heap.size + 1 + 1, 0, none⟩ (.bool false)).setCell ⟨w.heap.size + 1 + 1, 1, none⟩ (.slice vs l.length vc)).setCell ⟨w.heap.size + 1 + 1, 2, none⟩ (.slice fs L.length fc))) (fun b hb => hch b (by omega)) hcz
          have GX := GV.same (w' := (((w6.setCell ⟨w.heap.size + 1 + 1, 0, none⟩ (.bool false)).setCell ⟨w.heap.size + 1 + 1, 1, none⟩ (.slice vs l.length vc)).setCell ⟨w.heap.size + 1 + 1, 2, none⟩ (.slice fs L.length fc))) (fun b hS _ => hch b (by omega)) hcz
          have BX : Below w.heap.size w (((w6.setCell ⟨w.heap.size + 1 + 1, 0, none⟩ (.bool false)).setCell ⟨w.heap.size + 1 + 1, 1, none⟩ (.slice vs l.length vc)).setCell ⟨w.heap.size + 1 + 1, 2, none⟩ (.slice fs L.length fc)) := ((LR.setCell (by simp only; omega) _).setCell (by simp only; omega) _).setCell (by simp only; omega) _
          have HFX : Hid (∀ wz : World, (∀ b, w.heap.size ≤ b → b < (((w6.setCell ⟨w.heap.size + 1 + 1, 0, none⟩ (.bool false)).setCell ⟨w.heap.size + 1 + 1, 1, none⟩ (.slice vs l.length vc)).setCell ⟨w.heap.size + 1 + 1, 2, none⟩ (.slice fs L.length fc)).heap.size → wz.heap[b]? = (((w6.setCell ⟨w.heap.size + 1 + 1, 0, none⟩ (.bool false)).setCell ⟨w.heap.size + 1 + 1, 1, none⟩ (.slice vs l.length vc)).setCell ⟨w.heap.size + 1 + 1, 2, none⟩ (.slice fs L.length fc)).heap[b]?) → (((w6.setCell ⟨w.heap.size + 1 + 1, 0, none⟩ (.bool false)).setCell ⟨w.heap.size + 1 + 1, 1, none⟩ (.slice vs l.length vc)).setCell ⟨w.heap.size + 1 + 1, 2, none⟩ (.slice fs L.length fc)).heap.size ≤ wz.heap.size → GsAt wz vs (joinRow j vx vy) ∧ RowsAt wz fs (List.zipWith (joinRow j) fx fy)) := fun wz hs hz => by
            obtain ⟨fs0, fc0, e0, hk0, hk00, RW0⟩ := (FX.olden (w' := wz) (fun b hb hlt => hs b (by omega) hlt) hz).rows
            cases e0
            rw [HL.out, et1, et2] at RW0
            exact ⟨(GX.same (fun b hS hlt => hs b (by have := hS.1; omega) hlt) hz).at, RW0⟩
          obtain ⟨⟨y0, y1, y2⟩, yz, yf⟩ := id ZR
          obtain ⟨⟨d0, d1, d2⟩, dz, df⟩ := id CR
          have f0 := df 0
          have f1 := df 1
          have f2 := df 2
          clear df yf hch hcz FX GX et1 et2
          go_wp2
          refine bodyPost_ret (v := .agg #[.bool false, .slice vs l.length vc, .slice fs L.length fc]) (by simp [results, Tryz.results29, go_sem, d0, d1, d2]) rfl ⟨⟨vs, vc, fs, fc, ?_, fun wz hs hz => HFX.out wz hs hz⟩, BX⟩
          rw [LV.out, ELL.out]
end Go.Proofs.YtmapdpcfanecdaaGreat
