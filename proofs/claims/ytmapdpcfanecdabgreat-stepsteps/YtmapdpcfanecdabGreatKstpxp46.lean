/- One operation of a region in its own order; a guarded one too, whatever its guard is. -/
import Derived.Test.YtmapdpcfanecdabGreatKstpxp43
import Derived.Test.YtmapdpcfanecdabGreatKstpxp22
import Derived.Test.YtmapdpcfanecdabGreatKstpxp08
import Derived.Deep.DeepCutAuto
import Derived.Deep.RegionHeldLaw
import Derived.Test.YtmapdpcfanecdabGreatKstpxp01
import Derived.Deep.AppendLies
import Derived.Laws.OwnMore
import Derived.Test.YtmapdpcfanecdabGreatKstpxp06
import Derived.Test.YtmapdpcfanecdabGreatKstpxp20
import Derived.Test.YtmapdpcfanecdabGreatKstpxp21
import Derived.Test.YtmapdpcfanecdabGreatKstpxp07
import Derived.Deep.RegionHeld
import Derived.WalkKit
import Derived.WalkSpells
import Derived.WalkLawsBesides
import Derived.Handy
set_option linter.unusedSimpArgs false
set_option linter.unusedVariables false
namespace Go.Proofs.YtmapdpcfanecdabGreat
section
set_option maxHeartbeats 16000000
set_option maxRecDepth 20000
open Go.RowKit
attribute [local go_sem ↓] Go.wp_at_zero Go.wp_at_succ

/-- What is answered is a picture that may be changed, in new memory. -/
def PicC (B : Nat) (w' : World) (e : Ending) (x : Pic) : Prop := ∃ v gs gc L, x = picOf x.none v L ∧ e = .returned (.agg #[.bool x.none, .slice v.rs v.l.length v.rc, .slice gs L.length gc]) ∧ PicG (fun b => B ≤ b) B w' v gs gc L
theorem copyPicture_main (xn : Bool) (vx : List Gs) (fx : List (List Gs)) (vs1 : Option Addr) (vc1 : Nat) (fs1 : Option Addr) (fc1 : Nat) (w : World) (hx : PicAt w ⟨xn, vx, fx⟩ vs1 fs1) (hv8 : vx.length ≤ 1000000) (h60 : fx.length ≤ 1000000) (hr : ∀ i (h : i < fx.length), fx[i].length ≤ 1000000) (hR1 : ∀ g ∈ vx, g.s.length ≤ 1000000) (hR2 : ∀ i (h : i < fx.length), ∀ g ∈ fx[i], g.s.length ≤ 1000000) :
  Calls Tryz.prog 20 #[xv ⟨xn, vx, fx⟩ vs1 vc1 fs1 fc1] w fun e w' => PicC w.heap.size w' e ⟨xn, vx, fx⟩ ∧ Below w.heap.size w w' := by
 obtain ⟨ti, hi, hz0, hz1, hz2⟩ := info_parts Tryz.info_guess
 obtain ⟨tk, hk, hx0, hx1, hx2⟩ := info_parts Tryz.info_row
 have HO : Hid (∀ (g : Gs) (ss : Option Addr) (gc : Nat) (wx : World), IntsAt wx ss g.s → g.s.length ≤ 1000000 → Calls Tryz.prog 57 #[gv g ss gc] wx fun e w' => (∃ js jc, e = .returned (gv g js jc) ∧ IntsAt w' js g.s ∧ g.s.length ≤ jc ∧ jc ≤ maxLen ∧ ∀ a, js = some a → wx.heap.size ≤ a.block) ∧ Below wx.heap.size wx w') := fun g ss gc wx h1 h2 => copyOne_any g ss gc wx h1 h2
 have HR := hideH hr
 have HR1 := hideH hR1
 have HR2 := hideH hR2
 have HX := hideH hx
 clear hr hR1 hR2 hx
 have hb0 : Below w.heap.size w (((w.alloc (.cells #[.bool xn, .slice vs1 vx.length vc1, .slice fs1 fx.length fc1] 28)).alloc (.cells #[.bool false, .slice none 0 0, .slice none 0 0] 28)).alloc (.cells #[.bool xn, .slice none 0 0, .slice none 0 0] 28)) := by go_grown
 have A0 := (XAt.new w ⟨xn, vx, fx⟩ vs1 vc1 fs1 fc1).call (w' := (((w.alloc (.cells #[.bool xn, .slice vs1 vx.length vc1, .slice fs1 fx.length fc1] 28)).alloc (.cells #[.bool false, .slice none 0 0, .slice none 0 0] 28)).alloc (.cells #[.bool xn, .slice none 0 0, .slice none 0 0] 28))) (by go_grown)
 have C0 := (X3.new (w.alloc (.cells #[.bool xn, .slice vs1 vx.length vc1, .slice fs1 fx.length fc1] 28)) 28 (.bool false) (.slice none 0 0) (.slice none 0 0)).call (w' := (((w.alloc (.cells #[.bool xn, .slice vs1 vx.length vc1, .slice fs1 fx.length fc1] 28)).alloc (.cells #[.bool false, .slice none 0 0, .slice none 0 0] 28)).alloc (.cells #[.bool xn, .slice none 0 0, .slice none 0 0] 28))) (by go_grown)
 have D0 := X3.new ((w.alloc (.cells #[.bool xn, .slice vs1 vx.length vc1, .slice fs1 fx.length fc1] 28)).alloc (.cells #[.bool false, .slice none 0 0, .slice none 0 0] 28)) 28 (.bool xn) (.slice none 0 0) (.slice none 0 0)
 have z0 : w.heap.size + 1 + 1 + 1 ≤ (((w.alloc (.cells #[.bool xn, .slice vs1 vx.length vc1, .slice fs1 fx.length fc1] 28)).alloc (.cells #[.bool false, .slice none 0 0, .slice none 0 0] 28)).alloc (.cells #[.bool xn, .slice none 0 0, .slice none 0 0] 28)).heap.size := by simp
 rw [World.size_alloc] at C0
 rw [World.size_alloc, World.size_alloc] at D0
 (try simp only at A0)
 go_enter Tryz.func20, Tryz.ntmps20
 go_upto_region 3 with fail
 generalize (((w.alloc (.cells #[.bool xn, .slice vs1 vx.length vc1, .slice fs1 fx.length fc1] 28)).alloc (.cells #[.bool false, .slice none 0 0, .slice none 0 0] 28)).alloc (.cells #[.bool xn, .slice none 0 0, .slice none 0 0] 28)) = w1 at *
 go_wp2
 go_loopw [5] (fun i wr => ∃ (k : Nat) (vs : Option Addr) (vc : Nat) (l : List Gc), k ≤ vx.length ∧ i = .int .i64 k ∧ XAt wr w.heap.size ⟨xn, vx, fx⟩ vs1 vc1 fs1 fc1 ∧ X3 wr (w.heap.size + 1) (.bool false) (.slice none 0 0) (.slice none 0 0) ∧ X3 wr (w.heap.size + 1 + 1) (.bool xn) (.slice vs l.length vc) (.slice none 0 0) ∧ SRow wr (w.heap.size + 1 + 1 + 1) (.slice vs l.length vc) l ∧ Hid (l.map Gc.g = vx.take k) ∧ Below w.heap.size w wr ∧ w.heap.size + 1 + 1 + 1 ≤ wr.heap.size) (fun i _ => vx.length - (intOf i).toNat)
 case atStart => exact ⟨0, none, 0, [], Nat.zero_le _, rfl, A0, C0, D0, SRow.nil _ _, rfl, hb0, z0⟩
 case round =>
  obtain ⟨k, vs, vc, l, hk1, rfl, AR, CR, ZR, SR, HL, LR, zr⟩ := hrel
  clear A0 C0 D0 hb0 z0
  have LL : Hid (l.length = k) := by
   show _ = _
   have h1 := congrArg List.length HL.out
   rw [List.length_map, List.length_take] at h1
   omega
  by_cases hlt : k < vx.length
  ·have n0 : (0 : Int) ≤ (k : Int) := by omega
   have n1 : (k : Int) < (vx.length : Int) := by omega
   obtain ⟨b1, o1, e1, ss1, g1, G1, I1, k1, m1⟩ := (HX.out.1.below LR (Nat.le_refl _)) k hlt
   subst e1
   have hlk := HR1.out _ (List.getElem_mem hlt)
   (try simp only at G1 I1)
   have zb1 : b1 < w.heap.size := gs_low (HX.out.1) k hlt
   obtain ⟨⟨a0, a1, a2⟩, az, -⟩ := id AR
   obtain ⟨⟨y0, y1, y2⟩, yz, -⟩ := id ZR
   have HKZ : Hid (∀ wx, Below (w.heap.size + 1 + 1 + 1) wr wx → wx.cell? ⟨w.heap.size + 1 + 1, 1, none⟩ = some (.slice vs l.length vc) ∧ (wx.cell? ⟨w.heap.size, 1, none⟩ = some (.slice (some ⟨b1, o1, none⟩) vx.length vc1) ∧ (wx.cell? ⟨b1, o1 + k * 7, none⟩ = some (.bool vx[k].n) ∧ wx.cell? ⟨b1, o1 + k * 7 + 1, none⟩ = some (.bool vx[k].sp.n) ∧ wx.cell? ⟨b1, o1 + k * 7 + 2, none⟩ = some (.int .i64 vx[k].sp.lo) ∧ wx.cell? ⟨b1, o1 + k * 7 + 3, none⟩ = some (.int .i64 vx[k].sp.hi) ∧ wx.cell? ⟨b1, o1 + k * 7 + 4, none⟩ = some (.bool vx[k].t) ∧ wx.cell? ⟨b1, o1 + k * 7 + 5, none⟩ = some (.bool vx[k].f) ∧ wx.cell? ⟨b1, o1 + k * 7 + 6, none⟩ = some (.slice ss1 vx[k].s.length g1)))) := fun wx hx => ⟨by rw [hx.cell (by simp only; omega)]; exact y1, ⟨by rw [hx.cell (by simp only; omega)]; exact a1, (G1.low hx (by omega)).1⟩⟩
   have HD : Below wr.heap.size wr wr.drew := (Below.refl _ _).drew
   go_wp2
   clear a0 a1 a2 az y0 y1 y2 yz
   refine wp_region_z (S := (fun wx => wx.cell? ⟨w.heap.size + 1 + 1, 1, none⟩ = some (.slice vs l.length vc) ∧ (wx.cell? ⟨w.heap.size, 1, none⟩ = some (.slice (some ⟨b1, o1, none⟩) vx.length vc1) ∧ (wx.cell? ⟨b1, o1 + k * 7, none⟩ = some (.bool vx[k].n) ∧ wx.cell? ⟨b1, o1 + k * 7 + 1, none⟩ = some (.bool vx[k].sp.n) ∧ wx.cell? ⟨b1, o1 + k * 7 + 2, none⟩ = some (.int .i64 vx[k].sp.lo) ∧ wx.cell? ⟨b1, o1 + k * 7 + 3, none⟩ = some (.int .i64 vx[k].sp.hi) ∧ wx.cell? ⟨b1, o1 + k * 7 + 4, none⟩ = some (.bool vx[k].t) ∧ wx.cell? ⟨b1, o1 + k * 7 + 5, none⟩ = some (.bool vx[k].f) ∧ wx.cell? ⟨b1, o1 + k * 7 + 6, none⟩ = some (.slice ss1 vx[k].s.length g1))))) [12] (by kernel_rfl) (HKZ.out _ (HD.mono zr)) (fun hHeld => ?_)
   refine tZ 0 ?_ ?_;refine sm ?_
   refine tZ 1 ?_ ?_;refine sm ?_
   refine tZ 2 ?_ ?_;refine sm ?_
   refine tZ 3 ?_ ?_;refine sm ?_
   refine tZ 4 ?_ ?_;refine sm ?_
   refine tZ 5 ?_ ?_;refine sm ?_
   refine tZ 6 ?_ ?_;refine sm ?_
   refine tZ 7 ?_ ?_;refine sm ?_
   refine wpAnyZ_one (i := 8) rfl (by kernel_rfl) (fun K hK => ?_)
   go_simp
   go_at_call 57
   refine (HO.out vx[k] ss1 g1 _ (I1.call HD) hlk).mono ?_
   rintro e w5 ⟨⟨js, jc, rfl, HI5, HJ1, HJ2, HF5⟩, hb5⟩
   have HW5 : Below wr.heap.size wr w5 := HD.trans (hb5.mono HD.size)
   have HB5 : Below (w.heap.size + 1 + 1 + 1) wr w5 := HW5.mono zr
   go_wp2_with fail
   refine hK.out _ _ (HKZ.out _ HB5) (fun hHeld => ?_)
   clear hK K
   refine sm ?_
   refine wpAnyZ_one (i := 9) rfl (by kernel_rfl) (fun K hK => ?_)
   go_simp
   have HW6 : Below wr.heap.size wr (w5.alloc (.cells #[.bool vx[k].n, .bool vx[k].sp.n, .int .i64 vx[k].sp.lo, .int .i64 vx[k].sp.hi, .bool vx[k].t, .bool vx[k].f, .slice js vx[k].s.length jc] 61)) := HW5.alloc HW5.size _
   have HB6 : Below (w.heap.size + 1 + 1 + 1) wr (w5.alloc (.cells #[.bool vx[k].n, .bool vx[k].sp.n, .int .i64 vx[k].sp.lo, .int .i64 vx[k].sp.hi, .bool vx[k].t, .bool vx[k].f, .slice js vx[k].s.length jc] 61)) := HW6.mono zr
   refine hK.out _ _ (HKZ.out _ HB6) (fun hHeld => ?_)
   clear hK K
   refine sm ?_
   refine wpAnyZ_one (i := 10) rfl (by kernel_rfl) (fun K hK => ?_)
   have S6 := SR.call HW6
   have GX : GcIn (fun b => w.heap.size + 1 + 1 + 1 ≤ b ∧ (Value.slice vs l.length vc).ownBlock ≠ some b) (w5.alloc (.cells #[.bool vx[k].n, .bool vx[k].sp.n, .int .i64 vx[k].sp.lo, .int .i64 vx[k].sp.hi, .bool vx[k].t, .bool vx[k].f, .slice js vx[k].s.length jc] 61)) ⟨vx[k], js, jc⟩ := joined_in HI5 HJ1 HJ2 HF5 zr (fun e => (ownsI_lt SR.1 e).1) (by go_grown) (HD.size)
   refine step_append_any _ rfl _ _ 25 rfl (w.heap.size + 1 + 1 + 1) 61 ti (.agg #[.bool false, .bool false, .int .i64 0, .int .i64 0, .bool false, .bool false, .slice none 0 0]) 7 64 Tryz.underlying25 hi hz0 hz1 hz2 rfl (by decide) _ _ _ rfl S6.1 (some ⟨w5.heap.size, 0, none⟩) 1 1 (gcCells ⟨vx[k], js, jc⟩) rfl rfl (fun h => by cases h) (news7 w5 ⟨vx[k], js, jc⟩ #[.bool vx[k].n, .bool vx[k].sp.n, .int .i64 vx[k].sp.lo, .int .i64 vx[k].sp.hi, .bool vx[k].t, .bool vx[k].f, .slice js vx[k].s.length jc] _ rfl) (gcCells_one _) (by unfold maxLen; have := LL.out; omega) (by have := LL.out; omega) (by rw [World.size_alloc]; have := HW5.size; omega) ?_
   intro v' w7 hown hgrow hat
   have S7 := S6.grown (x := ⟨vx[k], js, jc⟩) GX hown hgrow hat
   have HB7 : Below (w.heap.size + 1 + 1 + 1) wr w7 := HB6.grown hgrow (by rw [World.size_alloc]; have := HW5.size; omega) (fun k hk => (ownsI_lt S6.1 hk).2)
   obtain ⟨vs', vc', rfl, -, -, -⟩ := S7.in
   refine hK.out _ _ (HKZ.out _ HB7) (fun hHeld => ?_)
   clear hK K hown hgrow hat S6 GX HB6 HW6 HB5 HW5 HI5 HF5
   refine sm ?_
   refine tZ 11 ?_ ?_;refine sm ?_
   refine wpAnyZ_last (i := 12) rfl (by kernel_rfl) (by kernel_rfl) (fun K hK => ?_)
   have Z7 : X3 w7 (w.heap.size + 1 + 1) (.bool xn) (.slice vs l.length vc) (.slice none 0 0) := ZR.same (HB7.block _ (by omega)) HB7.size
   obtain ⟨⟨y0, y1, y2⟩, yz, yf⟩ := id Z7
   have yf1 := yf 1
   clear yf
   go_simp
   refine hK.out _ _ ?_
   clear hK K
   refine sm ?_
   refine wpAnyZ_done (by kernel_rfl) ?_ _
   clear y0 y1 y2 yz yf1
   have A7 : XAt w7 w.heap.size ⟨xn, vx, fx⟩ _ vc1 fs1 fc1 := AR.same (HB7.block _ (by omega)) HB7.size
   have C7 : X3 w7 (w.heap.size + 1) (.bool false) (.slice none 0 0) (.slice none 0 0) := CR.same (HB7.block _ (by omega)) HB7.size
   have L7 := LR.trans (HB7.mono (by omega))
   have z7 : w.heap.size + 1 + 1 + 1 ≤ w7.heap.size := Nat.le_trans zr HB7.size
   have e7 : ∀ b, b ≠ w.heap.size + 1 + 1 → (w7.setCell ⟨w.heap.size + 1 + 1, 1, none⟩ (.slice vs' (l ++ [(⟨vx[k], js, jc⟩ : Gc)]).length vc')).heap[b]? = w7.heap[b]? := fun b hb => Below.heap_setCell _ _ _ _ hb
   have s7 : w7.heap.size ≤ (w7.setCell ⟨w.heap.size + 1 + 1, 1, none⟩ (.slice vs' (l ++ [(⟨vx[k], js, jc⟩ : Gc)]).length vc')).heap.size := by simp [World.setCell]
   clear AR CR ZR SR LR zr HKZ
   go_wp2
   go_roundw
   case rel => exact ⟨k + 1, vs', vc', l ++ [⟨vx[k], js, jc⟩], by omega, by go_num, by first | exact A7.same (e7 _ (by omega)) s7 | (simpa using A7.same (e7 _ (by omega)) s7), by first | exact C7.same (e7 _ (by omega)) s7 | (simpa using C7.same (e7 _ (by omega)) s7), by first | exact Z7.put1 _ | (simpa using Z7.put1 (.slice vs' (l ++ [(⟨vx[k], js, jc⟩ : Gc)]).length vc')), by first | exact S7.old (fun b hb => e7 b (by omega)) s7 | (simpa using S7.old (fun b hb => e7 b (by omega)) s7), by show _ = _; rw [List.map_append, HL.out, List.take_succ_eq_append_getElem hlt]; rfl, by first | exact L7.setCell (by simp only; omega) _ | (simpa using L7.setCell (p := ⟨w.heap.size + 1 + 1, 1, none⟩) (by simp only; omega) (.slice vs' (l ++ [(⟨vx[k], js, jc⟩ : Gc)]).length vc')), by simpa [World.setCell] using z7⟩
   case measure => simp [intOf]; omega
  ·have n1' : ¬ (k : Int) < (vx.length : Int) := by omega
   have et1 : vx.take k = vx := List.take_of_length_le (by omega)
   have HLV : Hid (l.map Gc.g = vx) := by show _ = _; rw [HL.out, et1]
   have GV : VRow (fun b => w.heap.size + 1 + 1 + 1 ≤ b ∧ b < wr.heap.size) wr (w.heap.size + 1 + 1 + 1) (.slice vs l.length vc) l := SR.vrow.mono fun b h1 h2 => ⟨h1, h2⟩
   clear SR LL HL et1
   have zn : w.heap.size + 1 + 1 + 1 ≤ wr.heap.size := zr
   obtain ⟨⟨a0, a1, a2⟩, az, -⟩ := id AR
   generalize hN : wr.heap.size = N at *
   have HNN := hideH hN
   clear hN
   go_wp2
   clear a0 a1 a2 az
   go_loopw [6] (fun i wr => ∃ (k : Nat) (fs : Option Addr) (fc : Nat) (L : List Ro), k ≤ fx.length ∧ i = .int .i64 k ∧ XAt wr w.heap.size ⟨xn, vx, fx⟩ vs1 vc1 fs1 fc1 ∧ X3 wr (w.heap.size + 1) (.bool false) (.slice none 0 0) (.slice none 0 0) ∧ X3 wr (w.heap.size + 1 + 1) (.bool xn) (.slice vs l.length vc) (.slice fs L.length fc) ∧ FRowS wr N (.slice fs L.length fc) L ∧ Hid (L.map roG = fx.take k) ∧ VRow (fun b => w.heap.size + 1 + 1 + 1 ≤ b ∧ b < N) wr (w.heap.size + 1 + 1 + 1) (.slice vs l.length vc) l ∧ Below w.heap.size w wr ∧ N ≤ wr.heap.size) (fun i _ => fx.length - (intOf i).toNat)
   case atStart => exact ⟨0, none, 0, [], Nat.zero_le _, rfl, AR, CR, ZR, FRowS.nil _ _, rfl, GV, LR, by rw [HNN.out]; exact Nat.le_refl _⟩
   case round =>
    clear AR CR ZR GV LR zr HNN
    obtain ⟨k2, fs, fc, L, hk2, rfl, AR, CR, ZR, FR, HL, GV, LR, zr⟩ := hrel
    generalize wr = w6 at *
    clear wr
    have LL : Hid (L.length = k2) := by
     show _ = _
     have h1 := congrArg List.length HL.out
     rw [List.length_map, List.length_take] at h1
     omega
    obtain ⟨⟨a0, a1, a2⟩, az, -⟩ := id AR
    by_cases hlt2 : k2 < fx.length
    ·have n0 : (0 : Int) ≤ (k2 : Int) := by omega
     have n2' : (k2 : Int) < (fx.length : Int) := by omega
     go_wp2
     clear a0 a1 a2 az
     go_loopw [7, 8] (fun r i2 wo => ∃ (m : Nat) (rs : Option Addr) (rc : Nat) (lr : List Gc), m ≤ fx[k2].length ∧ r = .slice rs lr.length rc ∧ i2 = .int .i64 m ∧ Below w6.heap.size w6 wo ∧ SRow wo w6.heap.size (.slice rs lr.length rc) lr ∧ Hid (lr.map Gc.g = fx[k2].take m)) (fun _ i2 _ => fx[k2].length - (intOf i2).toNat)
     case atStart => exact ⟨0, none, 0, [], Nat.zero_le _, rfl, rfl, Below.refl _ _, SRow.nil _ _, rfl⟩
     case round =>
      obtain ⟨m, rs, rc, lr, hm, rfl, rfl, hbo, SR, HM⟩ := hrel
      have h3 := HR.out k2 hlt2
      have LM : Hid (lr.length = m) := by
       show _ = _
       have h1 := congrArg List.length HM.out
       rw [List.length_map, List.length_take] at h1
       omega
      obtain ⟨⟨a0, a1, a2⟩, az, -⟩ := id (AR.call hbo)
      obtain ⟨p1, q1, e1, zp1, r1, rc1, C1, k1, m1, J1⟩ := HX.out.2 k2 hlt2
      have hwo := LR.trans (hbo.mono LR.size)
      have D1 : wr.cell? ⟨p1, q1 + k2, none⟩ = some (.slice r1 fx[k2].length rc1) := by rw [hwo.cell (by simp only; exact zp1)]; exact C1
      subst e1
      clear C1
      by_cases hltm : m < fx[k2].length
      ·have m0 : (0 : Int) ≤ (m : Int) := by omega
       have m1' : (m : Int) < (fx[k2].length : Int) := by omega
       obtain ⟨b1, o1, e1, ss1, g1, G1, I1, l1, l2⟩ := (J1.below hwo (Nat.le_refl _)) m hltm
       subst e1
       have hlk := HR2.out k2 hlt2 _ (List.getElem_mem hltm)
       obtain ⟨⟨q0', q1', q2', q3', q4', q5', q6'⟩, qz'⟩ := id G1
       go_wp2_with (go_at_call 57; fail)
       refine (HO.out fx[k2][m] ss1 g1 _ I1 hlk).mono ?_
       rintro e w7 ⟨⟨js, jc, rfl, HI5, HJ1, HJ2, HF5⟩, hb7⟩
       clear q0' q1' q2' q3' q4' q5' q6' qz' G1 a0 a1 a2 az D1
       have HW8 : Below wr.heap.size wr (w7.alloc (.cells #[.bool fx[k2][m].n, .bool fx[k2][m].sp.n, .int .i64 fx[k2][m].sp.lo, .int .i64 fx[k2][m].sp.hi, .bool fx[k2][m].t, .bool fx[k2][m].f, .slice js fx[k2][m].s.length jc] 61)) := hb7.alloc hb7.size _
       have S8 := SR.call HW8
       have z67 : w6.heap.size ≤ wr.heap.size := hbo.size
       have GX : GcIn (fun b => w6.heap.size ≤ b ∧ (Value.slice rs lr.length rc).ownBlock ≠ some b) (w7.alloc (.cells #[.bool fx[k2][m].n, .bool fx[k2][m].sp.n, .int .i64 fx[k2][m].sp.lo, .int .i64 fx[k2][m].sp.hi, .bool fx[k2][m].t, .bool fx[k2][m].f, .slice js fx[k2][m].s.length jc] 61)) ⟨fx[k2][m], js, jc⟩ := joined_in HI5 HJ1 HJ2 HF5 z67 (fun e => (ownsI_lt SR.1 e).1) (by go_grown) (Nat.le_refl _)
       go_wp2_with (at_builtin; refine wpList_append_any _ rfl _ _ 25 rfl w6.heap.size 61 ti (.agg #[.bool false, .bool false, .int .i64 0, .int .i64 0, .bool false, .bool false, .slice none 0 0]) 7 64 Tryz.underlying25 hi hz0 hz1 hz2 rfl (by decide) _ _ _ rfl S8.1 (some ⟨w7.heap.size, 0, none⟩) 1 1 (gcCells ⟨fx[k2][m], js, jc⟩) rfl rfl (fun h => by cases h) ?qc2 (gcCells_one _) ?qc4 ?qc5 ?qc6 ?_)
       (try (case qc2 => exact news7 w7 ⟨fx[k2][m], js, jc⟩ #[.bool fx[k2][m].n, .bool fx[k2][m].sp.n, .int .i64 fx[k2][m].sp.lo, .int .i64 fx[k2][m].sp.hi, .bool fx[k2][m].t, .bool fx[k2][m].f, .slice js fx[k2][m].s.length jc] _ rfl))
       case qc4 => unfold maxLen; have := LM.out; omega
       case qc5 => have := LM.out; omega
       (try (case qc6 => have := hb7.size; first | omega | (rw [World.size_alloc]; omega) | (simp; omega) | simp))
       intro v' w9 hown hgrow hat
       have S9 := S8.grown (x := ⟨fx[k2][m], js, jc⟩) GX hown hgrow (by rw [World.size_alloc]; exact hat)
       have hb9 : Below w6.heap.size w6 w9 := (hbo.trans (HW8.mono hbo.size)).grown hgrow (by rw [World.size_alloc]; have := hb7.size; omega) (fun k hk => (ownsI_lt S8.1 hk).2)
       obtain ⟨rs', rc', rfl, -, -, -⟩ := S9.in
       clear SR hbo hown hgrow hat S8 GX HW8 HI5 HF5
       go_wp2
       go_roundw
       case rel => exact ⟨m + 1, rs', rc', lr ++ [⟨fx[k2][m], js, jc⟩], by omega, by first | rfl | (rw [List.length_append]; rfl), by go_num, hb9, S9, by show _ = _; rw [List.map_append, HM.out, List.take_succ_eq_append_getElem hltm]; rfl⟩
       case measure => simp [intOf]; omega
      ·have m1' : ¬ (m : Int) < (fx[k2].length : Int) := by omega
       have et1 : fx[k2].take m = fx[k2] := List.take_of_length_le (by omega)
       have HRL : Hid (roG ⟨rs, rc, lr⟩ = fx[k2]) := by show lr.map Gc.g = _; rw [HM.out, et1]
       have A9 := AR.call hbo
       have C9 := CR.call hbo
       have Z9 := ZR.call hbo
       have F9 := FR.call hbo
       have V9 := GV.call hbo
       have L9 := hwo
       have z9 : N ≤ wr.heap.size := Nat.le_trans zr hbo.size
       have z69 := zr
       clear AR CR ZR GV LR zr LM HM hwo et1
       generalize wr = w9 at *
       clear wr
       obtain ⟨⟨y0, y1, y2⟩, yz, yf⟩ := id Z9
       have hba : Below w6.heap.size w6 (w9.alloc (.cells #[.slice rs lr.length rc] 25)) := hbo.alloc hbo.size _
       have F10 := FR.call hba
       have VX : VRow (fun b => w6.heap.size ≤ b) (w9.alloc (.cells #[.slice rs lr.length rc] 25)) w6.heap.size (roV ⟨rs, rc, lr⟩) lr := SR.vrow.call (by go_grown)
       go_wp2_with (at_builtin; refine wpList_append_any _ rfl _ _ 26 rfl N 25 tk (.slice none 0 0) 1 24 Tryz.underlying26 hk hx0 hx1 hx2 rfl (by decide) _ _ _ rfl F10.own (some ⟨w9.heap.size, 0, none⟩) 1 1 [.slice rs lr.length rc] rfl rfl (fun h => by cases h) ?qc2 (by intro u hu; rw [List.mem_singleton.1 hu]; rfl) ?qc4 ?qc5 ?qc6 ?_)
       (try (case qc2 => exact news1 w9 _ _))
       case qc4 => unfold maxLen; have := LL.out; omega
       case qc5 => have := LL.out; omega
       (try (case qc6 => first | omega | (rw [World.size_alloc]; omega) | (simp; omega) | simp))
       intro v' w10 hown hgrow hat
       have F11 := FR.grown hba z69 (x := ⟨rs, rc, lr⟩) VX hown hgrow (by rw [World.size_alloc]; exact hat)
       have hb10 : Below N w9 w10 := ((Below.refl _ w9).alloc z9 _).grown hgrow (by simp; omega) (fun k hk => (ownsI_lt F10.own hk).2)
       obtain ⟨fs', fc', rfl⟩ := F11.form
       clear hown hgrow hat F10 F9 FR SR hbo hba VX y0 y1 y2 yz yf a0 a1 a2 az D1
       have A4 : XAt w10 w.heap.size ⟨xn, vx, fx⟩ _ vc1 _ fc1 := A9.same (hb10.block _ (by omega)) hb10.size
       have C4 : X3 w10 (w.heap.size + 1) (.bool false) (.slice none 0 0) (.slice none 0 0) := C9.same (hb10.block _ (by omega)) hb10.size
       have Z4 : X3 w10 (w.heap.size + 1 + 1) (.bool xn) (.slice vs l.length vc) (.slice fs L.length fc) := Z9.same (hb10.block _ (by omega)) hb10.size
       have V4 : VRow (fun b => w.heap.size + 1 + 1 + 1 ≤ b ∧ b < N) w10 (w.heap.size + 1 + 1 + 1) (.slice vs l.length vc) l := V9.same (fun b hS _ => hb10.block b hS.2) hb10.size
       have L4 := L9.trans (hb10.mono (by omega))
       have z4 : N ≤ w10.heap.size := Nat.le_trans z9 hb10.size
       clear A9 C9 Z9 V9 L9 z9 hb10
       obtain ⟨⟨y0, y1, y2⟩, yz, yf⟩ := id Z4
       have yf2 := yf 2
       clear yf
       have e7 : ∀ (x : Value) b, b ≠ w.heap.size + 1 + 1 → (w10.setCell ⟨w.heap.size + 1 + 1, 2, none⟩ x).heap[b]? = w10.heap[b]? := fun x b hb => Below.heap_setCell _ _ _ _ hb
       have s7 : ∀ (x : Value), w10.heap.size ≤ (w10.setCell ⟨w.heap.size + 1 + 1, 2, none⟩ x).heap.size := fun x => by simp [World.setCell]
       have E7 := hideH e7
       have S7 := hideH s7
       clear e7 s7
       go_wp2
       go_roundw
       case rel => exact ⟨k2 + 1, fs', fc', L ++ [⟨rs, rc, lr⟩], by omega, by go_num, A4.same (E7.out _ _ (by omega)) (S7.out _), C4.same (E7.out _ _ (by omega)) (S7.out _), by first | exact Z4.put2 _ | (rw [List.length_append]; exact Z4.put2 _), F11.olden (fun b hb _ => E7.out _ b (by omega)) (S7.out _), by show _ = _; rw [List.map_append, HL.out, List.take_succ_eq_append_getElem hlt2, List.map_cons, HRL.out]; rfl, V4.same (fun b hS _ => E7.out _ b (by omega)) (S7.out _), L4.setCell (by simp only; omega) _, by simpa [World.setCell] using z4⟩
       case measure => simp [intOf]; omega
    ·have n2' : ¬ (k2 : Int) < (fx.length : Int) := by omega
     have et1 : fx.take k2 = fx := List.take_of_length_le (by omega)
     have hch : ∀ b, b ≠ w.heap.size + 1 → (((w6.setCell ⟨w.heap.size + 1, 0, none⟩ (.bool xn)).setCell ⟨w.heap.size + 1, 1, none⟩ (.slice vs l.length vc)).setCell ⟨w.heap.size + 1, 2, none⟩ (.slice fs L.length fc)).heap[b]? = w6.heap[b]? := fun b hb => by rw [Below.heap_setCell _ _ _ _ hb, Below.heap_setCell _ _ _ _ hb, Below.heap_setCell _ _ _ _ hb]
     have hcz : w6.heap.size ≤ (((w6.setCell ⟨w.heap.size + 1, 0, none⟩ (.bool xn)).setCell ⟨w.heap.size + 1, 1, none⟩ (.slice vs l.length vc)).setCell ⟨w.heap.size + 1, 2, none⟩ (.slice fs L.length fc)).heap.size := by simp [World.setCell]
     have FX := FR.olden (w' := (((w6.setCell ⟨w.heap.size + 1, 0, none⟩ (.bool xn)).setCell ⟨w.heap.size + 1, 1, none⟩ (.slice vs l.length vc)).setCell ⟨w.heap.size + 1, 2, none⟩ (.slice fs L.length fc))) (fun b hb _ => hch b (by omega)) hcz
     have GX := GV.same (w' := (((w6.setCell ⟨w.heap.size + 1, 0, none⟩ (.bool xn)).setCell ⟨w.heap.size + 1, 1, none⟩ (.slice vs l.length vc)).setCell ⟨w.heap.size + 1, 2, none⟩ (.slice fs L.length fc))) (fun b hS _ => hch b (by omega)) hcz
     have BX : Below w.heap.size w (((w6.setCell ⟨w.heap.size + 1, 0, none⟩ (.bool xn)).setCell ⟨w.heap.size + 1, 1, none⟩ (.slice vs l.length vc)).setCell ⟨w.heap.size + 1, 2, none⟩ (.slice fs L.length fc)) := ((LR.setCell (by simp only; omega) _).setCell (by simp only; omega) _).setCell (by simp only; omega) _
     have PX := ((FX.pic GX (fun b h => h) zn).mono (T' := fun b => w.heap.size ≤ b) fun b hb _ => by omega).down (C := w.heap.size) (by omega)
     have HPX : Hid (PicC w.heap.size (((w6.setCell ⟨w.heap.size + 1, 0, none⟩ (.bool xn)).setCell ⟨w.heap.size + 1, 1, none⟩ (.slice vs l.length vc)).setCell ⟨w.heap.size + 1, 2, none⟩ (.slice fs L.length fc)) (.returned (.agg #[.bool xn, .slice vs l.length vc, .slice fs L.length fc])) ⟨xn, vx, fx⟩) := ⟨⟨vs, vc, l⟩, fs, fc, L, by unfold picOf; rw [show roG ⟨vs, vc, l⟩ = vx from HLV.out, HL.out, et1], rfl, PX⟩
     obtain ⟨⟨y0, y1, y2⟩, yz, yf⟩ := id ZR
     obtain ⟨⟨d0, d1, d2⟩, dz, df⟩ := id CR
     have f0 := df 0
     have f1 := df 1
     have f2 := df 2
     clear df yf hch hcz FX GX et1 PX
     go_wp2
     refine bodyPost_ret (v := .agg #[.bool xn, .slice vs l.length vc, .slice fs L.length fc]) (by simp [results, Tryz.results20, go_sem, d0, d1, d2]) rfl ⟨HPX.out, BX⟩
end
section
open Go.RowKit

def setL (w : World) (b : Nat) : Nat → List Value → World
 | _, [] => w
 | i, y :: ys => setL (w.setCell ⟨b, i, none⟩ y) b (i + 1) ys
theorem setL_far (b k : Nat) (hk : k ≠ b) : ∀ (ys : List Value) (i : Nat) (w : World), (setL w b i ys).heap[k]? = w.heap[k]?
 | [], _, _ => rfl
 | y :: ys, i, w => by
  show (setL (w.setCell ⟨b, i, none⟩ y) b (i + 1) ys).heap[k]? = _
  rw [setL_far b k hk ys (i + 1) _, Below.heap_setCell _ _ _ _ hk]
theorem setL_size (b : Nat) : ∀ (ys : List Value) (i : Nat) (w : World), (setL w b i ys).heap.size = w.heap.size
 | [], _, _ => rfl
 | y :: ys, i, w => by
  show (setL (w.setCell ⟨b, i, none⟩ y) b (i + 1) ys).heap.size = _
  rw [setL_size b ys (i + 1) _]
  simp [World.setCell]
theorem setL_below {B : Nat} {a : World} (b : Nat) (hB : B ≤ b) : ∀ (ys : List Value) (i : Nat) (w : World), Below B a w → Below B a (setL w b i ys)
 | [], _, _, h => h
 | y :: ys, i, w, h => setL_below b hB ys (i + 1) _ (h.setCell (p := ⟨b, i, none⟩) hB y)
end
section
open Go.RowKit
def setCs : List Value → Nat → List Value → List Value
 | cs, _, [] => cs
 | cs, o, y :: ys => setCs (cs.set o y) (o + 1) ys
/-- What a row of stores into block b leaves. -/
structure Put (b : Nat) (w w' : World) (cs : List Value) : Prop where
 cells : Cells w' b cs
 far : ∀ q, q ≠ b → w'.heap[q]? = w.heap[q]?
 size : w.heap.size ≤ w'.heap.size
 low : ∀ {B : Nat} {a : World}, B ≤ b → Below B a w → Below B a w'
section
variable {b : Nat} {w w' : World} {cs : List Value}
theorem setL_cells : ∀ (ys : List Value) (o : Nat) (w : World) (cs : List Value), Cells w b cs → o + ys.length ≤ cs.length → Cells (setL w b o ys) b (setCs cs o ys)
 | [], _, _, _, h, _ => h
 | y :: ys, o, w, cs, h, hl => setL_cells ys (o + 1) _ _ (h.put o (by simp at hl; omega) y) (by simp at hl ⊢; omega)
theorem put_some (h : Cells w b cs) (o : Nat) (ys : List Value) (e : w' = setL w b o ys) (hl : o + ys.length ≤ cs.length := by simp) : Put b w w' (setCs cs o ys) := by
 subst e
 exact ⟨setL_cells ys o w cs h hl, fun q hq => setL_far b q hq ys o w, by rw [setL_size]; exact Nat.le_refl _, fun hB hb => setL_below b hB ys o w hb⟩
theorem Put.refl (h : Cells w b cs) : Put b w w cs := ⟨h, fun _ _ => rfl, Nat.le_refl _, fun _ hb => hb⟩
theorem Put.trans {w2 : World} {ds : List Value} (p : Put b w w' cs) (q : Put b w' w2 ds) : Put b w w2 ds := ⟨q.cells, fun k hk => (q.far k hk).trans (p.far k hk), Nat.le_trans p.size q.size, fun hB hb => q.low hB (p.low hB hb)⟩
theorem Put.keep (p : Put b w w' cs) {q : Nat} {ds : List Value} (h : Cells w q ds) (hq : q ≠ b := by omega) : Cells w' q ds := h.same (p.far q hq) p.size
theorem Put.ints (p : Put b w w' cs) {S : Nat → Prop} {ss : Option Addr} {l : List Int} (h : IntsIn S w ss l) (hS : ∀ q, S q → q ≠ b) : IntsIn S w' ss l := h.same (fun q hq _ => p.far q (hS q hq)) p.size
end
end
section
open Go.RowKit
attribute [local go_sem ↓] Go.wp_at_zero Go.wp_at_succ

theorem copyPicture_any {V F : Int} {c : List Ins} {i : Ins} {at_ : Int} (x : Pic) (vs : Option Addr) (vc : Nat) (fs : Option Addr) (fc : Nat) (w : World) (hx : PicAt w x vs fs) (K : SCtx V F c x vc fc i at_) :
  Calls Tryz.prog 20 #[xv x vs vc fs fc] w fun e w' => PicC w.heap.size w' e x ∧ Below w.heap.size w w' := by
 have h := K.lens
 have kx := K.kx
 have hs : ∀ {g : Gs}, ckGs c g = 0 → g.s.length ≤ 1000000 := fun hg => by
  have := rising_len (ckGs_iff.1 hg).2.2 (ckGs_sites h.2.1 hg).1
  omega
 obtain ⟨xn, vx, fx⟩ := x
 exact copyPicture_main xn vx fx vs vc fs fc w hx (by simp only at h; omega) (by simp only at h; omega) (fun k hk => by have := kx.row k hk; simp only at this; omega) (fun g hg => hs (kx.gv g hg)) (fun k hk g hg => hs (kx.gf k hk g hg))
/-- What the document's step holds ahead of its switch. -/
structure SPre (T : Nat → Prop) (V F : Int) (s : Option Addr) (c : List Ins) (cap : Nat) (at_ : Int) (i : Ins) (x : Pic) (vs : Option Addr) (vc : Nat) (fs : Option Addr) (fc : Nat) (w wp : World) (ib yb ob ab bb tb : Nat) (wY : World) (v : Ro) (gs : Option Addr) (gc : Nat) (L : List Ro) (ga : Gs) (sa : Option Addr) (ca : Nat) (gb : Gs) (sb : Option Addr) (cb : Nat) : Prop where
 low : Below w.heap.size w wp
 prg : Cells wp w.heap.size [.int .i64 V, .int .i64 F, .slice s c.length cap]
 pic : Cells wp (w.heap.size + 1) [.bool false, .slice vs x.vars.length vc, .slice fs x.flds.length fc]
 ins : Cells wp ib [.int .i64 i.k, .int .i64 i.to, .int .i64 i.a, .int .i64 i.b, .int .i64 i.n, .int .i64 i.g]
 y : Cells wp yb [.bool false, .slice v.rs v.l.length v.rc, .slice gs L.length gc]
 on : Cells wp ob [.int .i64 (at_ + 1), .bool false, .slice v.rs v.l.length v.rc, .slice gs L.length gc]
 va : Cells wp ab [.bool ga.n, .bool ga.sp.n, .int .i64 ga.sp.lo, .int .i64 ga.sp.hi, .bool ga.t, .bool ga.f, .slice sa ga.s.length ca]
 vb : Cells wp bb [.bool gb.n, .bool gb.sp.n, .int .i64 gb.sp.lo, .int .i64 gb.sp.hi, .bool gb.t, .bool gb.f, .slice sb gb.s.length cb]
 tg : Cells wp tb [.bool false, .bool true, .int .i64 0, .int .i64 0, .bool false, .bool false, .slice none 0 0]
 ga : IntsIn T w sa ga.s ∧ ga.s.length ≤ ca ∧ ca ≤ maxLen
 gb : IntsIn T w sb gb.s ∧ gb.s.length ≤ cb ∧ cb ≤ maxLen
 own : PicG (fun b => w.heap.size ≤ b) (w.heap.size + 1 + 1 + 1) wY v gs gc L
 yw : Below wY.heap.size wY wp
 yb : yb = wY.heap.size
 pv : x = picOf false v L
 ord : ib = w.heap.size + 1 + 1 ∧ w.heap.size + 1 + 1 + 1 ≤ wY.heap.size ∧ wY.heap.size < ob ∧ ob < ab ∧ ab < bb ∧ bb < tb
section
variable {S T' : Nat → Prop} {w : World} {ob B : Nat} {to_ : Int} {v : Ro} {gs : Option Addr} {gc : Nat} {L : List Ro} {x' : Pic}
theorem eds_one (hO : Cells w ob [.int .i64 to_, .bool false, .slice v.rs v.l.length v.rc, .slice gs L.length gc]) (hS : S ob) (hP : PicG T' B w v gs gc L) (hT : ∀ b, T' b → S b) (hB : ∀ b, B ≤ b → S b) (hx : x' = picOf false v L) : EdsOn S w (some ⟨ob, 0, none⟩) [⟨to_, x'⟩] := by
 intro i hi
 have h0 : i = 0 := by simp at hi; omega
 subst h0
 subst hx
 have l1 : (picOf false v L).vars.length = v.l.length := by simp [picOf, roG]
 have l2 : (picOf false v L).flds.length = L.length := by simp [picOf]
 refine ⟨ob, 0, rfl, hS, hO.2.1, v.rs, v.rc, gs, gc, ?_, (hP.on false).mono fun b hb _ => hb.elim (hT b) (hB b), hP.vcap false, hP.fcap' false⟩
 simp only [List.getElem_cons_zero, l1, l2, Nat.zero_mul, Nat.add_zero, Nat.zero_add]
 exact ⟨hO.1 0 _ rfl, hO.1 1 _ rfl, hO.1 2 _ rfl, hO.1 3 _ rfl⟩
end
/-- Sites that lie in older memory, or behind the copy's, lie away from its rows. -/
theorem gc_away {T : Nat → Prop} {n B : Nat} {wY wx : World} {v : Ro} {gs : Option Addr} {gc : Nat} {L : List Ro} {y : Gc} (G : PicG (fun b => n ≤ b) B wY v gs gc L) (hB : n ≤ B) (hN : n ≤ wY.heap.size) (h : IntsIn (fun b => (T b ∧ b < n) ∨ wY.heap.size ≤ b) wx y.ss y.g.s) (h1 : y.g.s.length ≤ y.cap) (h2 : y.cap ≤ maxLen) : GcIn (fun b => (T b ∨ n ≤ b) ∧ Off v (Value.slice gs L.length gc).ownBlock L b) wx y := by
 have hz := G.vars
 refine ⟨h.mono fun b hb _ => ?_, h1, h2⟩
 have rowlt : ∀ q, roB v = some q → q < wY.heap.size ∧ B ≤ q := fun q hq => G.vars.lt hq
 have fldlt : ∀ q, (Value.slice gs L.length gc).ownBlock = some q → q < wY.heap.size ∧ B ≤ q := fun q hq => ownsI_lt G.flds hq
 have reslt : ∀ r ∈ L, ∀ q, roB r = some q → q < wY.heap.size ∧ B ≤ q := fun r hr q hq => (G.rows r hr).lt hq
 rcases hb with ⟨hb, hlt⟩ | hb
 ·exact ⟨.inl hb, fun e => by have := rowlt b e; omega, fun e => by have := fldlt b e; omega, fun r hr e => by have := reslt r hr b e; omega⟩
 ·exact ⟨.inr (Nat.le_trans hN hb), fun e => by have := rowlt b e; omega, fun e => by have := fldlt b e; omega, fun r hr e => by have := reslt r hr b e; omega⟩
end
section
open Go.RowKit Go
section
variable {P : Program} {ops : Array Oper} {Q : Exit → Act → World → Prop} {a : Act} {w : World} {rest : List Oper} {o : Oper}
theorem tL (v : Value) (h : wpList P ops Q rest (a.put o.dst v) w) (hy : (execOp a.eval o).run P w = .ok (.value v) w := by first | (go_simp; done) | (go_simp; with_reducible rfl)) (hw : Region.wanted o (yielded ops a.tmps) = true := by rfl) : wpList P ops Q (o :: rest) a w := by
 unfold wpList
 rw [if_pos hw]
 left
 unfold Oper.wp
 rw [hy]
 exact h
theorem tLb (b : Bool) (X : Value) (h : ∀ v, Hid (v = if b = true then undef else X) → wpList P ops Q rest (a.put o.dst v) w) (h0 : b = false → Region.wanted o (yielded ops a.tmps) = true ∧ (execOp a.eval o).run P w = .ok (.value X) w) (h1 : b = true → Region.wanted o (yielded ops a.tmps) = false) : wpList P ops Q (o :: rest) a w := by
 cases b with
 | false =>
  obtain ⟨hw, hy⟩ := h0 rfl
  exact tL X (h X (by show _ = _; simp)) hy hw
 | true =>
  unfold wpList
  rw [if_neg (by rw [h1 rfl]; decide)]
  exact h _ (by show _ = _; simp)
end
end
end Go.Proofs.YtmapdpcfanecdabGreat
