/- Walks over package picture: two put together, where one is not right. -/
import Derived.Test.YtmapdpcfanecdabGreatKstpxp25
import Derived.Test.YtmapdpcfanecdabGreatKstpxp08
import Derived.Deep.DeepCutAuto
import Derived.Deep.RegionHeldLaw
import Derived.Test.YtmapdpcfanecdabGreatKstpxp07
import Derived.Deep.RegionHeld
import Derived.WalkKit
import Derived.WalkSpells
import Derived.WalkLawsBesides
import Derived.Handy
set_option linter.unusedSimpArgs false
set_option linter.unusedVariables false
namespace Go.Proofs.YtmapdpcfanecdabGreat
section
set_option maxHeartbeats 16000000
set_option maxRecDepth 20000
open Go.RowKit
attribute [local go_sem ↓] Go.wp_at_zero Go.wp_at_succ

theorem rowTogether_join (V F : Int) (s : Option Addr) (c : List Ins) (cap : Nat) (a b : List Gs) (ra : Option Addr) (rac : Nat) (rb : Option Addr) (rbc : Nat) (w : World) (hcd : CodeAt w s c) (ha : GsAt w ra a) (hb : GsAt w rb b) (hl : a.length = b.length) (hl8 : a.length ≤ 1000) (h0 : ckProg V F c = 0) (hga : ∀ g ∈ a, ckGs c g = 0) (hgb : ∀ g ∈ b, ckGs c g = 0)
  (hJ : ∀ (g : Gs) (ss : Option Addr) (gc : Nat) (h : Gs) (st : Option Addr) (hc : Nat) (wx : World), CodeAt wx s c → IntsAt wx ss g.s → g.s.length ≤ gc → gc ≤ maxLen → IntsAt wx st h.s → h.s.length ≤ hc → hc ≤ maxLen → ckGs c g = 0 → ckGs c h = 0 → Calls Tryz.prog 82 #[pv V F s c cap, gv g ss gc, gv h st hc] wx fun e w' => (∃ js jc, e = .returned (.tuple #[gv (togGs joinSp g h) js jc, .int .i64 0]) ∧ IntsAt w' js (togGs joinSp g h).s ∧ (togGs joinSp g h).s.length ≤ jc ∧ jc ≤ maxLen ∧ ∀ a, js = some a → wx.heap.size ≤ a.block) ∧ Below wx.heap.size wx w') :
  Calls Tryz.prog 140 #[pv V F s c cap, .slice ra a.length rac, .slice rb b.length rbc, .func (.func 82) #[] #[]] w fun e w' => RowN w w' e (joinRow (togGs joinSp) a b) ∧ Below w.heap.size w w' := by
 obtain ⟨ti, hi, hz0, hz1, hz2⟩ := info_parts Tryz.info_guess
 obtain ⟨-, -, h60⟩ := ckProg_lim h0
 have B0 : Below w.heap.size w (w.alloc (.cells #[.int .i64 V, .int .i64 F, .slice s c.length cap] 24)) := by go_grown
 have P0 := PrAt.new w V F s c cap
 have z01 : w.heap.size ≤ (w.alloc (.cells #[.int .i64 V, .int .i64 F, .slice s c.length cap] 24)).heap.size := by simp
 have HL := hideH hl
 have HGA := hideH hga
 have HGB := hideH hgb
 have HA := hideH ha
 have HB := hideH hb
 have HCD := hideH hcd
 have HJ := hideH hJ
 have H0 := hideH h0
 have HCL := hideH cloneP_any
 clear hl hga hgb ha hb hcd hJ h0
 go_enter Tryz.func140, Tryz.ntmps140
 go_upto_region 1 with fail
 generalize w.alloc (.cells #[.int .i64 V, .int .i64 F, .slice s c.length cap] 24) = w1 at *
 go_wp2
 go_loopw [9, 14] (fun v i wr => ∃ (k : Nat) (rs : Option Addr) (rc : Nat) (l : List Gc), k ≤ a.length ∧ i = .int .i64 k ∧ v = .slice rs l.length rc ∧ Below w1.heap.size w1 wr ∧ SRow wr w1.heap.size (.slice rs l.length rc) l ∧ Hid (l.map Gc.g = joinRow (togGs joinSp) (a.take k) (b.take k))) (fun _ i _ => a.length - (intOf i).toNat)
 case atStart => exact ⟨0, none, 0, [], Nat.zero_le _, rfl, rfl, Below.refl _ _, SRow.nil _ _, rfl⟩
 case round =>
  obtain ⟨k, rs, rc, l, hk, rfl, rfl, hbr, SR, HE⟩ := hrel
  have LL : Hid (l.length = k) := by
   show _ = _
   have h1 := congrArg List.length HE.out
   have h2 := HL.out
   unfold joinRow at h1
   rw [List.length_map, List.length_zipWith, List.length_take, List.length_take] at h1
   omega
  have LR := B0.trans (hbr.mono B0.size)
  by_cases hlt : k < a.length
  ·have n0 : (0 : Int) ≤ (k : Int) := by omega
   have n1 : (k : Int) < (a.length : Int) := by omega
   have hlt' : k < b.length := by have := HL.out; omega
   have n2 : (k : Int) < (b.length : Int) := by omega
   obtain ⟨b1, o1, e1, ss1, g1, G1, I1, k1, m1⟩ := (HA.out.below LR (Nat.le_refl _)) k hlt
   obtain ⟨b2, o2, e2, ss2, g2, G2, J1, k2, m2⟩ := (HB.out.below LR (Nat.le_refl _)) k hlt'
   subst e1 e2
   have zb2 : b2 < w.heap.size := gs_low HB.out k hlt'
   have hRa := HGA.out _ (List.getElem_mem hlt)
   have hRb := HGB.out _ (List.getElem_mem hlt')
   obtain ⟨⟨q0, q1, q2, q3, q4, q5, q6⟩, qz⟩ := id G1
   have Q4 := GuAt.new wr a[k] ss1 g1
   have F4 : ∀ j, (wr.alloc (.cells #[.bool a[k].n, .bool a[k].sp.n, .int .i64 a[k].sp.lo, .int .i64 a[k].sp.hi, .bool a[k].t, .bool a[k].f, .slice ss1 a[k].s.length g1] 61)).frozen? ⟨wr.heap.size, j, none⟩ = false := fun j => by simp [go_sem]
   have hb4 : Below wr.heap.size wr (wr.alloc (.cells #[.bool a[k].n, .bool a[k].sp.n, .int .i64 a[k].sp.lo, .int .i64 a[k].sp.hi, .bool a[k].t, .bool a[k].f, .slice ss1 a[k].s.length g1] 61)) := by go_grown
   have I4 := I1.call hb4
   have J4 := J1.call hb4
   have G4 := G2.call hb4
   have hq : wr.heap.size < (wr.alloc (.cells #[.bool a[k].n, .bool a[k].sp.n, .int .i64 a[k].sp.lo, .int .i64 a[k].sp.hi, .bool a[k].t, .bool a[k].f, .slice ss1 a[k].s.length g1] 61)).heap.size := by simp
   go_upto_region 5 with fail
   generalize wr.alloc (.cells #[.bool a[k].n, .bool a[k].sp.n, .int .i64 a[k].sp.lo, .int .i64 a[k].sp.hi, .bool a[k].t, .bool a[k].f, .slice ss1 a[k].s.length g1] 61) = w4 at *
   have hqb : ∃ qb, qb = wr.heap.size := ⟨_, rfl⟩
   obtain ⟨qb, eqb⟩ := hqb
   rw [← eqb] at Q4 F4 hq ⊢
   have EQB := hideH eqb
   clear q0 q1 q2 q3 q4 q5 q6 qz G1 G2 I1 J1 eqb
   have HKZ : Hid (∀ wx, Below w4.heap.size w4 wx → (wx.cell? ⟨qb, 0, none⟩ = some (.bool a[k].n) ∧ wx.cell? ⟨qb, 0 + 1, none⟩ = some (.bool a[k].sp.n) ∧ wx.cell? ⟨qb, 0 + 2, none⟩ = some (.int .i64 a[k].sp.lo) ∧ wx.cell? ⟨qb, 0 + 3, none⟩ = some (.int .i64 a[k].sp.hi) ∧ wx.cell? ⟨qb, 0 + 4, none⟩ = some (.bool a[k].t) ∧ wx.cell? ⟨qb, 0 + 5, none⟩ = some (.bool a[k].f) ∧ wx.cell? ⟨qb, 0 + 6, none⟩ = some (.slice ss1 a[k].s.length g1)) ∧ (wx.cell? ⟨b2, o2 + k * 7, none⟩ = some (.bool b[k].n) ∧ wx.cell? ⟨b2, o2 + k * 7 + 1, none⟩ = some (.bool b[k].sp.n) ∧ wx.cell? ⟨b2, o2 + k * 7 + 2, none⟩ = some (.int .i64 b[k].sp.lo) ∧ wx.cell? ⟨b2, o2 + k * 7 + 3, none⟩ = some (.int .i64 b[k].sp.hi) ∧ wx.cell? ⟨b2, o2 + k * 7 + 4, none⟩ = some (.bool b[k].t) ∧ wx.cell? ⟨b2, o2 + k * 7 + 5, none⟩ = some (.bool b[k].f) ∧ wx.cell? ⟨b2, o2 + k * 7 + 6, none⟩ = some (.slice ss2 b[k].s.length g2))) := fun wx hx => ⟨(Q4.call hx).1, (G4.call hx).1⟩
   have HD : Below w4.heap.size w4 w4.drew := (Below.refl _ _).drew
   refine wp_region_z (S := (fun wx => (wx.cell? ⟨qb, 0, none⟩ = some (.bool a[k].n) ∧ wx.cell? ⟨qb, 0 + 1, none⟩ = some (.bool a[k].sp.n) ∧ wx.cell? ⟨qb, 0 + 2, none⟩ = some (.int .i64 a[k].sp.lo) ∧ wx.cell? ⟨qb, 0 + 3, none⟩ = some (.int .i64 a[k].sp.hi) ∧ wx.cell? ⟨qb, 0 + 4, none⟩ = some (.bool a[k].t) ∧ wx.cell? ⟨qb, 0 + 5, none⟩ = some (.bool a[k].f) ∧ wx.cell? ⟨qb, 0 + 6, none⟩ = some (.slice ss1 a[k].s.length g1)) ∧ (wx.cell? ⟨b2, o2 + k * 7, none⟩ = some (.bool b[k].n) ∧ wx.cell? ⟨b2, o2 + k * 7 + 1, none⟩ = some (.bool b[k].sp.n) ∧ wx.cell? ⟨b2, o2 + k * 7 + 2, none⟩ = some (.int .i64 b[k].sp.lo) ∧ wx.cell? ⟨b2, o2 + k * 7 + 3, none⟩ = some (.int .i64 b[k].sp.hi) ∧ wx.cell? ⟨b2, o2 + k * 7 + 4, none⟩ = some (.bool b[k].t) ∧ wx.cell? ⟨b2, o2 + k * 7 + 5, none⟩ = some (.bool b[k].f) ∧ wx.cell? ⟨b2, o2 + k * 7 + 6, none⟩ = some (.slice ss2 b[k].s.length g2)))) [] (by kernel_rfl) (HKZ.out _ HD) (fun hHeld => ?_)
   refine tZ 0 ?_ ?_;refine sm ?_
   refine tZ 1 ?_ ?_;refine sm ?_
   refine tZ 2 ?_ ?_;refine sm ?_
   refine tZ 3 ?_ ?_;refine sm ?_
   refine tZ 4 ?_ ?_;refine sm ?_
   refine wpAnyZ_one (i := 5) rfl (by kernel_rfl) (fun K hK => ?_)
   go_simp
   go_at_call 132
   refine (isSame_any a[k] ss1 g1 b[k] ss2 g2 _ (I4.call HD) (J4.call HD) (Nat.le_trans k1 m1) (Nat.le_trans k2 m2)).mono ?_
   rintro e w5 ⟨rfl, hb5⟩
   have HB5 : Below w4.heap.size w4 w5 := HD.trans (hb5.mono HD.size)
   go_wp2_with fail
   refine hK.out _ _ (HKZ.out _ HB5) (fun hHeld => ?_)
   clear hK K
   refine sm ?_
   refine wpAnyZ_done (by kernel_rfl) ?_ _
   have Q5 := Q4.call HB5
   have F5 : ∀ j, w5.frozen? ⟨qb, j, none⟩ = false := fun j => by rw [HB5.frozen (by simp only; exact hq)]; exact F4 j
   have I5 := I4.call HB5
   have J5 := J4.call HB5
   have G5 := G4.call HB5
   have hbr5 : Below wr.heap.size wr w5 := hb4.trans (HB5.mono hb4.size)
   have L5 := LR.trans (hbr5.mono LR.size)
   have C5 := HCD.out.below L5 (Nat.le_refl _)
   have z5 : wr.heap.size ≤ w5.heap.size := hbr5.size
   clear Q4 F4 I4 J4 G4 HKZ HD HB5 hb4
   rcases (show sameGs a[k] b[k] = false ∨ sameGs a[k] b[k] = true by cases sameGs a[k] b[k] <;> simp) with hs | hs <;> have HSG := hideH hs <;> rw [hs] <;> clear hs
   ·have P5 := (P0.call (hbr.trans (hbr5.mono hbr.size)))
    have z0w : w.heap.size < w1.heap.size := P0.2
    have z15 : w1.heap.size ≤ w5.heap.size := Nat.le_trans hbr.size z5
    have HKY : Hid (∀ wx, Below w1.heap.size w5 wx → (wx.cell? ⟨w.heap.size, 0, none⟩ = some (.int .i64 V) ∧ wx.cell? ⟨w.heap.size, 1, none⟩ = some (.int .i64 F) ∧ wx.cell? ⟨w.heap.size, 2, none⟩ = some (.slice s c.length cap)) ∧ (wx.cell? ⟨b2, o2 + k * 7, none⟩ = some (.bool b[k].n) ∧ wx.cell? ⟨b2, o2 + k * 7 + 1, none⟩ = some (.bool b[k].sp.n) ∧ wx.cell? ⟨b2, o2 + k * 7 + 2, none⟩ = some (.int .i64 b[k].sp.lo) ∧ wx.cell? ⟨b2, o2 + k * 7 + 3, none⟩ = some (.int .i64 b[k].sp.hi) ∧ wx.cell? ⟨b2, o2 + k * 7 + 4, none⟩ = some (.bool b[k].t) ∧ wx.cell? ⟨b2, o2 + k * 7 + 5, none⟩ = some (.bool b[k].f) ∧ wx.cell? ⟨b2, o2 + k * 7 + 6, none⟩ = some (.slice ss2 b[k].s.length g2))) := fun wx hx => ⟨(P5.low hx z0w).1, (G5.low hx (by omega)).1⟩
    have HE5 : Below w5.heap.size w5 w5.drew := (Below.refl _ _).drew
    go_wp2
    refine wp_region_z (S := (fun wx => (wx.cell? ⟨w.heap.size, 0, none⟩ = some (.int .i64 V) ∧ wx.cell? ⟨w.heap.size, 1, none⟩ = some (.int .i64 F) ∧ wx.cell? ⟨w.heap.size, 2, none⟩ = some (.slice s c.length cap)) ∧ (wx.cell? ⟨b2, o2 + k * 7, none⟩ = some (.bool b[k].n) ∧ wx.cell? ⟨b2, o2 + k * 7 + 1, none⟩ = some (.bool b[k].sp.n) ∧ wx.cell? ⟨b2, o2 + k * 7 + 2, none⟩ = some (.int .i64 b[k].sp.lo) ∧ wx.cell? ⟨b2, o2 + k * 7 + 3, none⟩ = some (.int .i64 b[k].sp.hi) ∧ wx.cell? ⟨b2, o2 + k * 7 + 4, none⟩ = some (.bool b[k].t) ∧ wx.cell? ⟨b2, o2 + k * 7 + 5, none⟩ = some (.bool b[k].f) ∧ wx.cell? ⟨b2, o2 + k * 7 + 6, none⟩ = some (.slice ss2 b[k].s.length g2)))) [] (by kernel_rfl) (HKY.out _ (HE5.mono z15)) (fun hHeld => ?_)
    refine tZ 0 ?_ ?_;refine sm ?_
    refine tZ 1 ?_ ?_;refine sm ?_
    refine tZ 3 ?_ ?_;refine sm ?_
    refine tZ 4 ?_ ?_;refine sm ?_
    refine tZ 5 ?_ ?_;refine sm ?_
    refine tZ 6 ?_ ?_;refine sm ?_
    refine wpAnyZ_one (i := 2) rfl (by kernel_rfl) (fun K hK => ?_)
    have Qd := Q5.drew
    obtain ⟨⟨q0, q1, q2, q3, q4, q5, q6⟩, qz⟩ := id Qd
    simp only [Nat.zero_add] at q0 q1 q2 q3 q4 q5 q6
    go_simp
    refine hK.out _ _ (HKY.out _ (HE5.mono z15)) (fun hHeld => ?_)
    clear hK K q0 q1 q2 q3 q4 q5 q6 qz
    refine sm ?_
    refine wpAnyZ_one (i := 7) rfl (by kernel_rfl) (fun K hK => ?_)
    go_simp
    go_at_call 82
    refine (HJ.out a[k] ss1 g1 b[k] ss2 g2 _ (C5.call HE5) (I5.call HE5) k1 m1 (J5.call HE5) k2 m2 hRa hRb).mono ?_
    rintro e w6 ⟨⟨js, jc, rfl, HI6, HJ1, HJ2, HF7⟩, hb6⟩
    have HB6 : Below w5.heap.size w5 w6 := HE5.trans (hb6.mono HE5.size)
    go_wp2_with fail
    refine hK.out _ _ (HKY.out _ (HB6.mono z15)) (fun hHeld => ?_)
    clear hK K
    refine sm ?_
    refine tZ 8 ?_ ?_;refine sm ?_
    refine tZ 9 ?_ ?_;refine sm ?_
    refine tZ 10 ?_ ?_;refine sm ?_
    refine wpAnyZ_one (i := 11) rfl (by kernel_rfl) (fun K hK => ?_)
    have Q6 := Q5.call HB6
    have F6 : ∀ j, w6.frozen? ⟨qb, j, none⟩ = false := fun j => by rw [HB6.frozen (by simp only; exact Q5.2)]; exact F5 j
    obtain ⟨⟨q0, q1, q2, q3, q4, q5, q6⟩, qz⟩ := id Q6
    simp only [Nat.zero_add] at q0 q1 q2 q3 q4 q5 q6
    have f0 := F6 0
    have f1 := F6 1
    have f2 := F6 2
    have f3 := F6 3
    have f4 := F6 4
    have f5 := F6 5
    have f6 := F6 6
    go_simp
    have HBC : Below w1.heap.size w5 (((((((w6.setCell ⟨qb, 0, none⟩ (.bool (togGs joinSp a[k] b[k]).n)).setCell ⟨qb, 1, none⟩ (.bool (togGs joinSp a[k] b[k]).sp.n)).setCell ⟨qb, 2, none⟩ (.int .i64 (togGs joinSp a[k] b[k]).sp.lo)).setCell ⟨qb, 3, none⟩ (.int .i64 (togGs joinSp a[k] b[k]).sp.hi)).setCell ⟨qb, 4, none⟩ (.bool (togGs joinSp a[k] b[k]).t)).setCell ⟨qb, 5, none⟩ (.bool (togGs joinSp a[k] b[k]).f)).setCell ⟨qb, 6, none⟩ (.slice js (togGs joinSp a[k] b[k]).s.length jc)) := ((((((((HB6.mono z15)).setCell (by simp only; have := EQB.out; have := hbr.size; omega) _).setCell (by simp only; have := EQB.out; have := hbr.size; omega) _).setCell (by simp only; have := EQB.out; have := hbr.size; omega) _).setCell (by simp only; have := EQB.out; have := hbr.size; omega) _).setCell (by simp only; have := EQB.out; have := hbr.size; omega) _).setCell (by simp only; have := EQB.out; have := hbr.size; omega) _).setCell (by simp only; have := EQB.out; have := hbr.size; omega) _
    refine hK.out _ _ (HKY.out _ HBC) (fun hHeld => ?_)
    clear hK K HBC
    refine sm ?_
    refine wpAnyZ_done (by kernel_rfl) ?_ _
    have hch : ∀ bb, bb ≠ qb → (((((((w6.setCell ⟨qb, 0, none⟩ (.bool (togGs joinSp a[k] b[k]).n)).setCell ⟨qb, 1, none⟩ (.bool (togGs joinSp a[k] b[k]).sp.n)).setCell ⟨qb, 2, none⟩ (.int .i64 (togGs joinSp a[k] b[k]).sp.lo)).setCell ⟨qb, 3, none⟩ (.int .i64 (togGs joinSp a[k] b[k]).sp.hi)).setCell ⟨qb, 4, none⟩ (.bool (togGs joinSp a[k] b[k]).t)).setCell ⟨qb, 5, none⟩ (.bool (togGs joinSp a[k] b[k]).f)).setCell ⟨qb, 6, none⟩ (.slice js (togGs joinSp a[k] b[k]).s.length jc)).heap[bb]? = w6.heap[bb]? := fun bb hbb => by rw [Below.heap_setCell _ _ _ _ hbb, Below.heap_setCell _ _ _ _ hbb, Below.heap_setCell _ _ _ _ hbb, Below.heap_setCell _ _ _ _ hbb, Below.heap_setCell _ _ _ _ hbb, Below.heap_setCell _ _ _ _ hbb, Below.heap_setCell _ _ _ _ hbb]
    have hcz : w6.heap.size ≤ (((((((w6.setCell ⟨qb, 0, none⟩ (.bool (togGs joinSp a[k] b[k]).n)).setCell ⟨qb, 1, none⟩ (.bool (togGs joinSp a[k] b[k]).sp.n)).setCell ⟨qb, 2, none⟩ (.int .i64 (togGs joinSp a[k] b[k]).sp.lo)).setCell ⟨qb, 3, none⟩ (.int .i64 (togGs joinSp a[k] b[k]).sp.hi)).setCell ⟨qb, 4, none⟩ (.bool (togGs joinSp a[k] b[k]).t)).setCell ⟨qb, 5, none⟩ (.bool (togGs joinSp a[k] b[k]).f)).setCell ⟨qb, 6, none⟩ (.slice js (togGs joinSp a[k] b[k]).s.length jc)).heap.size := by simp [World.setCell]
    have G7 : GuAt (((((((w6.setCell ⟨qb, 0, none⟩ (.bool (togGs joinSp a[k] b[k]).n)).setCell ⟨qb, 1, none⟩ (.bool (togGs joinSp a[k] b[k]).sp.n)).setCell ⟨qb, 2, none⟩ (.int .i64 (togGs joinSp a[k] b[k]).sp.lo)).setCell ⟨qb, 3, none⟩ (.int .i64 (togGs joinSp a[k] b[k]).sp.hi)).setCell ⟨qb, 4, none⟩ (.bool (togGs joinSp a[k] b[k]).t)).setCell ⟨qb, 5, none⟩ (.bool (togGs joinSp a[k] b[k]).f)).setCell ⟨qb, 6, none⟩ (.slice js (togGs joinSp a[k] b[k]).s.length jc)) qb 0 (togGs joinSp a[k] b[k]) js jc := by
     refine ⟨?_, by simpa [World.setCell] using qz⟩
     simp [go_sem, q0, q1, q2, q3, q4, q5, q6]
    have HB7 : Below wr.heap.size wr (((((((w6.setCell ⟨qb, 0, none⟩ (.bool (togGs joinSp a[k] b[k]).n)).setCell ⟨qb, 1, none⟩ (.bool (togGs joinSp a[k] b[k]).sp.n)).setCell ⟨qb, 2, none⟩ (.int .i64 (togGs joinSp a[k] b[k]).sp.lo)).setCell ⟨qb, 3, none⟩ (.int .i64 (togGs joinSp a[k] b[k]).sp.hi)).setCell ⟨qb, 4, none⟩ (.bool (togGs joinSp a[k] b[k]).t)).setCell ⟨qb, 5, none⟩ (.bool (togGs joinSp a[k] b[k]).f)).setCell ⟨qb, 6, none⟩ (.slice js (togGs joinSp a[k] b[k]).s.length jc)) := (((((((hbr5.trans (HB6.mono z5)).setCell (by simp only; have := EQB.out; omega) _).setCell (by simp only; have := EQB.out; omega) _).setCell (by simp only; have := EQB.out; omega) _).setCell (by simp only; have := EQB.out; omega) _).setCell (by simp only; have := EQB.out; omega) _).setCell (by simp only; have := EQB.out; omega) _).setCell (by simp only; have := EQB.out; omega) _
    have hqq : qb < w5.heap.size := Q5.2
    have HI7 : IntsAt (((((((w6.setCell ⟨qb, 0, none⟩ (.bool (togGs joinSp a[k] b[k]).n)).setCell ⟨qb, 1, none⟩ (.bool (togGs joinSp a[k] b[k]).sp.n)).setCell ⟨qb, 2, none⟩ (.int .i64 (togGs joinSp a[k] b[k]).sp.lo)).setCell ⟨qb, 3, none⟩ (.int .i64 (togGs joinSp a[k] b[k]).sp.hi)).setCell ⟨qb, 4, none⟩ (.bool (togGs joinSp a[k] b[k]).t)).setCell ⟨qb, 5, none⟩ (.bool (togGs joinSp a[k] b[k]).f)).setCell ⟨qb, 6, none⟩ (.slice js (togGs joinSp a[k] b[k]).s.length jc)) js (togGs joinSp a[k] b[k]).s := ints_keep HI6 HF7 (fun bb hbb => hch bb (by have h9 : w5.drew.heap.size = w5.heap.size := rfl; omega)) hcz
    have zwd : wr.heap.size ≤ w5.drew.heap.size := z5
    clear q0 q1 q2 q3 q4 q5 q6 qz f0 f1 f2 f3 f4 f5 f6 F6 Q6 hch hcz
    generalize (((((((w6.setCell ⟨qb, 0, none⟩ (.bool (togGs joinSp a[k] b[k]).n)).setCell ⟨qb, 1, none⟩ (.bool (togGs joinSp a[k] b[k]).sp.n)).setCell ⟨qb, 2, none⟩ (.int .i64 (togGs joinSp a[k] b[k]).sp.lo)).setCell ⟨qb, 3, none⟩ (.int .i64 (togGs joinSp a[k] b[k]).sp.hi)).setCell ⟨qb, 4, none⟩ (.bool (togGs joinSp a[k] b[k]).t)).setCell ⟨qb, 5, none⟩ (.bool (togGs joinSp a[k] b[k]).f)).setCell ⟨qb, 6, none⟩ (.slice js (togGs joinSp a[k] b[k]).s.length jc)) = w7 at *
    have S7 := SR.call HB7
    obtain ⟨⟨q0, q1, q2, q3, q4, q5, q6⟩, qz⟩ := id G7
    simp only [Nat.zero_add] at q0 q1 q2 q3 q4 q5 q6
    have hb8 : Below w7.heap.size w7 (w7.alloc (.cells #[.bool (togGs joinSp a[k] b[k]).n, .bool (togGs joinSp a[k] b[k]).sp.n, .int .i64 (togGs joinSp a[k] b[k]).sp.lo, .int .i64 (togGs joinSp a[k] b[k]).sp.hi, .bool (togGs joinSp a[k] b[k]).t, .bool (togGs joinSp a[k] b[k]).f, .slice js (togGs joinSp a[k] b[k]).s.length jc] 61)) := by go_grown
    have S8 := S7.call hb8
    have z17 : w1.heap.size ≤ w7.heap.size := Nat.le_trans hbr.size HB7.size
    have GX : GcIn (fun b => w1.heap.size ≤ b ∧ (Value.slice rs l.length rc).ownBlock ≠ some b) (w7.alloc (.cells #[.bool (togGs joinSp a[k] b[k]).n, .bool (togGs joinSp a[k] b[k]).sp.n, .int .i64 (togGs joinSp a[k] b[k]).sp.lo, .int .i64 (togGs joinSp a[k] b[k]).sp.hi, .bool (togGs joinSp a[k] b[k]).t, .bool (togGs joinSp a[k] b[k]).f, .slice js (togGs joinSp a[k] b[k]).s.length jc] 61)) ⟨(togGs joinSp a[k] b[k]), js, jc⟩ := joined_in HI7 HJ1 HJ2 HF7 hbr.size (fun e => (ownsI_lt SR.1 e).1) hb8 zwd
    go_wp2_with (at_builtin; refine wpList_append_any _ rfl _ _ 25 rfl w1.heap.size 61 ti (.agg #[.bool false, .bool false, .int .i64 0, .int .i64 0, .bool false, .bool false, .slice none 0 0]) 7 64 Tryz.underlying25 hi hz0 hz1 hz2 rfl (by decide) _ _ _ rfl S8.1 (some ⟨w7.heap.size, 0, none⟩) 1 1 (gcCells ⟨(togGs joinSp a[k] b[k]), js, jc⟩) rfl rfl (fun h => by cases h) ?qa2 (gcCells_one _) ?qa4 ?qa5 ?qa6 ?_)
    (try (case qa2 => exact news7 w7 ⟨(togGs joinSp a[k] b[k]), js, jc⟩ #[.bool (togGs joinSp a[k] b[k]).n, .bool (togGs joinSp a[k] b[k]).sp.n, .int .i64 (togGs joinSp a[k] b[k]).sp.lo, .int .i64 (togGs joinSp a[k] b[k]).sp.hi, .bool (togGs joinSp a[k] b[k]).t, .bool (togGs joinSp a[k] b[k]).f, .slice js (togGs joinSp a[k] b[k]).s.length jc] _ rfl))
    case qa4 => unfold maxLen; have := LL.out; omega
    case qa5 => have := LL.out; omega
    (try (case qa6 => first | omega | (rw [World.size_alloc]; omega) | (simp; omega) | simp))
    intro v' w9 hown hgrow hat
    have S9 := S8.grown (x := ⟨(togGs joinSp a[k] b[k]), js, jc⟩) GX hown hgrow (by rw [World.size_alloc]; exact hat)
    have hb9 : Below w1.heap.size w1 w9 := ((hbr.trans (HB7.mono hbr.size)).alloc z17 _).grown hgrow (by simp; omega) (fun k hk => (ownsI_lt S8.1 hk).2)
    obtain ⟨rs', rc', rfl, -, -, -⟩ := S9.in
    clear hown hgrow hat S8 S7 GX q0 q1 q2 q3 q4 q5 q6 qz hb8
    go_wp2
    go_roundw
    case rel => exact ⟨k + 1, rs', rc', l ++ [⟨(togGs joinSp a[k] b[k]), js, jc⟩], by omega, by go_num, by first | rfl | (rw [List.length_append]; rfl), hb9, S9, by show _ = _; rw [List.map_append, HE.out, joinRow_take _ a b k hlt hlt']; rfl⟩
    case measure => simp [intOf]; omega
   ·have ES : Hid ((togGs joinSp a[k] b[k]) = a[k]) := by
     show _ = _
     rw [← sameGs_iff.1 HSG.out]
     exact tog_self joinSp_self h60 hRa
    obtain ⟨⟨q0, q1, q2, q3, q4, q5, q6⟩, qz⟩ := id Q5
    simp only [Nat.zero_add] at q0 q1 q2 q3 q4 q5 q6
    have l60 := rising_len (ckGs_sites h60 hRa).2 (ckGs_sites h60 hRa).1
    go_wp2_with (go_at_call 125; fail)
    refine (HCL.out ss1 g1 a[k].s _ (by omega) I5).mono ?_
    rintro e w6 ⟨⟨js, jc, rfl, HI6, HJ1, HJ2, HF7⟩, hb6⟩
    clear q0 q1 q2 q3 q4 q5 q6 qz
    have Q6 := Q5.call hb6
    obtain ⟨⟨q0, q1, q2, q3, q4, q5, q6⟩, qz⟩ := id Q6
    simp only [Nat.zero_add] at q0 q1 q2 q3 q4 q5 q6
    have f6 : w6.frozen? ⟨qb, 6, none⟩ = false := by rw [hb6.frozen (by simp only; exact Q5.2)]; exact F5 6
    have G7 := Q6.put6 (js := js) (jc := jc)
    have HB7 : Below wr.heap.size wr (w6.setCell ⟨qb, 6, none⟩ (.slice js a[k].s.length jc)) := (hbr5.trans (hb6.mono z5)).setCell (by simp only; have := EQB.out; omega) _
    have hqq : qb < w5.heap.size := Q5.2
    have HI7 : IntsAt (w6.setCell ⟨qb, 6, none⟩ (.slice js a[k].s.length jc)) js a[k].s := ints_keep HI6 HF7 (fun bb hbb => Below.heap_setCell _ _ _ _ (by simp only; omega)) (by simp [World.setCell])
    have zwd : wr.heap.size ≤ w5.heap.size := z5
    go_upto_region 8 with fail
    clear q0 q1 q2 q3 q4 q5 q6 qz f6
    generalize w6.setCell ⟨qb, 6, none⟩ (.slice js a[k].s.length jc) = w7 at *
    have S7 := SR.call HB7
    obtain ⟨⟨q0, q1, q2, q3, q4, q5, q6⟩, qz⟩ := id G7
    simp only [Nat.zero_add] at q0 q1 q2 q3 q4 q5 q6
    have hb8 : Below w7.heap.size w7 (w7.alloc (.cells #[.bool a[k].n, .bool a[k].sp.n, .int .i64 a[k].sp.lo, .int .i64 a[k].sp.hi, .bool a[k].t, .bool a[k].f, .slice js a[k].s.length jc] 61)) := by go_grown
    have S8 := S7.call hb8
    have z17 : w1.heap.size ≤ w7.heap.size := Nat.le_trans hbr.size HB7.size
    have GX : GcIn (fun b => w1.heap.size ≤ b ∧ (Value.slice rs l.length rc).ownBlock ≠ some b) (w7.alloc (.cells #[.bool a[k].n, .bool a[k].sp.n, .int .i64 a[k].sp.lo, .int .i64 a[k].sp.hi, .bool a[k].t, .bool a[k].f, .slice js a[k].s.length jc] 61)) ⟨a[k], js, jc⟩ := joined_in HI7 HJ1 HJ2 HF7 hbr.size (fun e => (ownsI_lt SR.1 e).1) hb8 zwd
    go_wp2_with (at_builtin; refine wpList_append_any _ rfl _ _ 25 rfl w1.heap.size 61 ti (.agg #[.bool false, .bool false, .int .i64 0, .int .i64 0, .bool false, .bool false, .slice none 0 0]) 7 64 Tryz.underlying25 hi hz0 hz1 hz2 rfl (by decide) _ _ _ rfl S8.1 (some ⟨w7.heap.size, 0, none⟩) 1 1 (gcCells ⟨a[k], js, jc⟩) rfl rfl (fun h => by cases h) ?qa2 (gcCells_one _) ?qa4 ?qa5 ?qa6 ?_)
    (try (case qa2 => exact news7 w7 ⟨a[k], js, jc⟩ #[.bool a[k].n, .bool a[k].sp.n, .int .i64 a[k].sp.lo, .int .i64 a[k].sp.hi, .bool a[k].t, .bool a[k].f, .slice js a[k].s.length jc] _ rfl))
    case qa4 => unfold maxLen; have := LL.out; omega
    case qa5 => have := LL.out; omega
    (try (case qa6 => first | omega | (rw [World.size_alloc]; omega) | (simp; omega) | simp))
    intro v' w9 hown hgrow hat
    have S9 := S8.grown (x := ⟨a[k], js, jc⟩) GX hown hgrow (by rw [World.size_alloc]; exact hat)
    have hb9 : Below w1.heap.size w1 w9 := ((hbr.trans (HB7.mono hbr.size)).alloc z17 _).grown hgrow (by simp; omega) (fun k hk => (ownsI_lt S8.1 hk).2)
    obtain ⟨rs', rc', rfl, -, -, -⟩ := S9.in
    clear hown hgrow hat S8 S7 GX q0 q1 q2 q3 q4 q5 q6 qz hb8
    go_wp2
    go_roundw
    case rel => exact ⟨k + 1, rs', rc', l ++ [⟨a[k], js, jc⟩], by omega, by go_num, by first | rfl | (rw [List.length_append]; rfl), hb9, S9, by show _ = _; rw [List.map_append, HE.out, joinRow_take _ a b k hlt hlt']; rw [ES.out]; rfl⟩
    case measure => simp [intOf]; omega
  ·have n1 : ¬ (k : Int) < (a.length : Int) := by omega
   have et1 : a.take k = a := List.take_of_length_le (by omega)
   have et2 : b.take k = b := List.take_of_length_le (by have := HL.out; omega)
   have HEE : Hid (l.map Gc.g = joinRow (togGs joinSp) a b) := by show _ = _; rw [HE.out, et1, et2]
   clear HE et1 et2
   go_wp2
   go_ret
   exact ⟨⟨rs, rc, l, rfl, HEE, ⟨ownsI_lower SR.1 z01, fun x hx => ⟨(SR.2 x hx).1.mono fun b hb _ => ⟨Nat.le_trans z01 hb.1, hb.2⟩, (SR.2 x hx).2⟩⟩⟩, LR⟩
end
section
set_option maxHeartbeats 2000000
set_option maxRecDepth 100000
open Go.RowKit
attribute [local go_sem ↓] Go.wp_at_zero Go.wp_at_succ

theorem prf_fd3069 {p : Prop} (h : p := by
 have B0 : Below w.heap.size w ((((w.alloc (.cells #[.int .i64 V, .int .i64 F, .slice s c.length cap] 24)).alloc (.cells #[.bool x.none, .slice vs1 x.vars.length vc1, .slice fs1 x.flds.length fc1] 28)).alloc (.cells #[.bool y.none, .slice vs2 y.vars.length vc2, .slice fs2 y.flds.length fc2] 28)).alloc (.cells #[.bool false, .slice none 0 0, .slice none 0 0] 28)) := by go_grown
 have P0 := (PrAt.new w V F s c cap).call (w' := ((((w.alloc (.cells #[.int .i64 V, .int .i64 F, .slice s c.length cap] 24)).alloc (.cells #[.bool x.none, .slice vs1 x.vars.length vc1, .slice fs1 x.flds.length fc1] 28)).alloc (.cells #[.bool y.none, .slice vs2 y.vars.length vc2, .slice fs2 y.flds.length fc2] 28)).alloc (.cells #[.bool false, .slice none 0 0, .slice none 0 0] 28))) (by go_grown)
 have X0 := (XAt.new (w.alloc (.cells #[.int .i64 V, .int .i64 F, .slice s c.length cap] 24)) x vs1 vc1 fs1 fc1).call (w' := ((((w.alloc (.cells #[.int .i64 V, .int .i64 F, .slice s c.length cap] 24)).alloc (.cells #[.bool x.none, .slice vs1 x.vars.length vc1, .slice fs1 x.flds.length fc1] 28)).alloc (.cells #[.bool y.none, .slice vs2 y.vars.length vc2, .slice fs2 y.flds.length fc2] 28)).alloc (.cells #[.bool false, .slice none 0 0, .slice none 0 0] 28))) (by go_grown)
 have Y0 := (XAt.new ((w.alloc (.cells #[.int .i64 V, .int .i64 F, .slice s c.length cap] 24)).alloc (.cells #[.bool x.none, .slice vs1 x.vars.length vc1, .slice fs1 x.flds.length fc1] 28)) y vs2 vc2 fs2 fc2).call (w' := ((((w.alloc (.cells #[.int .i64 V, .int .i64 F, .slice s c.length cap] 24)).alloc (.cells #[.bool x.none, .slice vs1 x.vars.length vc1, .slice fs1 x.flds.length fc1] 28)).alloc (.cells #[.bool y.none, .slice vs2 y.vars.length vc2, .slice fs2 y.flds.length fc2] 28)).alloc (.cells #[.bool false, .slice none 0 0, .slice none 0 0] 28))) (by go_grown)
 have Z0 := X3.new (((w.alloc (.cells #[.int .i64 V, .int .i64 F, .slice s c.length cap] 24)).alloc (.cells #[.bool x.none, .slice vs1 x.vars.length vc1, .slice fs1 x.flds.length fc1] 28)).alloc (.cells #[.bool y.none, .slice vs2 y.vars.length vc2, .slice fs2 y.flds.length fc2] 28)) 28 (.bool false) (.slice none 0 0) (.slice none 0 0)
 rw [World.size_alloc] at X0
 rw [World.size_alloc, World.size_alloc] at Y0
 rw [World.size_alloc, World.size_alloc, World.size_alloc] at Z0
 have C0 := hcd.below B0 (Nat.le_refl _)
 have PX := hx.below B0 (Nat.le_refl _)
 have PY := hy.below B0 (Nat.le_refl _)
 have HC := hideH (checkAllP_any V F s c cap (some ⟨((((w.alloc (.cells #[.int .i64 V, .int .i64 F, .slice s c.length cap] 24)).alloc (.cells #[.bool x.none, .slice vs1 x.vars.length vc1, .slice fs1 x.flds.length fc1] 28)).alloc (.cells #[.bool y.none, .slice vs2 y.vars.length vc2, .slice fs2 y.flds.length fc2] 28)).alloc (.cells #[.bool false, .slice none 0 0, .slice none 0 0] 28)).heap.size, 0, none⟩) [x, y] 2 (((((w.alloc (.cells #[.int .i64 V, .int .i64 F, .slice s c.length cap] 24)).alloc (.cells #[.bool x.none, .slice vs1 x.vars.length vc1, .slice fs1 x.flds.length fc1] 28)).alloc (.cells #[.bool y.none, .slice vs2 y.vars.length vc2, .slice fs2 y.flds.length fc2] 28)).alloc (.cells #[.bool false, .slice none 0 0, .slice none 0 0] 28)).alloc (.cells #[.bool x.none, .slice vs1 x.vars.length vc1, .slice fs1 x.flds.length fc1, .bool y.none, .slice vs2 y.vars.length vc2, .slice fs2 y.flds.length fc2] 28)) (C0.call (by go_grown)) (XsAt.new2 ((((w.alloc (.cells #[.int .i64 V, .int .i64 F, .slice s c.length cap] 24)).alloc (.cells #[.bool x.none, .slice vs1 x.vars.length vc1, .slice fs1 x.flds.length fc1] 28)).alloc (.cells #[.bool y.none, .slice vs2 y.vars.length vc2, .slice fs2 y.flds.length fc2] 28)).alloc (.cells #[.bool false, .slice none 0 0, .slice none 0 0] 28)) x vs1 vc1 fs1 fc1 y vs2 vc2 fs2 fc2 PX h1 h2 PY h3 h4) (by simp))
 have hbz : Below ((((w.alloc (.cells #[.int .i64 V, .int .i64 F, .slice s c.length cap] 24)).alloc (.cells #[.bool x.none, .slice vs1 x.vars.length vc1, .slice fs1 x.flds.length fc1] 28)).alloc (.cells #[.bool y.none, .slice vs2 y.vars.length vc2, .slice fs2 y.flds.length fc2] 28)).alloc (.cells #[.bool false, .slice none 0 0, .slice none 0 0] 28)).heap.size ((((w.alloc (.cells #[.int .i64 V, .int .i64 F, .slice s c.length cap] 24)).alloc (.cells #[.bool x.none, .slice vs1 x.vars.length vc1, .slice fs1 x.flds.length fc1] 28)).alloc (.cells #[.bool y.none, .slice vs2 y.vars.length vc2, .slice fs2 y.flds.length fc2] 28)).alloc (.cells #[.bool false, .slice none 0 0, .slice none 0 0] 28)) (((((w.alloc (.cells #[.int .i64 V, .int .i64 F, .slice s c.length cap] 24)).alloc (.cells #[.bool x.none, .slice vs1 x.vars.length vc1, .slice fs1 x.flds.length fc1] 28)).alloc (.cells #[.bool y.none, .slice vs2 y.vars.length vc2, .slice fs2 y.flds.length fc2] 28)).alloc (.cells #[.bool false, .slice none 0 0, .slice none 0 0] 28)).alloc (.cells #[.bool x.none, .slice vs1 x.vars.length vc1, .slice fs1 x.flds.length fc1, .bool y.none, .slice vs2 y.vars.length vc2, .slice fs2 y.flds.length fc2] 28)) := by go_grown
 have e3 : ((((w.alloc (.cells #[.int .i64 V, .int .i64 F, .slice s c.length cap] 24)).alloc (.cells #[.bool x.none, .slice vs1 x.vars.length vc1, .slice fs1 x.flds.length fc1] 28)).alloc (.cells #[.bool y.none, .slice vs2 y.vars.length vc2, .slice fs2 y.flds.length fc2] 28)).alloc (.cells #[.bool false, .slice none 0 0, .slice none 0 0] 28)).heap.size = w.heap.size + 1 + 1 + 1 + 1 := by simp
 have d1 : (ckPics V F c [x, y] != 0) = true := by simpa using h
 have HB := hideH hbz
 generalize ckPics V F c [x, y] = ce at *
 rw [e3] at HC
 clear h hx hy hcd PX PY P0 X0 Y0 C0 hbz
 go_enter Tryz.func113, Tryz.ntmps113
 go_wp2_with (go_at_call 43; fail)
 refine HC.out.mono ?_
 rintro e w1 ⟨rfl, hb1⟩
 have hb01 : Below ((((w.alloc (.cells #[.int .i64 V, .int .i64 F, .slice s c.length cap] 24)).alloc (.cells #[.bool x.none, .slice vs1 x.vars.length vc1, .slice fs1 x.flds.length fc1] 28)).alloc (.cells #[.bool y.none, .slice vs2 y.vars.length vc2, .slice fs2 y.flds.length fc2] 28)).alloc (.cells #[.bool false, .slice none 0 0, .slice none 0 0] 28)).heap.size ((((w.alloc (.cells #[.int .i64 V, .int .i64 F, .slice s c.length cap] 24)).alloc (.cells #[.bool x.none, .slice vs1 x.vars.length vc1, .slice fs1 x.flds.length fc1] 28)).alloc (.cells #[.bool y.none, .slice vs2 y.vars.length vc2, .slice fs2 y.flds.length fc2] 28)).alloc (.cells #[.bool false, .slice none 0 0, .slice none 0 0] 28)) w1 := HB.out.trans (hb1.mono (by first | exact HB.out.size | (simp; omega) | omega))
 have Z1 := Z0.call hb01
 have B1 := B0.trans (hb01.mono B0.size)
 clear HB hb1 hb01 B0 Z0 HC e3
 obtain ⟨⟨z0, z1, z2⟩, zz, zf⟩ := id Z1
 have f0 := zf 0
 have f1 := zf 1
 have f2 := zf 2
 clear zf
 go_wp2
 refine bodyPost_ret (v := .tuple #[.agg #[.bool false, .slice none 0 0, .slice none 0 0], .int .i64 ce]) (by simp [results, Tryz.results113, go_sem, z0, z1, z2]) rfl ⟨rfl, ?_⟩
 exact ((B1.setCell (by simp only; omega) _).setCell (by simp only; omega) _).setCell (by simp only; omega) _) : p := h
theorem together_err_join (V F : Int) (s : Option Addr) (c : List Ins) (cap : Nat) (x : Pic) (vs1 : Option Addr) (vc1 : Nat) (fs1 : Option Addr) (fc1 : Nat) (y : Pic) (vs2 : Option Addr) (vc2 : Nat) (fs2 : Option Addr) (fc2 : Nat) (w : World) (hcd : CodeAt w s c) (hx : PicAt w x vs1 fs1) (h1 : x.vars.length ≤ vc1 ∧ vc1 ≤ maxLen) (h2 : x.flds.length ≤ fc1 ∧ fc1 ≤ maxLen) (hy : PicAt w y vs2 fs2) (h3 : y.vars.length ≤ vc2 ∧ vc2 ≤ maxLen) (h4 : y.flds.length ≤ fc2 ∧ fc2 ≤ maxLen) (h : ckPics V F c [x, y] ≠ 0) :
  Calls Tryz.prog 113 #[pv V F s c cap, xv x vs1 vc1 fs1 fc1, xv y vs2 vc2 fs2 fc2, .func (.func 82) #[] #[]] w fun e w' => e = .returned (.tuple #[.agg #[.bool false, .slice none 0 0, .slice none 0 0], .int .i64 (ckPics V F c [x, y])]) ∧ Below w.heap.size w w' := prf_fd3069
end
end Go.Proofs.YtmapdpcfanecdabGreat
