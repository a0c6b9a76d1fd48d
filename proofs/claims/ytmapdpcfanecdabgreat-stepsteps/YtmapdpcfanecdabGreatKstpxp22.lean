/- The document's own answer: two pictures joined, whole. -/
import Derived.Test.YtmapdpcfanecdabGreatKstpxp20
import Derived.Test.YtmapdpcfanecdabGreatKstpxp21
import Derived.Test.YtmapdpcfanecdabGreatKstpxp08
import Derived.Deep.DeepCutAuto
import Derived.Deep.RegionHeldLaw
import Derived.Test.YtmapdpcfanecdabGreatKstpxp05
import Derived.Test.YtmapdpcfanecdabGreatKstpxp07
import Derived.Deep.RegionHeld
import Derived.WalkKit
import Derived.WalkSpells
import Derived.WalkLawsBesides
import Derived.Handy
set_option linter.unusedSimpArgs false
set_option linter.unusedVariables false
namespace Go.Proofs.YtmapdpcfanecdabGreat
section
set_option maxHeartbeats 16000000
set_option maxRecDepth 20000
open Go.RowKit
attribute [local go_sem ↓] Go.wp_at_zero Go.wp_at_succ

theorem checkPicture_main (f : Nat) (s : Option Addr) (c : List Ins) (cap : Nat) (vars : List Gs) (flds : List (List Gs)) (vs : Option Addr) (vc : Nat) (fs : Option Addr) (fc : Nat) (w : World) (hc : CodeAt w s c) (hP : PicAt w ⟨false, vars, flds⟩ vs fs) (h60 : c.length ≤ 60) (hv8 : vars.length ≤ 8) (hf3 : f ≤ 3) (hfc : flds.length = c.length) (hrow : ∀ r ∈ flds, r.length = f) :
  Calls Tryz.prog 19 #[pv (vars.length : Int) (f : Int) s c cap, xv ⟨false, vars, flds⟩ vs vc fs fc] w fun e w' => e = .returned (.int .i64 (if ckGss c (vars ++ flds.flatten) ≠ 0 then ckGss c (vars ++ flds.flatten) else if strayAt c (fun g => !nothingGs g) 0 flds then 4 else 0)) ∧ Below w.heap.size w w' := by
 have hb0 : Below w.heap.size w ((w.alloc (.cells #[.int .i64 (vars.length : Int), .int .i64 (f : Int), .slice s c.length cap] 24)).alloc (.cells #[.bool false, .slice vs vars.length vc, .slice fs flds.length fc] 28)) := by go_grown
 have P0 := (PrAt.new w (vars.length : Int) (f : Int) s c cap).call (w' := ((w.alloc (.cells #[.int .i64 (vars.length : Int), .int .i64 (f : Int), .slice s c.length cap] 24)).alloc (.cells #[.bool false, .slice vs vars.length vc, .slice fs flds.length fc] 28))) (by go_grown)
 have X0 := XAt.new (w.alloc (.cells #[.int .i64 (vars.length : Int), .int .i64 (f : Int), .slice s c.length cap] 24)) ⟨false, vars, flds⟩ vs vc fs fc
 rw [World.size_alloc] at X0
 simp only at X0
 have hfl : ((flds.length : Int) != (c.length : Int)) = false := by simp; omega
 have hl60 : flds.length ≤ 60 := by omega
 obtain ⟨ti, hi, hz0, hz1, hz2⟩ := info_parts Tryz.info_guess
 have HC0 := hideH (hc.below hb0 (Nat.le_refl _))
 have RW0 := hP.2.below hb0 (Nat.le_refl _)
 have GV0 := hP.1.below hb0 (Nat.le_refl _)
 have HRW := hideH hrow
 clear hP hfc hrow hc
 simp only at RW0 GV0
 have HR : Hid ((if ckGss c (vars ++ flds.flatten) ≠ 0 then ckGss c (vars ++ flds.flatten) else if strayAt c (fun g => !nothingGs g) 0 flds then 4 else 0) = (if ckGss c (vars ++ flds.flatten) ≠ 0 then ckGss c (vars ++ flds.flatten) else if strayAt c (fun g => !nothingGs g) 0 flds then 4 else 0)) := rfl
 generalize hres : (if ckGss c (vars ++ flds.flatten) ≠ 0 then ckGss c (vars ++ flds.flatten) else if strayAt c (fun g => !nothingGs g) 0 flds then 4 else 0) = res at HR ⊢
 have HR : Hid (res = (if ckGss c (vars ++ flds.flatten) ≠ 0 then ckGss c (vars ++ flds.flatten) else if strayAt c (fun g => !nothingGs g) 0 flds then 4 else 0)) := hres.symm
 clear hres
 go_enter Tryz.func19, Tryz.ntmps19
 go_upto_region 7 with fail
 generalize ((w.alloc (.cells #[.int .i64 (vars.length : Int), .int .i64 (f : Int), .slice s c.length cap] 24)).alloc (.cells #[.bool false, .slice vs vars.length vc, .slice fs flds.length fc] 28)) = w1 at *
 have P1 := P0
 have X1 := X0
 have RW := RW0
 have GV := GV0
 have HC1 := HC0
 clear P0 X0 RW0 GV0 HC0 hfl
 go_wp2
 go_loopw [5] (fun i wr => ∃ k : Nat, k ≤ flds.length ∧ i = .int .i64 k ∧ Below w1.heap.size w1 wr) (fun i _ => flds.length - (intOf i).toNat)
 case atStart => exact ⟨0, Nat.zero_le _, rfl, Below.refl _ _⟩
 case round =>
  obtain ⟨k, hk, rfl, hbr⟩ := hrel
  obtain ⟨⟨p0, p1', p2⟩, pz⟩ := id (P1.call hbr)
  obtain ⟨⟨x0, x1, x2⟩, xz, -⟩ := id (X1.call hbr)
  by_cases hlt : k < flds.length
  ·have n0 : (0 : Int) ≤ (k : Int) := by omega
   have n1 : (k : Int) < (flds.length : Int) := by omega
   obtain ⟨p1, q1, rfl, zp1, r1, rc1, C1, k1, m1, -⟩ := RW.below hbr (Nat.le_refl _) k hlt
   have HKZ : Hid (∀ wx, Below wr.heap.size wr wx → wx.cell? ⟨w.heap.size, 1, none⟩ = some (.int .i64 (f : Int)) ∧ wx.cell? ⟨w.heap.size + 1, 2, none⟩ = some (.slice (some ⟨p1, q1, none⟩) flds.length fc) ∧ wx.cell? ⟨p1, q1 + k, none⟩ = some (.slice r1 flds[k].length rc1)) := fun wx hx => ⟨by rw [hx.cell (by simp only; exact pz)]; exact p1', by rw [hx.cell (by simp only; exact xz)]; exact x2, by rw [hx.cell (by simp only; exact zp1)]; exact C1⟩
   have HD : Below wr.heap.size wr wr.drew := (Below.refl _ _).drew
   go_wp2
   refine wp_region_z (S := (fun wx => wx.cell? ⟨w.heap.size, 1, none⟩ = some (.int .i64 (f : Int)) ∧ wx.cell? ⟨w.heap.size + 1, 2, none⟩ = some (.slice (some ⟨p1, q1, none⟩) flds.length fc) ∧ wx.cell? ⟨p1, q1 + k, none⟩ = some (.slice r1 flds[k].length rc1))) [] (by kernel_rfl) (HKZ.out _ HD) (fun hHeld => ?_)
   refine tZ 0 ?_ ?_;refine sm ?_
   refine tZ 1 ?_ ?_;refine sm ?_
   refine tZ 2 ?_ ?_;refine sm ?_
   refine tZ 3 ?_ ?_;refine sm ?_
   refine tZ 4 ?_ ?_;refine sm ?_
   refine tZ 5 ?_ ?_;refine sm ?_
   refine tZ 6 ?_ ?_;refine sm ?_
   refine tZ 7 ?_ ?_;refine sm ?_
   refine tZ 8 ?_ ?_;refine sm ?_
   refine wpAnyZ_done (by kernel_rfl) ?_ _
   have e1 : ((flds[k].length : Int) != (f : Int)) = false := by simp [HRW.out _ (List.getElem_mem hlt)]
   go_wp2
   go_roundw
   case rel => exact ⟨k + 1, by omega, by go_num, hbr.trans (HD.mono hbr.size)⟩
   case measure => simp [intOf]; omega
  ·have n1 : ¬ (k : Int) < (flds.length : Int) := by omega
   have H2 := hbr
   have P2 := P1.call hbr
   have X2 := X1.call hbr
   have RW2 := RW.below hbr (Nat.le_refl _)
   obtain ⟨lv, elv, hnv, hnn, hgv, hlv⟩ := (GV.below hbr (Nat.le_refl _)).gcsTo (Below.refl _ _)
   have HNV := hideH hnv
   have HLV := hideH elv
   have llv : lv.length = vars.length := by rw [← elv, List.length_map]
   have C2' := HC1.out.below hbr (Nat.le_refl _)
   generalize wr = w2 at *
   clear wr P1 X1 RW GV hnv elv HC1 n1
   go_wp2_with (at_builtin; refine wpList_append_any _ rfl _ _ 25 rfl w2.heap.size 61 ti (.agg #[.bool false, .bool false, .int .i64 0, .int .i64 0, .bool false, .bool false, .slice none 0 0]) 7 64 Tryz.underlying25 hi hz0 hz1 hz2 rfl (by decide) _ _ _ rfl (World.ownsRow_made w2 #[] 0 (Nat.le_refl _) (Nat.zero_le _) rfl) vs vars.length vc (rowCells lv) rfl hlv hnn ?qa2 (rowCells_one _) ?qa4 ?qa5 ?qa6 ?_)
   case qa2 => exact fun ad e j u hj => Lib.cell?_alloc_some _ (HNV.out ad e j u hj)
   case qa4 => unfold maxLen; omega
   case qa5 => omega
   (try (case qa6 => simp))
   intro v0 w3 hown hgrow hat
   have hb3 : Below w2.heap.size w2 w3 := ((Below.refl _ w2).alloc (Nat.le_refl _) _).grown hgrow (by simp) (by intro k hk; simp [Value.ownBlock] at hk; omega)
   have CR : CRow w3 w2.heap.size v0 lv := ⟨by rw [llv]; simpa using hown, fun y hy => ⟨(hgv y hy).1.call hb3, (hgv y hy).2⟩⟩
   clear hown hgrow hat HNV hnn hgv hlv p0 p1' p2 pz x0 x1 x2 xz
   go_wp2
   go_loopw [6, 7] (fun v i wy => ∃ (k : Nat) (v' : Value) (l : List Gc), k ≤ flds.length ∧ i = .int .i64 k ∧ v = v' ∧ Below w2.heap.size w2 wy ∧ Hid (l.map Gc.g = vars ++ (flds.take k).flatten) ∧ CRow wy w2.heap.size v' l) (fun _ i _ => flds.length - (intOf i).toNat)
   case atStart => exact ⟨0, _, lv, Nat.zero_le _, rfl, rfl, hb3, by show _ = _; rw [HLV.out]; simp, CR⟩
   case round =>
    obtain ⟨k2, v, l, hk2, rfl, rfl, hby, HE, CL⟩ := hrel
    clear CR hb3
    generalize wr = wy at *
    clear wr
    have ll : l.length = vars.length + k2 * f := by
     have h1 := congrArg List.length HE.out
     rw [List.length_map, List.length_append, flat_len (n := f) (fun r hr => HRW.out r (List.mem_of_mem_take hr)), List.length_take, Nat.min_eq_left hk2] at h1
     exact h1
    have lb : k2 * f ≤ 60 * 3 := Nat.mul_le_mul (by omega) hf3
    have LL := hideH ll
    clear ll
    obtain ⟨⟨x0, x1, x2⟩, xz, -⟩ := id (X2.call hby)
    by_cases hlt2 : k2 < flds.length
    ·have n0 : (0 : Int) ≤ (k2 : Int) := by omega
     have n1 : (k2 : Int) < (flds.length : Int) := by omega
     obtain ⟨p1, q1, rfl, zp1, r1, rc1, C1, k1, m1, J1⟩ := RW2 k2 hlt2
     obtain ⟨lr, elr, hnr, hnnr, hgr, hlr⟩ := J1.gcsTo hby
     have C1' : wy.cell? ⟨p1, q1 + k2, none⟩ = some (.slice r1 flds[k2].length rc1) := by rw [hby.cell (by simp only; exact zp1)]; exact C1
     have hsum : l.length + flds[k2].length ≤ 1000 := by have := LL.out; have := HRW.out _ (List.getElem_mem hlt2); omega
     have HLL : Hid (lr.length = flds[k2].length) := by show _ = _; rw [← elr, List.length_map]
     have HNR := hideH hnr
     have HLR := hideH elr
     clear C1 J1 hnr elr
     go_wp2_with (at_builtin; refine wpList_append_any _ rfl _ _ 25 rfl w2.heap.size 61 ti (.agg #[.bool false, .bool false, .int .i64 0, .int .i64 0, .bool false, .bool false, .slice none 0 0]) 7 64 Tryz.underlying25 hi hz0 hz1 hz2 rfl (by decide) _ _ _ rfl CL.1 r1 flds[k2].length rc1 (rowCells lr) rfl hlr hnnr ?qb2 (rowCells_one _) ?qb4 ?qb5 ?qb6 ?_)
     case qb2 => exact HNR.out
     case qb4 => unfold maxLen; omega
     case qb5 => omega
     (try (case qb6 => exact hby.size))
     intro v1 w5 hown5 hgrow5 hat5
     have hb5 : Below w2.heap.size w2 w5 := hby.grown hgrow5 hby.size (fun k hk => (ownsI_lt CL.1 hk).2)
     have CR5 : CRow w5 w2.heap.size v1 (l ++ lr) := CL.grown hgr (by rw [HLL.out]; exact hown5) hgrow5
     clear hown5 hgrow5 hat5 HNR hnnr hgr hlr x0 x1 x2 xz C1' CL
     go_wp2
     go_roundw
     case rel => exact ⟨k2 + 1, _, l ++ lr, by omega, by go_num, rfl, hb5, by show _ = _; rw [List.map_append, HE.out, HLR.out, flat_take _ _ hlt2, List.append_assoc], CR5⟩
     case measure => simp [intOf]; omega
    ·have n1 : ¬ (k2 : Int) < (flds.length : Int) := by omega
     have et : flds.take k2 = flds := List.take_of_length_le (by omega)
     obtain ⟨va, vb, rfl, kv1, kv2, GA, -⟩ := CL.at
     have HEA : Hid (l.map Gc.g = vars ++ flds.flatten) := by show _ = _; rw [HE.out, et]
     rw [HEA.out] at GA
     have la : l.length = (vars ++ flds.flatten).length := by rw [← HEA.out, List.length_map]
     have ll := LL.out
     rw [la] at ll ⊢
     clear LL
     have P3' := P2.call hby
     have X3 := X2.call hby
     have C2 := C2'.below hby (Nat.le_refl _)
     have RW3 := RW2.below hby (Nat.le_refl _)
     have H3 := H2.trans (hby.mono H2.size)
     clear CL HE HEA et la kv1 P2 X2 C2' RW2 hby
     generalize vars ++ flds.flatten = all at *
     have lal : all.length ≤ 1000 := by omega
     clear ll
     go_wp2
     clear x0 x1 x2 xz
     go_loopw [8] (fun i wz => ∃ k : Nat, k ≤ all.length ∧ i = .int .i64 k ∧ Below wy.heap.size wy wz ∧ Hid (ckGss c all = ckGss c (all.drop k))) (fun i _ => all.length - (intOf i).toNat)
     case atStart => exact ⟨0, Nat.zero_le _, rfl, Below.refl _ _, rfl⟩
     case round =>
      obtain ⟨k3, hk3, rfl, hbz, HK⟩ := hrel
      by_cases hlt3 : k3 < all.length
      ·have n0 : (0 : Int) ≤ (k3 : Int) := by omega
       have n1 : (k3 : Int) < (all.length : Int) := by omega
       obtain ⟨b, off, rfl, ss, gc, GR, IR, hg1, hg2⟩ := GA.below hbz (Nat.le_refl _) k3 hlt3
       have hgl : all[k3].s.length ≤ 9223372036854775807 := by unfold maxLen at hg2; omega
       have HKZ : Hid (∀ wx, Below wr.heap.size wr wx → (wx.cell? ⟨w.heap.size, 0, none⟩ = some (.int .i64 (vars.length : Int)) ∧ wx.cell? ⟨w.heap.size, 1, none⟩ = some (.int .i64 (f : Int)) ∧ wx.cell? ⟨w.heap.size, 2, none⟩ = some (.slice s c.length cap)) ∧ (wx.cell? ⟨b, off + k3 * 7, none⟩ = some (.bool all[k3].n) ∧ wx.cell? ⟨b, off + k3 * 7 + 1, none⟩ = some (.bool all[k3].sp.n) ∧ wx.cell? ⟨b, off + k3 * 7 + 2, none⟩ = some (.int .i64 all[k3].sp.lo) ∧ wx.cell? ⟨b, off + k3 * 7 + 3, none⟩ = some (.int .i64 all[k3].sp.hi) ∧ wx.cell? ⟨b, off + k3 * 7 + 4, none⟩ = some (.bool all[k3].t) ∧ wx.cell? ⟨b, off + k3 * 7 + 5, none⟩ = some (.bool all[k3].f) ∧ wx.cell? ⟨b, off + k3 * 7 + 6, none⟩ = some (.slice ss all[k3].s.length gc))) := fun wx hx => ⟨((P3'.call hbz).call hx).1, (GR.call hx).1⟩
       have HD : Below wr.heap.size wr wr.drew := (Below.refl _ _).drew
       have HS := hideH (ckGss_drop c all k3 hlt3)
       go_wp2
       refine wp_region_z (S := (fun wx => (wx.cell? ⟨w.heap.size, 0, none⟩ = some (.int .i64 (vars.length : Int)) ∧ wx.cell? ⟨w.heap.size, 1, none⟩ = some (.int .i64 (f : Int)) ∧ wx.cell? ⟨w.heap.size, 2, none⟩ = some (.slice s c.length cap)) ∧ (wx.cell? ⟨b, off + k3 * 7, none⟩ = some (.bool all[k3].n) ∧ wx.cell? ⟨b, off + k3 * 7 + 1, none⟩ = some (.bool all[k3].sp.n) ∧ wx.cell? ⟨b, off + k3 * 7 + 2, none⟩ = some (.int .i64 all[k3].sp.lo) ∧ wx.cell? ⟨b, off + k3 * 7 + 3, none⟩ = some (.int .i64 all[k3].sp.hi) ∧ wx.cell? ⟨b, off + k3 * 7 + 4, none⟩ = some (.bool all[k3].t) ∧ wx.cell? ⟨b, off + k3 * 7 + 5, none⟩ = some (.bool all[k3].f) ∧ wx.cell? ⟨b, off + k3 * 7 + 6, none⟩ = some (.slice ss all[k3].s.length gc)))) [] (by kernel_rfl) (HKZ.out _ HD) (fun hHeld => ?_)
       refine tZ 0 ?_ ?_;refine sm ?_
       refine tZ 1 ?_ ?_;refine sm ?_
       refine tZ 2 ?_ ?_;refine sm ?_
       refine tZ 3 ?_ ?_;refine sm ?_
       refine tZ 4 ?_ ?_;refine sm ?_
       refine wpAnyZ_one (i := 5) rfl (by kernel_rfl) (fun K hK => ?_)
       go_simp
       go_at_call 55
       refine (checkGuess_any (vars.length : Int) (f : Int) s c cap all[k3] ss gc _ (C2.call (hbz.trans (HD.mono hbz.size))) h60 (IR.call HD) hgl).mono ?_
       rintro e w5 ⟨rfl, hb5⟩
       have HB5 : Below wr.heap.size wr w5 := HD.trans (hb5.mono HD.size)
       go_wp2_with fail
       refine hK.out _ _ (HKZ.out _ HB5) (fun hHeld => ?_)
       clear hK K
       refine sm ?_
       refine tZ 6 ?_ ?_;refine sm ?_
       refine wpAnyZ_done (by kernel_rfl) ?_ _
       generalize ckGs c all[k3] = ce at *
       by_cases hz : ce = 0
       ·have e1 : (ce != 0) = false := by simpa using hz
        go_wp2
        go_roundw
        case rel => exact ⟨k3 + 1, by omega, by go_num, hbz.trans (HB5.mono hbz.size), by show _ = _; rw [HK.out, HS.out, if_pos hz]⟩
        case measure => simp [intOf]; omega
       ·have e1 : (ce != 0) = true := by simpa using hz
        go_wp2
        go_ret
        refine ⟨ret_int ?_, hb0.trans ((H3.trans ((hbz.trans (HB5.mono hbz.size)).mono H3.size)).mono hb0.size)⟩
        rw [HR.out, HK.out, HS.out, if_neg hz, if_pos hz]
      ·have n1 : ¬ (k3 : Int) < (all.length : Int) := by omega
       have HZ : Hid (ckGss c all = 0) := by show _ = _; rw [HK.out, List.drop_eq_nil_of_le (by omega)]; rfl
       have HR2 : Hid (res = if strayAt c (fun g => !nothingGs g) 0 flds then 4 else 0) := by show _ = _; rw [HR.out, HZ.out]; rfl
       have P4 := P3'.call hbz
       have X4 := X3.call hbz
       have C4 := C2.call hbz
       have RW4 := RW3.below hbz (Nat.le_refl _)
       have H4 := H3.trans (hbz.mono H3.size)
       generalize wr = wz at *
       clear wr HK HR HZ P3' X3 C2 RW3 H3 hbz GA
       obtain ⟨⟨x0, x1, x2⟩, xz, -⟩ := id X4
       go_wp2
       clear x0 x1 x2 xz
       go_loopw [10] (fun i wq => ∃ k : Nat, k ≤ flds.length ∧ i = .int .i64 k ∧ Below wz.heap.size wz wq ∧ Hid (strayAt c (fun g => !nothingGs g) 0 flds = strayAt c (fun g => !nothingGs g) k (flds.drop k))) (fun i _ => flds.length - (intOf i).toNat)
       case atStart => exact ⟨0, Nat.zero_le _, rfl, Below.refl _ _, rfl⟩
       case round =>
        obtain ⟨k4, hk4, rfl, hbq, HT⟩ := hrel
        generalize wr = wq at *
        clear wr
        obtain ⟨⟨x0, x1, x2⟩, xz, -⟩ := id (X4.call hbq)
        obtain ⟨⟨p0, p1', p2⟩, pz⟩ := id (P4.call hbq)
        by_cases hlt4 : k4 < flds.length
        ·have n0 : (0 : Int) ≤ (k4 : Int) := by omega
         have n1 : (k4 : Int) < (flds.length : Int) := by omega
         have HU := hideH (strayAt_step c (fun g => !nothingGs g) flds k4 hlt4)
         go_wp2
         clear x0 x1 x2 xz p0 p1' p2 pz
         go_loopw [11] (fun j wo => ∃ m : Nat, m ≤ f ∧ j = .int .i64 m ∧ Below wz.heap.size wz wo ∧ Hid (strayAt c (fun g => !nothingGs g) 0 flds = ((!isSite c k4 && (flds[k4].drop m).any (fun g => !nothingGs g)) || strayAt c (fun g => !nothingGs g) (k4 + 1) (flds.drop (k4 + 1))))) (fun j _ => f - (intOf j).toNat)
         case atStart => exact ⟨0, Nat.zero_le _, rfl, hbq, by show _ = _; rw [HT.out, HU.out]; rfl⟩
         case round =>
          obtain ⟨m, hm, rfl, hbo, HV⟩ := hrel
          obtain ⟨⟨x0, x1, x2⟩, xz, -⟩ := id (X4.call hbo)
          obtain ⟨⟨p0, p1', p2⟩, pz⟩ := id (P4.call hbo)
          by_cases hltm : m < f
          ·have m0 : (0 : Int) ≤ (m : Int) := by omega
           have m1 : (m : Int) < (f : Int) := by omega
           have hmk : m < flds[k4].length := by have := HRW.out _ (List.getElem_mem hlt4); omega
           have m2 : (m : Int) < (flds[k4].length : Int) := by omega
           have HY : Hid ((flds[k4].drop m).any (fun g => !nothingGs g) = (!nothingGs flds[k4][m] || (flds[k4].drop (m + 1)).any (fun g => !nothingGs g))) := any_drop_stepJ flds[k4] (fun g => !nothingGs g) m hmk
           go_wp2_with (go_at_call 56; fail)
           refine (isSite_any (vars.length : Int) (f : Int) s c cap (k4 : Int) _ (C4.call hbo) h60).mono ?_
           rintro e wp ⟨rfl, hbp⟩
           have hbs := hbo.trans (hbp.mono hbo.size)
           clear x0 x1 x2 xz p0 p1' p2 pz
           rcases (show isSite c (k4 : Int) = false ∨ isSite c (k4 : Int) = true by cases isSite c (k4 : Int) <;> simp) with hs | hs <;> have HSG := hideH hs <;> rw [hs] <;> clear hs
           ·obtain ⟨⟨x0, x1, x2⟩, xz, -⟩ := id (X4.call hbs)
            obtain ⟨p1, q1, rfl, zp1, r1, rc1, C1, k1, mm1, J1⟩ := RW4.below hbs (Nat.le_refl _) k4 hlt4
            obtain ⟨b, off, rfl, ss, gc, GR, IR, hg1, hg2⟩ := J1 m hmk
            obtain ⟨⟨g0, g1, g2, g3, g4, g5, g6⟩, gz⟩ := id GR
            go_wp2_with (go_at_call 28; fail)
            refine (isNothing_any flds[k4][m] ss gc _).mono ?_
            rintro e wn ⟨rfl, hbn⟩
            have hbt := hbs.trans (hbn.mono hbs.size)
            clear x0 x1 x2 xz g0 g1 g2 g3 g4 g5 g6 gz GR IR C1 J1
            rcases (show nothingGs flds[k4][m] = false ∨ nothingGs flds[k4][m] = true by cases nothingGs flds[k4][m] <;> simp) with hn | hn <;> have HNG := hideH hn <;> rw [hn] <;> clear hn
            ·go_wp2
             go_ret
             refine ⟨ret_int ?_, hb0.trans ((H4.trans (hbt.mono H4.size)).mono hb0.size)⟩
             rw [HR2.out, HV.out, HY.out, HSG.out, HNG.out]
             rfl
            ·go_wp2
             go_roundw
             case rel => exact ⟨m + 1, by omega, by go_num, hbt, by show _ = _; rw [HV.out, HY.out, HNG.out]; rfl⟩
             case measure => simp [intOf]; omega
           ·go_wp2
            go_roundw
            case rel => exact ⟨m + 1, by omega, by go_num, hbs, by show _ = _; rw [HV.out, HSG.out]; rfl⟩
            case measure => simp [intOf]; omega
          ·have m1 : ¬ (m : Int) < (f : Int) := by omega
           go_wp2
           go_roundw
           case rel => exact ⟨k4 + 1, by omega, by go_num, hbo, by show _ = _; rw [HV.out, List.drop_eq_nil_of_le (by have := HRW.out _ (List.getElem_mem hlt4); omega)]; simp⟩
           case measure => simp [intOf]; omega
        ·have n1 : ¬ (k4 : Int) < (flds.length : Int) := by omega
         go_wp2
         go_ret
         refine ⟨ret_int ?_, hb0.trans ((H4.trans (hbq.mono H4.size)).mono hb0.size)⟩
         rw [HR2.out, HT.out, List.drop_eq_nil_of_le (by omega)]
         rfl
end
section
set_option maxHeartbeats 4000000
set_option maxRecDepth 10000
open Go.RowKit
attribute [local go_sem ↓] Go.wp_at_zero Go.wp_at_succ

theorem ckProg_lim {V F : Int} {c : List Ins} (h : ckProg V F c = 0) : (1 ≤ V ∧ V ≤ 8) ∧ (0 ≤ F ∧ F ≤ 3) ∧ c.length ≤ 60 := by
 unfold ckProg at h
 split at h
 ·cases h
 ·rename_i h3
  split at h
  ·cases h
  ·rename_i h60
   simp [btw] at h3
   exact ⟨⟨by omega, by omega⟩, ⟨by omega, by omega⟩, by omega⟩
theorem checkPicture_any (V F : Int) (s : Option Addr) (c : List Ins) (cap : Nat) (x : Pic) (vs : Option Addr) (vc : Nat) (fs : Option Addr) (fc : Nat) (w : World) (hc : CodeAt w s c) (hP : PicAt w x vs fs) (h0 : ckProg V F c = 0) :
  Calls Tryz.prog 19 #[pv V F s c cap, xv x vs vc fs fc] w fun e w' => e = .returned (.int .i64 (ckPic V F c x)) ∧ Below w.heap.size w w' := by
 obtain ⟨⟨hV1, hV8⟩, ⟨hF0, hF3⟩, h60⟩ := ckProg_lim h0
 obtain ⟨n, vars, flds⟩ := x
 cases n with
 | true => exact checkPicture_none V F s c cap vars flds vs vc fs fc w
 | false =>
  by_cases h1 : (vars.length : Int) = V
  ·by_cases h2 : flds.length = c.length
   ·by_cases h3 : ∃ r ∈ flds, ¬ (r.length : Int) = F
    ·have e1 : ckPic V F c ⟨false, vars, flds⟩ = 1 := by
      unfold ckPic formedPic
      have : (flds.any fun r => !decide ((r.length : Int) = F)) = true := by
       obtain ⟨r, hr, hne⟩ := h3
       exact List.any_eq_true.2 ⟨r, hr, by simpa using hne⟩
      simp [this]
     rw [e1]
     subst h1
     exact checkPicture_row F s c cap vars flds vs vc fs fc w hP h60 h2 h3
    ·have hr : ∀ r ∈ flds, (r.length : Int) = F := fun r hr => Decidable.not_not.1 fun hne => h3 ⟨r, hr, hne⟩
     obtain ⟨f, rfl⟩ := Int.eq_ofNat_of_zero_le hF0
     have hr' : ∀ r ∈ flds, r.length = f := fun r h => by have := hr r h; omega
     have e1 : ckPic V f c ⟨false, vars, flds⟩ = (if ckGss c (vars ++ flds.flatten) ≠ 0 then ckGss c (vars ++ flds.flatten) else if strayAt c (fun g => !nothingGs g) 0 flds then 4 else 0) := by
      have : (flds.any fun r => !decide ((r.length : Int) = (f : Int))) = false := by
       rw [List.any_eq_false]
       intro r h
       simp [hr r h]
      unfold ckPic formedPic allPic
      simp only [this, h1, h2, decide_true, Bool.not_false, Bool.and_true]
      rfl
     rw [e1]
     subst h1
     exact checkPicture_main f s c cap vars flds vs vc fs fc w hc hP h60 (by omega) (by omega) h2 hr'
   ·have e1 : ckPic V F c ⟨false, vars, flds⟩ = 1 := by
     unfold ckPic formedPic
     simp [h2]
    rw [e1]
    exact checkPicture_flds V F s c cap vars flds vs vc fs fc w h1 h2
  ·have e1 : ckPic V F c ⟨false, vars, flds⟩ = 1 := by
    unfold ckPic formedPic
    simp [h1]
   rw [e1]
   exact checkPicture_vars V F s c cap vars flds vs vc fs fc w h1

/-- A list of pictures behind a slice's address. -/
def XsAt (w : World) (ls : Option Addr) (L : List Pic) : Prop :=
 ∀ i (h : i < L.length), ∃ b off, ls = some ⟨b, off, none⟩ ∧ b < w.heap.size ∧ ∃ vs vc fs fc, (w.cell? ⟨b, off + i * 3, none⟩ = some (.bool L[i].none) ∧ w.cell? ⟨b, off + i * 3 + 1, none⟩ = some (.slice vs L[i].vars.length vc) ∧ w.cell? ⟨b, off + i * 3 + 2, none⟩ = some (.slice fs L[i].flds.length fc)) ∧ PicAt w L[i] vs fs ∧ (L[i].vars.length ≤ vc ∧ vc ≤ maxLen) ∧ (L[i].flds.length ≤ fc ∧ fc ≤ maxLen)
theorem XsAt.below {B : Nat} {w w' : World} {ls : Option Addr} {L : List Pic} (h : XsAt w ls L) (hb : Below B w w') (hB : w.heap.size ≤ B) : XsAt w' ls L := by
 intro i hi
 obtain ⟨b, off, e, hz, vs, vc, fs, fc, ⟨h0, h1, h2⟩, hP, hQ⟩ := h i hi
 exact ⟨b, off, e, Nat.lt_of_lt_of_le hz hb.size, vs, vc, fs, fc, ⟨by rw [hb.cell (by simp only; omega)]; exact h0, by rw [hb.cell (by simp only; omega)]; exact h1, by rw [hb.cell (by simp only; omega)]; exact h2⟩, hP.below hb hB, hQ⟩
theorem ckPicL_drop (V F : Int) (c : List Ins) (L : List Pic) (k : Nat) (h : k < L.length) : ckPicL V F c (L.drop k) = if ckPic V F c L[k] = 0 then ckPicL V F c (L.drop (k + 1)) else ckPic V F c L[k] := by
 rw [List.drop_eq_getElem_cons h]
 rfl

theorem checkPictures_any (V F : Int) (s : Option Addr) (c : List Ins) (cap : Nat) (ls : Option Addr) (L : List Pic) (lc : Nat) (w : World) (hc : CodeAt w s c) (hL : XsAt w ls L) (hl : L.length ≤ 9223372036854775807) :
  Calls Tryz.prog 6 #[pv V F s c cap, .slice ls L.length lc] w fun e w' => e = .returned (.int .i64 (ckPics V F c L)) ∧ Below w.heap.size w w' := by
 have P0 := PrAt.new w V F s c cap
 have B0 : Below w.heap.size w (w.alloc (.cells #[.int .i64 V, .int .i64 F, .slice s c.length cap] 24)) := by go_grown
 have C0 := hc.below B0 (Nat.le_refl _)
 have L0 := hL.below B0 (Nat.le_refl _)
 have HR : Hid (ckPics V F c L = if ckProg V F c = 0 then ckPicL V F c L else ckProg V F c) := rfl
 clear hc hL
 generalize ckPics V F c L = res at HR ⊢
 go_enter Tryz.func6, Tryz.ntmps6
 go_wp2_with (go_at_call 12; fail)
 refine (checkProgram_any V F s cap c _ C0).mono ?_
 rintro e w1 ⟨rfl, hb1⟩
 have P1 := P0.call hb1
 have C1 := C0.call hb1
 have L1 := L0.below hb1 (Nat.le_refl _)
 have B1 : Below w.heap.size w w1 := B0.trans (hb1.mono (by simp))
 clear hb1 P0 C0 L0 B0
 have H60 : Hid (ckProg V F c = 0 → ckProg V F c = 0) := fun h => h
 have HR : Hid (∀ ce, ce = ckProg V F c → res = if ce = 0 then ckPicL V F c L else ce) := fun ce h => by rw [h]; exact HR.out
 have H0 : Hid (∀ ce, ce = ckProg V F c → ce = 0 → ckProg V F c = 0) := fun ce h e => by rw [← h]; exact e
 generalize hcp : ckProg V F c = cp at *
 have HR1 := hideH (HR.out cp rfl)
 have H01 : Hid (cp = 0 → ckProg V F c = 0) := fun e => by rw [hcp]; exact e
 clear HR H0 H60 hcp
 go_wp2
 go_loopw [5, 6] (fun e i wr => ∃ (k : Nat) (ce : Int), k ≤ L.length ∧ i = .int .i64 k ∧ e = .int .i64 ce ∧ PrAt wr w.heap.size V F s c cap ∧ CodeAt wr s c ∧ XsAt wr ls L ∧ Below w.heap.size w wr ∧ Hid (res = if ce = 0 then ckPicL V F c (L.drop k) else ce) ∧ Hid (ce = 0 → ckProg V F c = 0)) (fun _ i _ => L.length - (intOf i).toNat)
 case atStart => exact ⟨0, cp, Nat.zero_le _, rfl, rfl, P1, C1, L1, B1, HR1, H01⟩
 case round =>
  obtain ⟨k, ce, hk, rfl, rfl, PR, CR, LR, BR, HK, HL⟩ := hrel
  clear P1 C1 L1 B1 HR1 H01
  by_cases hlt : k < L.length
  ·have n1 : (k : Int) < (L.length : Int) := by omega
   by_cases hz : ce = 0
   ·subst hz
    have HH0 := hideH (HL.out rfl)
    have HS := hideH (ckPicL_drop V F c L k hlt)
    have HK0 : Hid (res = ckPicL V F c (L.drop k)) := by show _ = _; rw [HK.out, if_pos rfl]
    clear HK HL
    obtain ⟨b, off, rfl, zb, vs, vc, fs, fc, ⟨g0, g1, g2⟩, hP, -⟩ := LR k hlt
    have n0 : (0 : Int) ≤ (k : Int) := by omega
    have HKZ : Hid (∀ wx, Below wr.heap.size wr wx → (wx.cell? ⟨w.heap.size, 0, none⟩ = some (.int .i64 V) ∧ wx.cell? ⟨w.heap.size, 1, none⟩ = some (.int .i64 F) ∧ wx.cell? ⟨w.heap.size, 2, none⟩ = some (.slice s c.length cap)) ∧ (wx.cell? ⟨b, off + k * 3, none⟩ = some (.bool L[k].none) ∧ wx.cell? ⟨b, off + k * 3 + 1, none⟩ = some (.slice vs L[k].vars.length vc) ∧ wx.cell? ⟨b, off + k * 3 + 2, none⟩ = some (.slice fs L[k].flds.length fc))) := fun wx hx => ⟨(PR.call hx).1, by rw [hx.cell (by simp only; exact zb)]; exact g0, by rw [hx.cell (by simp only; exact zb)]; exact g1, by rw [hx.cell (by simp only; exact zb)]; exact g2⟩
    have HD : Below wr.heap.size wr wr.drew := (Below.refl _ _).drew
    clear g0 g1 g2
    go_wp2
    refine wp_region_z (S := (fun wx => (wx.cell? ⟨w.heap.size, 0, none⟩ = some (.int .i64 V) ∧ wx.cell? ⟨w.heap.size, 1, none⟩ = some (.int .i64 F) ∧ wx.cell? ⟨w.heap.size, 2, none⟩ = some (.slice s c.length cap)) ∧ (wx.cell? ⟨b, off + k * 3, none⟩ = some (.bool L[k].none) ∧ wx.cell? ⟨b, off + k * 3 + 1, none⟩ = some (.slice vs L[k].vars.length vc) ∧ wx.cell? ⟨b, off + k * 3 + 2, none⟩ = some (.slice fs L[k].flds.length fc)))) [] (by kernel_rfl) (HKZ.out _ HD) (fun hHeld => ?_)
    refine tZ 0 ?_ ?_;refine sm ?_
    refine tZ 1 ?_ ?_;refine sm ?_
    refine tZ 2 ?_ ?_;refine sm ?_
    refine tZ 3 ?_ ?_;refine sm ?_
    refine tZ 4 ?_ ?_;refine sm ?_
    refine wpAnyZ_one (i := 5) rfl (by kernel_rfl) (fun K hK => ?_)
    go_simp
    go_at_call 19
    refine (checkPicture_any V F s c cap L[k] vs vc fs fc _ (CR.call HD) (hP.call HD) HH0.out).mono ?_
    rintro e w5 ⟨rfl, hb5⟩
    have HB : Below wr.heap.size wr w5 := HD.trans (hb5.mono HD.size)
    go_wp2_with fail
    refine hK.out _ _ (HKZ.out _ HB) (fun hHeld => ?_)
    clear hK K
    refine sm ?_
    refine tZ 6 ?_ ?_;refine sm ?_
    refine wpAnyZ_done (by kernel_rfl) ?_ _
    have P2 := PR.call HB
    have C2 := CR.call HB
    have L2 := LR.below HB (Nat.le_refl _)
    have B2 := BR.trans (HB.mono BR.size)
    clear hb5 PR CR LR BR HB HKZ hP
    go_wp2
    go_roundw
    case rel => exact ⟨k + 1, ckPic V F c L[k], by omega, by go_num, rfl, P2, C2, L2, B2, by show _ = _; rw [HK0.out, HS.out], fun _ => HH0.out⟩
    case measure => simp [intOf]; omega
   ·have hz' : (ce == 0) = false := by simpa using hz
    go_wp2
    go_ret
    exact ⟨ret_int (by rw [HK.out, if_neg hz]), BR⟩
  ·go_wp2
   go_ret
   refine ⟨ret_int ?_, BR⟩
   rw [HK.out, List.drop_eq_nil_of_le (by omega)]
   by_cases hz : ce = 0
   ·rw [if_pos hz, hz]; rfl
   ·rw [if_neg hz]
end
section
open Go.RowKit
attribute [local go_sem ↓] Go.wp_at_zero Go.wp_at_succ

/-- What is made of two guesses in new memory lies away from an older row. -/
theorem joined_in {w5 w6 : World} {wd : World} {B N : Nat} {js : Option Addr} {jc : Nat} {g : Gs} {v : Value} (hI : IntsAt w5 js g.s) (h1 : g.s.length ≤ jc) (h2 : jc ≤ maxLen) (hF : ∀ a, js = some a → wd.heap.size ≤ a.block) (hB : B ≤ N) (hv : ∀ {k}, v.ownBlock = some k → k < N) (hb : Below w5.heap.size w5 w6) (hN : N ≤ wd.heap.size) : GcIn (fun b => B ≤ b ∧ v.ownBlock ≠ some b) w6 ⟨g, js, jc⟩ := by
 refine ⟨?_, h1, h2⟩
 rcases hI with h | ⟨b, off, e, hz, hc⟩
 ·exact .inl h
 ·have hbn := hF _ e
  simp only at hbn
  exact .inr ⟨b, off, e, ⟨by omega, fun e' => by have := hv e'; omega⟩, Nat.lt_of_lt_of_le hz hb.size, fun k hk => by rw [hb.cell (by simp only; exact hz)]; exact hc k hk⟩
theorem joinRow_take (j : Gs → Gs → Gs) (a b : List Gs) (k : Nat) (h : k < a.length) (h' : k < b.length) : joinRow j (a.take (k + 1)) (b.take (k + 1)) = joinRow j (a.take k) (b.take k) ++ [j a[k] b[k]] := by
 unfold joinRow
 rw [List.take_succ_eq_append_getElem h, List.take_succ_eq_append_getElem h', List.zipWith_append (by simp; omega)]
 rfl
theorem joinRows_take (j : Gs → Gs → Gs) (a b : List (List Gs)) (k : Nat) (h : k < a.length) (h' : k < b.length) : List.zipWith (joinRow j) (a.take (k + 1)) (b.take (k + 1)) = List.zipWith (joinRow j) (a.take k) (b.take k) ++ [joinRow j a[k] b[k]] := by
 rw [List.take_succ_eq_append_getElem h, List.take_succ_eq_append_getElem h', List.zipWith_append (by simp; omega)]
 rfl
def JoinC (wide : Bool) (j : Gs → Gs → Gs) (RR : Gs → Gs → Prop) : Prop := ∀ (g : Gs) (ss : Option Addr) (gc : Nat) (h : Gs) (st : Option Addr) (hc : Nat) (wx : World), IntsAt wx ss g.s → IntsAt wx st h.s → RR g h → Calls Tryz.prog 26 #[gv g ss gc, gv h st hc, .bool wide] wx fun e w' => ∃ js jc, e = .returned (gv (j g h) js jc) ∧ IntsAt w' js (j g h).s ∧ (j g h).s.length ≤ jc ∧ jc ≤ maxLen ∧ (∀ a, js = some a → wx.heap.size ≤ a.block) ∧ Below wx.heap.size wx w'
end
section
open Go.RowKit
attribute [local go_sem ↓] Go.wp_at_zero Go.wp_at_succ

/-- Two pictures that are right, and not none: as many guesses, each of them right. -/
theorem ckPic_form {V F : Int} {c : List Ins} {x : Pic} (h : ckPic V F c x = 0) (hn : x.none = false) : (x.vars.length : Int) = V ∧ x.flds.length = c.length ∧ (∀ r ∈ x.flds, (r.length : Int) = F) ∧ (∀ g ∈ x.vars, ckGs c g = 0) ∧ ∀ r ∈ x.flds, ∀ g ∈ r, ckGs c g = 0 := by
 unfold ckPic at h
 split at h
 ·cases h
 ·rename_i h1
  split at h
  ·contradiction
  ·rename_i h2
   have h2' : ckGss c (allPic x) = 0 := by simpa using h2
   have hall := ckGss_all h2'
   have hf : formedPic V F c x = true := by simpa using h1
   unfold formedPic at hf
   rw [hn] at hf
   simp only [Bool.false_eq_true, if_false, Bool.and_eq_true, decide_eq_true_eq, Bool.not_eq_true', List.any_eq_false] at hf
   refine ⟨hf.1, hf.2.1, fun r hr => by have := hf.2.2 r hr; simpa using this, fun g hg => hall g ?_, fun r hr g hg => hall g ?_⟩
   ·unfold allPic; exact List.mem_append_left _ hg
   ·unfold allPic; exact List.mem_append_right _ (List.mem_flatten.2 ⟨r, hr, hg⟩)
theorem ckAllG_pair {V F : Int} {c : List Ins} {g h : Gs} (h0 : ckProg V F c = 0) (hg : ckGs c g = 0) (hh : ckGs c h = 0) : ckAllG V F c [g, h] = 0 := by
 unfold ckAllG
 rw [if_pos h0]
 unfold ckGss
 rw [if_pos hg]
 unfold ckGss
 rw [if_pos hh]
 rfl
def RightG (c : List Ins) (g h : Gs) : Prop := ckGs c g = 0 ∧ ckGs c h = 0
theorem joinC_of {V F : Int} {c : List Ins} (h0 : ckProg V F c = 0) : JoinC false (togGs joinSp) (RightG c) := by
 intro g ss gc h st hc wx hs ht hR
 have hck := ckAllG_pair h0 hR.1 hR.2
 obtain ⟨hg, hh⟩ := ckAllG_sites hck
 have l1 := rising_len hg.2 hg.1
 have l2 := rising_len hh.2 hh.1
 refine (joinGuess_join g ss gc h st hc wx hs (by omega) ht (by omega)).mono ?_
 rintro e w' ⟨v, rfl, hown, hb⟩
 obtain ⟨js, jc, rfl, hi, k1, k2, hf⟩ := IntsAt.own hown
 rw [← sitesOf_eq g h hg.1 hh.1] at hi k1 ⊢
 exact ⟨js, jc, rfl, hi, k1, k2, hf, hb⟩
end
end Go.Proofs.YtmapdpcfanecdabGreat
