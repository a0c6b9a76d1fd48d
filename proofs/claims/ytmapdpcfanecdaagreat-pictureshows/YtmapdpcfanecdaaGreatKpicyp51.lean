/- The document's own answer: is a run one that a picture shows? -/
import Derived.Test.YtmapdpcfanecdaaGreatKpicyp42
import Derived.Test.YtmapdpcfanecdaaGreatKpicyp43
import Derived.Test.YtmapdpcfanecdaaGreatKpicyp28
import Derived.Test.YtmapdpcfanecdaaGreatKpicyp09
import Derived.Deep.DeepCutAuto
namespace Go.Proofs.YtmapdpcfanecdaaGreat
set_option linter.unusedVariables false
set_option linter.unusedSimpArgs false
open Go.RowKit
attribute [local go_sem ↓] Go.wp_at_zero Go.wp_at_succ

set_option maxHeartbeats 2000000 in
set_option maxRecDepth 10000 in
theorem siteOfR_any (r : St) (rv : Option Addr) (rvc : Nat) (rt : Option Addr) (rtc : Nat) (rl : Option Addr) (rlc : Nat) (v : Val) (w : World) (ht : ThgsAt w rt r.things) (hv : okVal r.things.length v) :
    Calls Tryz.prog 82 #[.agg #[.int .i64 r.at_, .slice rv r.vars.length rvc, .slice rt r.things.length rtc, .int .i64 r.taken, .slice rl r.lines.length rlc, .int .i64 r.fin], .agg #[.int .i64 v.k, .int .i64 v.n]] w fun e w' => e = .returned (.int .i64 (siteV r v)) ∧ Below w.heap.size w w' := by
  by_cases h3 : v.k = 3
  · have hd : (v.k == 3) = true := by rw [h3]; rfl
    have hn : 0 ≤ v.n ∧ v.n < r.things.length := by unfold okVal at hv; omega
    obtain ⟨q, hq⟩ := Int.eq_ofNat_of_zero_le hn.1
    have hql : q < r.things.length := by omega
    obtain ⟨b, off, rfl, zb, hc⟩ := ht.get q hql
    have hcq := (hc q hql).1
    have es : siteV r v = r.things[q].site := by unfold siteV; rw [if_pos h3, hq]; simp [List.getD, List.getElem?_eq_getElem hql]
    rw [es, hq]
    have n0 : (0 : Int) ≤ (q : Int) := by omega
    have n1 : (q : Int) < (r.things.length : Int) := by omega
    generalize v.k = vk at *
    clear hc ht hv hn es hq
    go_enter Tryz.func82, Tryz.ntmps82
    go_wp2
    go_ret
    exact ⟨rfl, by go_grown⟩
  · have hd : (v.k == 3) = false := by simpa using h3
    have es : siteV r v = -1 := by unfold siteV; rw [if_neg h3]
    rw [es]
    clear es h3 hv
    go_enter Tryz.func82, Tryz.ntmps82
    go_wp2
    go_ret
    exact ⟨rfl, by go_grown⟩
set_option maxHeartbeats 8000000 in
set_option maxRecDepth 20000 in
theorem showsOf_main {V F : Int} {c : List Ins} (x : Pic) (vs1 : Option Addr) (vc1 : Nat) (fs1 : Option Addr) (fc1 : Nat) (r : St) (rv : Option Addr) (rvc : Nat) (rt : Option Addr) (rtc : Nat) (rl : Option Addr) (rlc : Nat) (w : World) (hx : PicAt w x vs1 fs1) (hr : RunAt w r rv rt rl) (h0 : ckProg V F c = 0) (hck : ckPic V F c x = 0) (hok : RunOk V F c r) (hn : x.none = false) :
    Calls Tryz.prog 36 #[xv x vs1 vc1 fs1 fc1, runV r rv rvc rt rtc rl rlc] w fun e w' => e = .returned (.bool (showsPic x r)) ∧ Below w.heap.size w w' := by
  have kx := picOk_of hck hn
  obtain ⟨⟨_, hV8⟩, ⟨hF0, hF3⟩, h60⟩ := ckProg_lim h0
  have lv1 := kx.vars
  have lv2 := hok.vars
  have lf := kx.flds
  have lt100 := hok.things
  have hvv : r.vars.length ≤ 8 := by omega
  have HVE : Hid (x.vars.length = r.vars.length) := by show _ = _; omega
  have ESP : Hid (showsPic x r = (showsRow r x.vars r.vars && r.things.all fun t => showsRow r (x.flds.getD t.site.toNat []) t.fs)) := by show _ = _; unfold showsPic; rw [hn]; rfl
  have HXV := hideH hx.1
  have HXR := hideH hx.2
  have HRV := hideH hr.1
  have HTH := hideH hr.2.1
  have HKX := hideH kx
  have HOK := hideH hok
  have HLF := hideH lf
  have B0 : Below w.heap.size w ((w.alloc (.cells #[.bool x.none, .slice vs1 x.vars.length vc1, .slice fs1 x.flds.length fc1] 58)).alloc (.cells #[.int .i64 r.at_, .slice rv r.vars.length rvc, .slice rt r.things.length rtc, .int .i64 r.taken, .slice rl r.lines.length rlc, .int .i64 r.fin] 76)) := by go_grown
  have X0 := (XAt.new w x vs1 vc1 fs1 fc1).call (w' := ((w.alloc (.cells #[.bool x.none, .slice vs1 x.vars.length vc1, .slice fs1 x.flds.length fc1] 58)).alloc (.cells #[.int .i64 r.at_, .slice rv r.vars.length rvc, .slice rt r.things.length rtc, .int .i64 r.taken, .slice rl r.lines.length rlc, .int .i64 r.fin] 76))) (by go_grown)
  have R0 := R6.new (w.alloc (.cells #[.bool x.none, .slice vs1 x.vars.length vc1, .slice fs1 x.flds.length fc1] 58)) 76 (.int .i64 r.at_) (.slice rv r.vars.length rvc) (.slice rt r.things.length rtc) (.int .i64 r.taken) (.slice rl r.lines.length rlc) (.int .i64 r.fin)
  rw [World.size_alloc] at R0
  unfold runV
  have HNN := hideH hn
  clear hx hr hck kx hok lv1 lv2 lf h0 hn
  obtain ⟨res, HRES, hres⟩ : ∃ q, Hid (q = (showsRow r x.vars r.vars && r.things.all fun t => showsRow r (x.flds.getD t.site.toNat []) t.fs)) ∧ showsPic x r = q := ⟨_, rfl, ESP.out⟩
  rw [hres]
  clear hres ESP
  go_enter Tryz.func36, Tryz.ntmps36
  go_upto_region 1 with fail
  generalize ((w.alloc (.cells #[.bool x.none, .slice vs1 x.vars.length vc1, .slice fs1 x.flds.length fc1] 58)).alloc (.cells #[.int .i64 r.at_, .slice rv r.vars.length rvc, .slice rt r.things.length rtc, .int .i64 r.taken, .slice rl r.lines.length rlc, .int .i64 r.fin] 76)) = w1 at *
  obtain ⟨⟨a0, a1, a2⟩, az, -⟩ := id X0
  rw [HNN.out] at a0
  go_wp2
  clear a0 a1 a2 az
  go_loopw [5] (fun i wr => ∃ k : Nat, k ≤ r.vars.length ∧ i = .int .i64 k ∧ Below w1.heap.size w1 wr ∧ Hid (showsRow r x.vars r.vars = showsRow r (x.vars.drop k) (r.vars.drop k))) (fun i _ => r.vars.length - (intOf i).toNat)
  case atStart => exact ⟨0, Nat.zero_le _, rfl, Below.refl _ _, rfl⟩
  case round =>
    obtain ⟨k, hk, rfl, hbr, HK⟩ := hrel
    obtain ⟨⟨a0, a1, a2⟩, az, -⟩ := id (X0.call hbr)
    have RR := R0.call hbr
    obtain ⟨⟨r0, r1, r2, r3, r4, r5⟩, rz, rf⟩ := id RR
    have LR := B0.trans (hbr.mono B0.size)
    by_cases hlt : k < r.vars.length
    · have n0 : (0 : Int) ≤ (k : Int) := by omega
      have n1 : (k : Int) < (r.vars.length : Int) := by omega
      have hlt' : k < x.vars.length := by have := HVE.out; omega
      have n2 : (k : Int) < (x.vars.length : Int) := by omega
      obtain ⟨b1, o1, e1, ss1, g1, G1, I1, k1, m1⟩ := (HXV.out.below LR (Nat.le_refl _)) k hlt'
      obtain ⟨b2, o2, e2, zb2, V1, V2⟩ := (HRV.out.below LR (Nat.le_refl _)).get k hlt
      subst e1 e2
      have hOk := HOK.out.vals _ (List.getElem_mem hlt)
      have HS := hideH (showsRow_step r x.vars r.vars k hlt' hlt)
      have HKZ : Hid (∀ wx, Below wr.heap.size wr wx → (wx.cell? ⟨w.heap.size, 1, none⟩ = some (.slice (some ⟨b1, o1, none⟩) x.vars.length vc1) ∧ (wx.cell? ⟨b1, o1 + k * 7, none⟩ = some (.bool x.vars[k].n) ∧ wx.cell? ⟨b1, o1 + k * 7 + 1, none⟩ = some (.bool x.vars[k].sp.n) ∧ wx.cell? ⟨b1, o1 + k * 7 + 2, none⟩ = some (.int .i64 x.vars[k].sp.lo) ∧ wx.cell? ⟨b1, o1 + k * 7 + 3, none⟩ = some (.int .i64 x.vars[k].sp.hi) ∧ wx.cell? ⟨b1, o1 + k * 7 + 4, none⟩ = some (.bool x.vars[k].t) ∧ wx.cell? ⟨b1, o1 + k * 7 + 5, none⟩ = some (.bool x.vars[k].f) ∧ wx.cell? ⟨b1, o1 + k * 7 + 6, none⟩ = some (.slice ss1 x.vars[k].s.length g1))) ∧ (wx.cell? ⟨w.heap.size + 1, 0, none⟩ = some (.int .i64 r.at_) ∧ wx.cell? ⟨w.heap.size + 1, 1, none⟩ = some (.slice (some ⟨b2, o2, none⟩) r.vars.length rvc) ∧ wx.cell? ⟨w.heap.size + 1, 2, none⟩ = some (.slice rt r.things.length rtc) ∧ wx.cell? ⟨w.heap.size + 1, 3, none⟩ = some (.int .i64 r.taken) ∧ wx.cell? ⟨w.heap.size + 1, 4, none⟩ = some (.slice rl r.lines.length rlc) ∧ wx.cell? ⟨w.heap.size + 1, 5, none⟩ = some (.int .i64 r.fin)) ∧ (wx.cell? ⟨b2, o2 + k * 2, none⟩ = some (.int .i64 r.vars[k].k) ∧ wx.cell? ⟨b2, o2 + k * 2 + 1, none⟩ = some (.int .i64 r.vars[k].n))) := fun wx hx => ⟨⟨by rw [hx.cell (by simp only; exact az)]; exact a1, (G1.call hx).1⟩, (RR.call hx).1, by rw [hx.cell (by simp only; exact zb2)]; exact V1, by rw [hx.cell (by simp only; exact zb2)]; exact V2⟩
      have HD : Below wr.heap.size wr wr.drew := (Below.refl _ _).drew
      have HSO : Hid (∀ wx, Below wr.heap.size wr wx → Calls Tryz.prog 82 #[.agg #[.int .i64 r.at_, .slice (some ⟨b2, o2, none⟩) r.vars.length rvc, .slice rt r.things.length rtc, .int .i64 r.taken, .slice rl r.lines.length rlc, .int .i64 r.fin], .agg #[.int .i64 r.vars[k].k, .int .i64 r.vars[k].n]] wx fun e w' => e = .returned (.int .i64 (siteV r r.vars[k])) ∧ Below wx.heap.size wx w') := fun wx hx => siteOfR_any r _ rvc _ rtc rl rlc r.vars[k] wx ((HTH.out.below LR (Nat.le_refl _)).call hx) hOk
      have HHE : Hid (∀ wx, Below wr.heap.size wr wx → Calls Tryz.prog 15 #[gv x.vars[k] ss1 g1, .agg #[.int .i64 r.vars[k].k, .int .i64 r.vars[k].n], .int .i64 (siteV r r.vars[k])] wx fun e w' => e = .returned (.bool (heldV r x.vars[k] r.vars[k])) ∧ Below wx.heap.size wx w') := fun wx hx => heldU x.vars[k] ss1 g1 r.vars[k].k r.vars[k].n (siteV r r.vars[k]) wx (I1.call hx) (Nat.le_trans k1 m1) (by have := okVal_kind hOk; omega)
      go_upto_region 6 with fail
      clear a0 a1 a2 az r0 r1 r2 r3 r4 r5 rz rf V1 V2 G1 I1
      refine wp_region_z (S := (fun wx => (wx.cell? ⟨w.heap.size, 1, none⟩ = some (.slice (some ⟨b1, o1, none⟩) x.vars.length vc1) ∧ (wx.cell? ⟨b1, o1 + k * 7, none⟩ = some (.bool x.vars[k].n) ∧ wx.cell? ⟨b1, o1 + k * 7 + 1, none⟩ = some (.bool x.vars[k].sp.n) ∧ wx.cell? ⟨b1, o1 + k * 7 + 2, none⟩ = some (.int .i64 x.vars[k].sp.lo) ∧ wx.cell? ⟨b1, o1 + k * 7 + 3, none⟩ = some (.int .i64 x.vars[k].sp.hi) ∧ wx.cell? ⟨b1, o1 + k * 7 + 4, none⟩ = some (.bool x.vars[k].t) ∧ wx.cell? ⟨b1, o1 + k * 7 + 5, none⟩ = some (.bool x.vars[k].f) ∧ wx.cell? ⟨b1, o1 + k * 7 + 6, none⟩ = some (.slice ss1 x.vars[k].s.length g1))) ∧ (wx.cell? ⟨w.heap.size + 1, 0, none⟩ = some (.int .i64 r.at_) ∧ wx.cell? ⟨w.heap.size + 1, 1, none⟩ = some (.slice (some ⟨b2, o2, none⟩) r.vars.length rvc) ∧ wx.cell? ⟨w.heap.size + 1, 2, none⟩ = some (.slice rt r.things.length rtc) ∧ wx.cell? ⟨w.heap.size + 1, 3, none⟩ = some (.int .i64 r.taken) ∧ wx.cell? ⟨w.heap.size + 1, 4, none⟩ = some (.slice rl r.lines.length rlc) ∧ wx.cell? ⟨w.heap.size + 1, 5, none⟩ = some (.int .i64 r.fin)) ∧ (wx.cell? ⟨b2, o2 + k * 2, none⟩ = some (.int .i64 r.vars[k].k) ∧ wx.cell? ⟨b2, o2 + k * 2 + 1, none⟩ = some (.int .i64 r.vars[k].n)))) [] (by kernel_rfl) (HKZ.out _ HD) (fun hHeld => ?_)
      refine tkZ 0 ?_ ?_ ?_
      rotate_left
      · exact rn
      (try simp only [Act.put, List.getElem_toArray, List.getElem_cons_zero, List.getElem_cons_succ, List.setIfInBounds_toArray, List.set_cons_zero, List.set_cons_succ])
      refine tkZ 1 ?_ ?_ ?_
      rotate_left
      · exact rn
      (try simp only [Act.put, List.getElem_toArray, List.getElem_cons_zero, List.getElem_cons_succ, List.setIfInBounds_toArray, List.set_cons_zero, List.set_cons_succ])
      refine tkZ 2 ?_ ?_ ?_
      rotate_left
      · exact rn
      (try simp only [Act.put, List.getElem_toArray, List.getElem_cons_zero, List.getElem_cons_succ, List.setIfInBounds_toArray, List.set_cons_zero, List.set_cons_succ])
      refine tkZ 3 ?_ ?_ ?_
      rotate_left
      · exact rn
      (try simp only [Act.put, List.getElem_toArray, List.getElem_cons_zero, List.getElem_cons_succ, List.setIfInBounds_toArray, List.set_cons_zero, List.set_cons_succ])
      refine tkZ 4 ?_ ?_ ?_
      rotate_left
      · exact rn
      (try simp only [Act.put, List.getElem_toArray, List.getElem_cons_zero, List.getElem_cons_succ, List.setIfInBounds_toArray, List.set_cons_zero, List.set_cons_succ])
      refine tkZ 5 ?_ ?_ ?_
      rotate_left
      · exact rn
      (try simp only [Act.put, List.getElem_toArray, List.getElem_cons_zero, List.getElem_cons_succ, List.setIfInBounds_toArray, List.set_cons_zero, List.set_cons_succ])
      refine tkZ 6 ?_ ?_ ?_
      rotate_left
      · exact rn
      (try simp only [Act.put, List.getElem_toArray, List.getElem_cons_zero, List.getElem_cons_succ, List.setIfInBounds_toArray, List.set_cons_zero, List.set_cons_succ])
      refine tkZ 7 ?_ ?_ ?_
      rotate_left
      · exact rn
      (try simp only [Act.put, List.getElem_toArray, List.getElem_cons_zero, List.getElem_cons_succ, List.setIfInBounds_toArray, List.set_cons_zero, List.set_cons_succ])
      refine tkZ 8 ?_ ?_ ?_
      rotate_left
      · exact rn
      (try simp only [Act.put, List.getElem_toArray, List.getElem_cons_zero, List.getElem_cons_succ, List.setIfInBounds_toArray, List.set_cons_zero, List.set_cons_succ])
      refine tkZ 9 ?_ ?_ ?_
      rotate_left
      · exact rn
      (try simp only [Act.put, List.getElem_toArray, List.getElem_cons_zero, List.getElem_cons_succ, List.setIfInBounds_toArray, List.set_cons_zero, List.set_cons_succ])
      refine tkZ 10 ?_ ?_ ?_
      rotate_left
      · exact rn
      (try simp only [Act.put, List.getElem_toArray, List.getElem_cons_zero, List.getElem_cons_succ, List.setIfInBounds_toArray, List.set_cons_zero, List.set_cons_succ])
      refine tkZ 11 ?_ ?_ ?_
      rotate_left
      · exact rn
      (try simp only [Act.put, List.getElem_toArray, List.getElem_cons_zero, List.getElem_cons_succ, List.setIfInBounds_toArray, List.set_cons_zero, List.set_cons_succ])
      refine tkZ 12 ?_ ?_ ?_
      rotate_left
      · exact rn
      (try simp only [Act.put, List.getElem_toArray, List.getElem_cons_zero, List.getElem_cons_succ, List.setIfInBounds_toArray, List.set_cons_zero, List.set_cons_succ])
      refine tkZ 13 ?_ ?_ ?_
      rotate_left
      · exact rn
      (try simp only [Act.put, List.getElem_toArray, List.getElem_cons_zero, List.getElem_cons_succ, List.setIfInBounds_toArray, List.set_cons_zero, List.set_cons_succ])
      refine tkZ 14 ?_ ?_ ?_
      rotate_left
      · exact rn
      (try simp only [Act.put, List.getElem_toArray, List.getElem_cons_zero, List.getElem_cons_succ, List.setIfInBounds_toArray, List.set_cons_zero, List.set_cons_succ])
      refine tkZ 15 ?_ ?_ ?_
      rotate_left
      · exact rn
      (try simp only [Act.put, List.getElem_toArray, List.getElem_cons_zero, List.getElem_cons_succ, List.setIfInBounds_toArray, List.set_cons_zero, List.set_cons_succ])
      refine wpAnyZ_one (i := 16) rfl (by kernel_rfl) (fun K hK => ?_)
      go_simp
      go_at_call 82
      refine (HSO.out _ HD).mono ?_
      rintro e w5 ⟨rfl, hb5⟩
      have HB5 : Below wr.heap.size wr w5 := HD.trans (hb5.mono HD.size)
      go_wp2_with fail
      refine hK.out _ _ (HKZ.out _ HB5) (fun hHeld => ?_)
      clear hK K
      (try simp only [Act.put, List.getElem_toArray, List.getElem_cons_zero, List.getElem_cons_succ, List.setIfInBounds_toArray, List.set_cons_zero, List.set_cons_succ])
      refine wpAnyZ_one (i := 17) rfl (by kernel_rfl) (fun K hK => ?_)
      go_simp
      go_at_call 15
      refine (HHE.out _ HB5).mono ?_
      rintro e w6 ⟨rfl, hb6⟩
      have HB6 : Below wr.heap.size wr w6 := HB5.trans (hb6.mono HB5.size)
      go_wp2_with fail
      refine hK.out _ _ (HKZ.out _ HB6) (fun hHeld => ?_)
      clear hK K
      (try simp only [Act.put, List.getElem_toArray, List.getElem_cons_zero, List.getElem_cons_succ, List.setIfInBounds_toArray, List.set_cons_zero, List.set_cons_succ])
      refine tkZ 18 ?_ ?_ ?_
      rotate_left
      · exact rn
      (try simp only [Act.put, List.getElem_toArray, List.getElem_cons_zero, List.getElem_cons_succ, List.setIfInBounds_toArray, List.set_cons_zero, List.set_cons_succ])
      refine wpAnyZ_done (by kernel_rfl) ?_ _
      have hb35 := hbr.trans (HB6.mono hbr.size)
      rcases (show heldV r x.vars[k] r.vars[k] = false ∨ heldV r x.vars[k] r.vars[k] = true by cases heldV r x.vars[k] r.vars[k] <;> simp) with hs | hs <;> have HSG := hideH hs <;> rw [hs] <;> clear hs
      · go_wp2
        go_ret
        refine ⟨?_, B0.trans (hb35.mono B0.size)⟩
        rw [HRES.out, HK.out, HS.out, HSG.out]
        rfl
      · go_wp2
        go_roundw
        case rel => exact ⟨k + 1, by omega, by go_num, hb35, by show _ = _; rw [HK.out, HS.out, HSG.out]; rfl⟩
        case measure => simp [intOf]; omega
    · have n1 : ¬ (k : Int) < (r.vars.length : Int) := by omega
      have E1 : showsRow r x.vars r.vars = true := by rw [HK.out, List.drop_eq_nil_of_le (show r.vars.length ≤ k by omega)]; simp [showsRow]
      rw [E1, Bool.true_and] at HRES
      clear E1 HK
      generalize wr = w3 at *
      clear wr
      go_wp2
      clear a0 a1 a2 az r0 r1 r2 r3 r4 r5 rz rf
      go_loopw [6] (fun i wx => ∃ k : Nat, k ≤ r.things.length ∧ i = .int .i64 k ∧ Below w3.heap.size w3 wx ∧ Hid (res = (r.things.drop k).all fun t => showsRow r (x.flds.getD t.site.toNat []) t.fs)) (fun i _ => r.things.length - (intOf i).toNat)
      case atStart => exact ⟨0, Nat.zero_le _, rfl, Below.refl _ _, HRES⟩
      case round =>
        clear HRES
        obtain ⟨k, hk, rfl, hbr2, HK⟩ := hrel
        have LR2 := LR.trans (hbr2.mono LR.size)
        have hbr3 := hbr.trans (hbr2.mono hbr.size)
        have RR2 := R0.call hbr3
        have XX2 := X0.call hbr3
        generalize wr = w4 at *
        clear wr
        obtain ⟨⟨r0, r1, r2, r3, r4, r5⟩, rz, rf⟩ := id RR2
        by_cases hlt : k < r.things.length
        · have n0 : (0 : Int) ≤ (k : Int) := by omega
          have n1 : (k : Int) < (r.things.length : Int) := by omega
          obtain ⟨b2, o2, e2, zb2, HCE⟩ := (HTH.out.below LR2 (Nat.le_refl _)).get k hlt
          obtain ⟨T1, tf, tfc, T2, TV⟩ := HCE k hlt
          subst e2
          have hst := HOK.out.sites _ (List.getElem_mem hlt)
          have hfl := HOK.out.fields _ (List.getElem_mem hlt)
          have HVL := hideH (HOK.out.fvals _ (List.getElem_mem hlt))
          have hq : 0 ≤ r.things[k].site ∧ r.things[k].site < c.length := by unfold isNew btw at hst; simp only [Bool.and_eq_true, decide_eq_true_eq] at hst; omega
          obtain ⟨q, eq⟩ := Int.eq_ofNat_of_zero_le hq.1
          have hqx : q < x.flds.length := by have := HLF.out; omega
          have nq0 : (0 : Int) ≤ (q : Int) := by omega
          have nq1 : (q : Int) < (x.flds.length : Int) := by omega
          obtain ⟨pb, po, e1, zp, rs, rc, C1, k1x, m1x, J1⟩ := (HXR.out.below LR2 (Nat.le_refl _)) q hqx
          subst e1
          have hrow := HKX.out.row q hqx
          have hfm : r.things[k].fs.length ≤ 3 := by omega
          have HRE : Hid (x.flds[q].length = r.things[k].fs.length) := by show _ = _; omega
          have HS : Hid ((r.things.drop k).all (fun t => showsRow r (x.flds.getD t.site.toNat []) t.fs) = (showsRow r x.flds[q] r.things[k].fs && (r.things.drop (k + 1)).all fun t => showsRow r (x.flds.getD t.site.toNat []) t.fs)) := by
            show _ = _
            rw [List.drop_eq_getElem_cons hlt, List.all_cons, eq]
            simp [List.getD, List.getElem?_eq_getElem hqx]
          have HEQ := hideH eq
          clear eq hq
          have hb4 : Below w4.heap.size w4 (w4.alloc (.cells #[.int .i64 r.things[k].site, .slice tf r.things[k].fs.length tfc] 118)) := by go_grown
          have Q5 : (w4.alloc (.cells #[.int .i64 r.things[k].site, .slice tf r.things[k].fs.length tfc] 118)).cell? ⟨w4.heap.size, 0, none⟩ = some (.int .i64 r.things[k].site) ∧ (w4.alloc (.cells #[.int .i64 r.things[k].site, .slice tf r.things[k].fs.length tfc] 118)).cell? ⟨w4.heap.size, 1, none⟩ = some (.slice tf r.things[k].fs.length tfc) := by simp [go_sem]
          have q5 : w4.heap.size < (w4.alloc (.cells #[.int .i64 r.things[k].site, .slice tf r.things[k].fs.length tfc] 118)).heap.size := by simp
          have C5 : (w4.alloc (.cells #[.int .i64 r.things[k].site, .slice tf r.things[k].fs.length tfc] 118)).cell? ⟨pb, po + q, none⟩ = some (.slice rs x.flds[q].length rc) := by rw [hb4.cell (by simp only; exact zp)]; exact C1
          have J5 := J1.call hb4
          have TV5 := TV.call hb4
          have zp5 : pb < (w4.alloc (.cells #[.int .i64 r.things[k].site, .slice tf r.things[k].fs.length tfc] 118)).heap.size := Nat.lt_of_lt_of_le zp hb4.size
          have X5 := XX2.call hb4
          have R5 := RR2.call hb4
          have LR5 := LR2.trans (hb4.mono LR2.size)
          have hbr5 := hbr2.trans (hb4.mono hbr2.size)
          go_upto_region 12 with fail
          clear r0 r1 r2 r3 r4 r5 rz rf T1 T2 TV HCE C1 J1 zp zb2 hb4 RR2 XX2 hst
          generalize w4.alloc (.cells #[.int .i64 r.things[k].site, .slice tf r.things[k].fs.length tfc] 118) = w5 at *
          generalize w4.heap.size = tb at *
          rw [HEQ.out] at Q5
          go_wp2
          go_loopw [8] (fun j wz => ∃ m : Nat, m ≤ r.things[k].fs.length ∧ j = .int .i64 m ∧ Below w5.heap.size w5 wz ∧ Hid (showsRow r x.flds[q] r.things[k].fs = showsRow r (x.flds[q].drop m) (r.things[k].fs.drop m))) (fun j _ => r.things[k].fs.length - (intOf j).toNat)
          case atStart => exact ⟨0, Nat.zero_le _, rfl, Below.refl _ _, rfl⟩
          case round =>
            obtain ⟨m, hm, rfl, hbm, HM⟩ := hrel
            have LR := LR5.trans (hbm.mono LR5.size)
            have t0 : wr.cell? ⟨tb, 0, none⟩ = some (.int .i64 (q : Int)) := by rw [hbm.cell (by simp only; exact q5)]; exact Q5.1
            have t1 : wr.cell? ⟨tb, 1, none⟩ = some (.slice tf r.things[k].fs.length tfc) := by rw [hbm.cell (by simp only; exact q5)]; exact Q5.2
            by_cases hltm : m < r.things[k].fs.length
            · have m0 : (0 : Int) ≤ (m : Int) := by omega
              have m1n : (m : Int) < (r.things[k].fs.length : Int) := by omega
              have hltm' : m < x.flds[q].length := by have := HRE.out; omega
              have m2n : (m : Int) < (x.flds[q].length : Int) := by omega
              obtain ⟨b1, o1, e1, ss1, g1, G1, I1, k1, m1⟩ := (J5.call hbm) m hltm'
              obtain ⟨b3, o3, e3, zb3, V1, V2⟩ := (TV5.call hbm).get m hltm
              subst e1 e3
              have hOk := HVL.out _ (List.getElem_mem hltm)
              have HSM := hideH (showsRow_step r x.flds[q] r.things[k].fs m hltm' hltm)
              have X6 := X5.call hbm
              have R6' := R5.call hbm
              have z6 := hbm.size
              have HKZ : Hid (∀ wx, Below wr.heap.size wr wx → (wx.cell? ⟨w.heap.size, 2, none⟩ = some (.slice (some ⟨pb, po, none⟩) x.flds.length fc1) ∧ wx.cell? ⟨pb, po + q, none⟩ = some (.slice (some ⟨b1, o1, none⟩) x.flds[q].length rc) ∧ (wx.cell? ⟨b1, o1 + m * 7, none⟩ = some (.bool x.flds[q][m].n) ∧ wx.cell? ⟨b1, o1 + m * 7 + 1, none⟩ = some (.bool x.flds[q][m].sp.n) ∧ wx.cell? ⟨b1, o1 + m * 7 + 2, none⟩ = some (.int .i64 x.flds[q][m].sp.lo) ∧ wx.cell? ⟨b1, o1 + m * 7 + 3, none⟩ = some (.int .i64 x.flds[q][m].sp.hi) ∧ wx.cell? ⟨b1, o1 + m * 7 + 4, none⟩ = some (.bool x.flds[q][m].t) ∧ wx.cell? ⟨b1, o1 + m * 7 + 5, none⟩ = some (.bool x.flds[q][m].f) ∧ wx.cell? ⟨b1, o1 + m * 7 + 6, none⟩ = some (.slice ss1 x.flds[q][m].s.length g1))) ∧ (wx.cell? ⟨tb, 0, none⟩ = some (.int .i64 (q : Int)) ∧ wx.cell? ⟨tb, 1, none⟩ = some (.slice (some ⟨b3, o3, none⟩) r.things[k].fs.length tfc)) ∧ (wx.cell? ⟨w.heap.size + 1, 0, none⟩ = some (.int .i64 r.at_) ∧ wx.cell? ⟨w.heap.size + 1, 1, none⟩ = some (.slice rv r.vars.length rvc) ∧ wx.cell? ⟨w.heap.size + 1, 2, none⟩ = some (.slice (some ⟨b2, o2, none⟩) r.things.length rtc) ∧ wx.cell? ⟨w.heap.size + 1, 3, none⟩ = some (.int .i64 r.taken) ∧ wx.cell? ⟨w.heap.size + 1, 4, none⟩ = some (.slice rl r.lines.length rlc) ∧ wx.cell? ⟨w.heap.size + 1, 5, none⟩ = some (.int .i64 r.fin)) ∧ (wx.cell? ⟨b3, o3 + m * 2, none⟩ = some (.int .i64 r.things[k].fs[m].k) ∧ wx.cell? ⟨b3, o3 + m * 2 + 1, none⟩ = some (.int .i64 r.things[k].fs[m].n))) := fun wx hx => ⟨⟨(X6.call hx).1.2.2, by rw [hx.cell (by simp only; omega), hbm.cell (by simp only; exact zp5)]; exact C5, (G1.call hx).1⟩, ⟨by rw [hx.cell (by simp only; omega)]; exact t0, by rw [hx.cell (by simp only; omega)]; exact t1⟩, (R6'.call hx).1, by rw [hx.cell (by simp only; exact zb3)]; exact V1, by rw [hx.cell (by simp only; exact zb3)]; exact V2⟩
              have HD : Below wr.heap.size wr wr.drew := (Below.refl _ _).drew
              have HSO : Hid (∀ wx, Below wr.heap.size wr wx → Calls Tryz.prog 82 #[.agg #[.int .i64 r.at_, .slice rv r.vars.length rvc, .slice (some ⟨b2, o2, none⟩) r.things.length rtc, .int .i64 r.taken, .slice rl r.lines.length rlc, .int .i64 r.fin], .agg #[.int .i64 r.things[k].fs[m].k, .int .i64 r.things[k].fs[m].n]] wx fun e w' => e = .returned (.int .i64 (siteV r r.things[k].fs[m])) ∧ Below wx.heap.size wx w') := fun wx hx => siteOfR_any r _ rvc _ rtc rl rlc r.things[k].fs[m] wx ((HTH.out.below LR (Nat.le_refl _)).call hx) hOk
              have HHE : Hid (∀ wx, Below wr.heap.size wr wx → Calls Tryz.prog 15 #[gv x.flds[q][m] ss1 g1, .agg #[.int .i64 r.things[k].fs[m].k, .int .i64 r.things[k].fs[m].n], .int .i64 (siteV r r.things[k].fs[m])] wx fun e w' => e = .returned (.bool (heldV r x.flds[q][m] r.things[k].fs[m])) ∧ Below wx.heap.size wx w') := fun wx hx => heldU x.flds[q][m] ss1 g1 r.things[k].fs[m].k r.things[k].fs[m].n (siteV r r.things[k].fs[m]) wx (I1.call hx) (Nat.le_trans k1 m1) (by have := okVal_kind hOk; omega)
              go_upto_region 15 with fail
              clear t0 t1 V1 V2 G1 I1
              refine wp_region_z (S := (fun wx => (wx.cell? ⟨w.heap.size, 2, none⟩ = some (.slice (some ⟨pb, po, none⟩) x.flds.length fc1) ∧ wx.cell? ⟨pb, po + q, none⟩ = some (.slice (some ⟨b1, o1, none⟩) x.flds[q].length rc) ∧ (wx.cell? ⟨b1, o1 + m * 7, none⟩ = some (.bool x.flds[q][m].n) ∧ wx.cell? ⟨b1, o1 + m * 7 + 1, none⟩ = some (.bool x.flds[q][m].sp.n) ∧ wx.cell? ⟨b1, o1 + m * 7 + 2, none⟩ = some (.int .i64 x.flds[q][m].sp.lo) ∧ wx.cell? ⟨b1, o1 + m * 7 + 3, none⟩ = some (.int .i64 x.flds[q][m].sp.hi) ∧ wx.cell? ⟨b1, o1 + m * 7 + 4, none⟩ = some (.bool x.flds[q][m].t) ∧ wx.cell? ⟨b1, o1 + m * 7 + 5, none⟩ = some (.bool x.flds[q][m].f) ∧ wx.cell? ⟨b1, o1 + m * 7 + 6, none⟩ = some (.slice ss1 x.flds[q][m].s.length g1))) ∧ (wx.cell? ⟨tb, 0, none⟩ = some (.int .i64 (q : Int)) ∧ wx.cell? ⟨tb, 1, none⟩ = some (.slice (some ⟨b3, o3, none⟩) r.things[k].fs.length tfc)) ∧ (wx.cell? ⟨w.heap.size + 1, 0, none⟩ = some (.int .i64 r.at_) ∧ wx.cell? ⟨w.heap.size + 1, 1, none⟩ = some (.slice rv r.vars.length rvc) ∧ wx.cell? ⟨w.heap.size + 1, 2, none⟩ = some (.slice (some ⟨b2, o2, none⟩) r.things.length rtc) ∧ wx.cell? ⟨w.heap.size + 1, 3, none⟩ = some (.int .i64 r.taken) ∧ wx.cell? ⟨w.heap.size + 1, 4, none⟩ = some (.slice rl r.lines.length rlc) ∧ wx.cell? ⟨w.heap.size + 1, 5, none⟩ = some (.int .i64 r.fin)) ∧ (wx.cell? ⟨b3, o3 + m * 2, none⟩ = some (.int .i64 r.things[k].fs[m].k) ∧ wx.cell? ⟨b3, o3 + m * 2 + 1, none⟩ = some (.int .i64 r.things[k].fs[m].n)))) [] (by kernel_rfl) (HKZ.out _ HD) (fun hHeld => ?_)
              refine tkZ 0 ?_ ?_ ?_
              rotate_left
              · exact rn
              (try simp only [Act.put, List.getElem_toArray, List.getElem_cons_zero, List.getElem_cons_succ, List.setIfInBounds_toArray, List.set_cons_zero, List.set_cons_succ])
              refine tkZ 1 ?_ ?_ ?_
              rotate_left
              · exact rn
              (try simp only [Act.put, List.getElem_toArray, List.getElem_cons_zero, List.getElem_cons_succ, List.setIfInBounds_toArray, List.set_cons_zero, List.set_cons_succ])
              refine tkZ 2 ?_ ?_ ?_
              rotate_left
              · exact rn
              (try simp only [Act.put, List.getElem_toArray, List.getElem_cons_zero, List.getElem_cons_succ, List.setIfInBounds_toArray, List.set_cons_zero, List.set_cons_succ])
              refine tkZ 3 ?_ ?_ ?_
              rotate_left
              · exact rn
              (try simp only [Act.put, List.getElem_toArray, List.getElem_cons_zero, List.getElem_cons_succ, List.setIfInBounds_toArray, List.set_cons_zero, List.set_cons_succ])
              refine tkZ 4 ?_ ?_ ?_
              rotate_left
              · exact rn
              (try simp only [Act.put, List.getElem_toArray, List.getElem_cons_zero, List.getElem_cons_succ, List.setIfInBounds_toArray, List.set_cons_zero, List.set_cons_succ])
              refine tkZ 5 ?_ ?_ ?_
              rotate_left
              · exact rn
              (try simp only [Act.put, List.getElem_toArray, List.getElem_cons_zero, List.getElem_cons_succ, List.setIfInBounds_toArray, List.set_cons_zero, List.set_cons_succ])
              refine tkZ 6 ?_ ?_ ?_
              rotate_left
              · exact rn
              (try simp only [Act.put, List.getElem_toArray, List.getElem_cons_zero, List.getElem_cons_succ, List.setIfInBounds_toArray, List.set_cons_zero, List.set_cons_succ])
              refine tkZ 7 ?_ ?_ ?_
              rotate_left
              · exact rn
              (try simp only [Act.put, List.getElem_toArray, List.getElem_cons_zero, List.getElem_cons_succ, List.setIfInBounds_toArray, List.set_cons_zero, List.set_cons_succ])
              refine tkZ 8 ?_ ?_ ?_
              rotate_left
              · exact rn
              (try simp only [Act.put, List.getElem_toArray, List.getElem_cons_zero, List.getElem_cons_succ, List.setIfInBounds_toArray, List.set_cons_zero, List.set_cons_succ])
              refine tkZ 9 ?_ ?_ ?_
              rotate_left
              · exact rn
              (try simp only [Act.put, List.getElem_toArray, List.getElem_cons_zero, List.getElem_cons_succ, List.setIfInBounds_toArray, List.set_cons_zero, List.set_cons_succ])
              refine tkZ 10 ?_ ?_ ?_
              rotate_left
              · exact rn
              (try simp only [Act.put, List.getElem_toArray, List.getElem_cons_zero, List.getElem_cons_succ, List.setIfInBounds_toArray, List.set_cons_zero, List.set_cons_succ])
              refine tkZ 11 ?_ ?_ ?_
              rotate_left
              · exact rn
              (try simp only [Act.put, List.getElem_toArray, List.getElem_cons_zero, List.getElem_cons_succ, List.setIfInBounds_toArray, List.set_cons_zero, List.set_cons_succ])
              refine tkZ 12 ?_ ?_ ?_
              rotate_left
              · exact rn
              (try simp only [Act.put, List.getElem_toArray, List.getElem_cons_zero, List.getElem_cons_succ, List.setIfInBounds_toArray, List.set_cons_zero, List.set_cons_succ])
              refine tkZ 13 ?_ ?_ ?_
              rotate_left
              · exact rn
              (try simp only [Act.put, List.getElem_toArray, List.getElem_cons_zero, List.getElem_cons_succ, List.setIfInBounds_toArray, List.set_cons_zero, List.set_cons_succ])
              refine tkZ 14 ?_ ?_ ?_
              rotate_left
              · exact rn
              (try simp only [Act.put, List.getElem_toArray, List.getElem_cons_zero, List.getElem_cons_succ, List.setIfInBounds_toArray, List.set_cons_zero, List.set_cons_succ])
              refine tkZ 15 ?_ ?_ ?_
              rotate_left
              · exact rn
              (try simp only [Act.put, List.getElem_toArray, List.getElem_cons_zero, List.getElem_cons_succ, List.setIfInBounds_toArray, List.set_cons_zero, List.set_cons_succ])
              refine tkZ 16 ?_ ?_ ?_
              rotate_left
              · exact rn
              (try simp only [Act.put, List.getElem_toArray, List.getElem_cons_zero, List.getElem_cons_succ, List.setIfInBounds_toArray, List.set_cons_zero, List.set_cons_succ])
              refine tkZ 17 ?_ ?_ ?_
              rotate_left
              · exact rn
              (try simp only [Act.put, List.getElem_toArray, List.getElem_cons_zero, List.getElem_cons_succ, List.setIfInBounds_toArray, List.set_cons_zero, List.set_cons_succ])
              refine tkZ 18 ?_ ?_ ?_
              rotate_left
              · exact rn
              (try simp only [Act.put, List.getElem_toArray, List.getElem_cons_zero, List.getElem_cons_succ, List.setIfInBounds_toArray, List.set_cons_zero, List.set_cons_succ])
              refine tkZ 19 ?_ ?_ ?_
              rotate_left
              · exact rn
              (try simp only [Act.put, List.getElem_toArray, List.getElem_cons_zero, List.getElem_cons_succ, List.setIfInBounds_toArray, List.set_cons_zero, List.set_cons_succ])
              refine wpAnyZ_one (i := 20) rfl (by kernel_rfl) (fun K hK => ?_)
              go_simp
              go_at_call 82
              refine (HSO.out _ HD).mono ?_
              rintro e w5 ⟨rfl, hb5⟩
              have HB5 : Below wr.heap.size wr w5 := HD.trans (hb5.mono HD.size)
              go_wp2_with fail
              refine hK.out _ _ (HKZ.out _ HB5) (fun hHeld => ?_)
              clear hK K
              (try simp only [Act.put, List.getElem_toArray, List.getElem_cons_zero, List.getElem_cons_succ, List.setIfInBounds_toArray, List.set_cons_zero, List.set_cons_succ])
              refine wpAnyZ_one (i := 21) rfl (by kernel_rfl) (fun K hK => ?_)
              go_simp
              go_at_call 15
              refine (HHE.out _ HB5).mono ?_
              rintro e w6 ⟨rfl, hb6⟩
              have HB6 : Below wr.heap.size wr w6 := HB5.trans (hb6.mono HB5.size)
              go_wp2_with fail
              refine hK.out _ _ (HKZ.out _ HB6) (fun hHeld => ?_)
              clear hK K
              (try simp only [Act.put, List.getElem_toArray, List.getElem_cons_zero, List.getElem_cons_succ, List.setIfInBounds_toArray, List.set_cons_zero, List.set_cons_succ])
              refine tkZ 22 ?_ ?_ ?_
              rotate_left
              · exact rn
              (try simp only [Act.put, List.getElem_toArray, List.getElem_cons_zero, List.getElem_cons_succ, List.setIfInBounds_toArray, List.set_cons_zero, List.set_cons_succ])
              refine wpAnyZ_done (by kernel_rfl) ?_ _
              have hb35 := hbm.trans (HB6.mono hbm.size)
              rcases (show heldV r x.flds[q][m] r.things[k].fs[m] = false ∨ heldV r x.flds[q][m] r.things[k].fs[m] = true by cases heldV r x.flds[q][m] r.things[k].fs[m] <;> simp) with hs | hs <;> have HSG := hideH hs <;> rw [hs] <;> clear hs
              · go_wp2
                go_ret
                refine ⟨?_, LR5.trans (hb35.mono LR5.size)⟩
                rw [HK.out, HS.out, HM.out, HSM.out, HSG.out]
                rfl
              · go_wp2
                go_roundw
                case rel => exact ⟨m + 1, by omega, by go_num, hb35, by show _ = _; rw [HM.out, HSM.out, HSG.out]; rfl⟩
                case measure => simp [intOf]; omega
            · have m1n : ¬ (m : Int) < (r.things[k].fs.length : Int) := by omega
              have E1 : showsRow r x.flds[q] r.things[k].fs = true := by rw [HM.out, List.drop_eq_nil_of_le (show r.things[k].fs.length ≤ m by omega)]; simp [showsRow]
              have hb36 := hbr5.trans (hbm.mono hbr5.size)
              have HE1 := hideH E1
              clear E1
              go_wp2
              go_roundw
              case rel => exact ⟨k + 1, by omega, by go_num, hb36, by show _ = _; rw [HK.out, HS.out, HE1.out]; rfl⟩
              case measure => simp [intOf]; omega
        · have n1 : ¬ (k : Int) < (r.things.length : Int) := by omega
          go_wp2
          go_ret
          refine ⟨?_, LR2⟩
          rw [HK.out, List.drop_eq_nil_of_le (by omega)]
          rfl
set_option maxHeartbeats 2000000 in
set_option maxRecDepth 10000 in
theorem showsOf_any {V F : Int} {c : List Ins} (x : Pic) (vs1 : Option Addr) (vc1 : Nat) (fs1 : Option Addr) (fc1 : Nat) (r : St) (rv : Option Addr) (rvc : Nat) (rt : Option Addr) (rtc : Nat) (rl : Option Addr) (rlc : Nat) (w : World) (hx : PicAt w x vs1 fs1) (hr : RunAt w r rv rt rl) (h0 : ckProg V F c = 0) (hck : ckPic V F c x = 0) (hok : RunOk V F c r) :
    Calls Tryz.prog 36 #[xv x vs1 vc1 fs1 fc1, runV r rv rvc rt rtc rl rlc] w fun e w' => e = .returned (.bool (showsPic x r)) ∧ Below w.heap.size w w' := by
  cases hn : x.none with
  | false => exact (showsOf_main x vs1 vc1 fs1 fc1 r rv rvc rt rtc rl rlc w hx hr h0 hck hok hn).mono fun e w' h => by rw [hn] at *; exact h
  | true =>
    have e : showsPic x r = false := by unfold showsPic; rw [hn]; rfl
    rw [e]
    unfold runV
    clear e hck hok
    go_enter Tryz.func36, Tryz.ntmps36
    go_wp2
    go_ret
    exact ⟨rfl, by go_grown⟩
end Go.Proofs.YtmapdpcfanecdaaGreat
