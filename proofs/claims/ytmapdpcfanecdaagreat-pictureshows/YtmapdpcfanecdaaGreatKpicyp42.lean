/- Walks over package picture: which values a row of guesses holds. -/
import Derived.Test.YtmapdpcfanecdaaGreatKpicyp41
import Derived.Test.YtmapdpcfanecdaaGreatKpicyp05
import Derived.Test.YtmapdpcfanecdaaGreatKpicyp28
import Derived.Test.YtmapdpcfanecdaaGreatKpicyp07
import Derived.Test.YtmapdpcfanecdaaGreatKpicyp09
import Derived.Deep.DeepCutAuto
import Derived.OwnWalk
import Derived.Deep.DrawnRows
namespace Go.Proofs.YtmapdpcfanecdaaGreat
set_option linter.unusedVariables false
set_option linter.unusedSimpArgs false
open Go.RowKit
attribute [local go_sem ↓] Go.wp_at_zero Go.wp_at_succ

/-- Where the program says that a value was made. -/
def siteP (l : List Thg) (v : Val) : Int := if v.k = 3 then (l.getD v.n.toNat ⟨0, []⟩).site else 0
theorem heldGs_siteP {r : St} {g : Gs} {v : Val} (h : okVal r.things.length v) : heldGs g v.k v.n (siteP r.things v) = heldV r g v := by
  unfold heldV heldGs siteP siteV
  rcases h with ⟨h, _⟩ | ⟨h, _⟩ | ⟨h, _⟩ | ⟨h, _⟩
  · rw [if_pos h, if_pos h]
  · rw [if_neg (by omega), if_pos h, if_neg (by omega), if_pos h]
  · rw [if_neg (by omega), if_neg (by omega), if_pos h, if_neg (by omega), if_neg (by omega), if_pos h]
  · simp [h]
theorem showsRow_step (r : St) (a : List Gs) (b : List Val) (k : Nat) (h : k < a.length) (h' : k < b.length) : showsRow r (a.drop k) (b.drop k) = (heldV r a[k] b[k] && showsRow r (a.drop (k + 1)) (b.drop (k + 1))) := by
  unfold showsRow
  rw [List.drop_eq_getElem_cons h, List.drop_eq_getElem_cons h']
  rfl
theorem okVal_kind {T : Nat} {v : Val} (h : okVal T v) : 0 ≤ v.k ∧ v.k ≤ 3 := by unfold okVal at h; omega
theorem ThgsAt.get {w : World} {s : Option Addr} {l : List Thg} (h : ThgsAt w s l) (k : Nat) (hk : k < l.length) : ∃ b off, s = some ⟨b, off, none⟩ ∧ b < w.heap.size ∧ ∀ k (h : k < l.length), w.cell? ⟨b, off + k * 2, none⟩ = some (.int .i64 l[k].site) ∧ ∃ f fc, w.cell? ⟨b, off + k * 2 + 1, none⟩ = some (.slice f l[k].fs.length fc) ∧ ValsAt w f l[k].fs := by
  rcases h with rfl | h
  · exact absurd hk (by simp)
  · exact h
theorem ThgsAt.call {w w' : World} {s : Option Addr} {l : List Thg} (h : ThgsAt w s l) (hb : Below w.heap.size w w') : ThgsAt w' s l := h.below hb (Nat.le_refl _)
theorem ValsAt.get {w : World} {s : Option Addr} {l : List Val} (h : ValsAt w s l) (k : Nat) (hk : k < l.length) : ∃ b off, s = some ⟨b, off, none⟩ ∧ b < w.heap.size ∧ w.cell? ⟨b, off + k * 2, none⟩ = some (.int .i64 l[k].k) ∧ w.cell? ⟨b, off + k * 2 + 1, none⟩ = some (.int .i64 l[k].n) := by
  rcases h with rfl | ⟨b, off, e, hb, h⟩
  · exact absurd hk (by simp)
  · exact ⟨b, off, e, hb, h k hk⟩
theorem ValsAt.call {w w' : World} {s : Option Addr} {l : List Val} (h : ValsAt w s l) (hb : Below w.heap.size w w') : ValsAt w' s l := h.below hb (Nat.le_refl _)
set_option maxHeartbeats 2000000 in
set_option maxRecDepth 10000 in
theorem siteOfP_any (v : Val) (ts : Option Addr) (l : List Thg) (tc : Nat) (w : World) (ht : ThgsAt w ts l) (hv : okVal l.length v) :
    Calls Tryz.prog 120 #[.agg #[.int .i64 v.k, .int .i64 v.n], .slice ts l.length tc] w fun e w' => e = .returned (.int .i64 (siteP l v)) ∧ Below w.heap.size w w' := by
  have hb0 : Below w.heap.size w (w.alloc (.cells #[.int .i64 v.k, .int .i64 v.n] 31)) := by go_grown
  by_cases h3 : v.k = 3
  · have hd : (v.k != 3) = false := by rw [h3]; rfl
    have hn : 0 ≤ v.n ∧ v.n < l.length := by unfold okVal at hv; omega
    obtain ⟨q, hq⟩ := Int.eq_ofNat_of_zero_le hn.1
    have hql : q < l.length := by omega
    obtain ⟨b, off, rfl, zb, hc⟩ := ht.get q hql
    have hcq := (hc q hql).1
    have es : siteP l v = l[q].site := by unfold siteP; rw [if_pos h3, hq]; simp [List.getD, List.getElem?_eq_getElem hql]
    rw [es, hq]
    rw [hq] at hb0
    have n0 : (0 : Int) ≤ (q : Int) := by omega
    have n1 : (q : Int) < (l.length : Int) := by omega
    generalize v.k = vk at *
    clear hc ht hv hn es hq
    go_enter Tryz.func120, Tryz.ntmps120
    go_wp2
    go_ret
    exact ⟨rfl, by go_grown⟩
  · have hd : (v.k != 3) = true := by simpa using h3
    have es : siteP l v = 0 := by unfold siteP; rw [if_neg h3]
    rw [es]
    clear es h3 hv
    go_enter Tryz.func120, Tryz.ntmps120
    go_wp2
    go_ret
    exact ⟨rfl, by go_grown⟩
set_option maxHeartbeats 4000000 in
set_option maxRecDepth 10000 in
theorem holdsRowP_any (V F : Int) (s : Option Addr) (c : List Ins) (cap : Nat) (r : St) (L : List Gs) (gs : Option Addr) (gc : Nat) (vl : List Val) (vs : Option Addr) (vc : Nat) (ts : Option Addr) (tc : Nat) (w : World) (hcd : CodeAt w s c) (hG : GsAt w gs L) (hV : ValsAt w vs vl) (hT : ThgsAt w ts r.things) (h0 : ckProg V F c = 0) (hR : ∀ g ∈ L, ckGs c g = 0) (hO : ∀ v ∈ vl, okVal r.things.length v) (hl : L.length = vl.length) (hm : vl.length ≤ 1000) :
    Calls Tryz.prog 79 #[pv V F s c cap, .slice gs L.length gc, .slice vs vl.length vc, .slice ts r.things.length tc] w fun e w' => e = .returned (.bool (showsRow r L vl)) ∧ Below w.heap.size w w' := by
  have HR := hideH hR
  have HO := hideH hO
  have HLE := hideH hl
  obtain ⟨res, HRES, hres⟩ : ∃ q, Hid (q = showsRow r L vl) ∧ showsRow r L vl = q := ⟨_, rfl, rfl⟩
  rw [hres]
  clear hres hR hO hl
  have P0 := PrAt.new w V F s c cap
  have B0 : Below w.heap.size w (w.alloc (.cells #[.int .i64 V, .int .i64 F, .slice s c.length cap] 24)) := by go_grown
  go_enter Tryz.func79, Tryz.ntmps79
  go_upto_region 2 with fail
  generalize w.alloc (.cells #[.int .i64 V, .int .i64 F, .slice s c.length cap] 24) = w1 at *
  go_wp2
  go_loopw [15] (fun i wr => ∃ k : Nat, k ≤ vl.length ∧ i = .int .i64 k ∧ Below w1.heap.size w1 wr ∧ Hid (res = showsRow r (L.drop k) (vl.drop k))) (fun i _ => vl.length - (intOf i).toNat)
  case atStart => exact ⟨0, Nat.zero_le _, rfl, Below.refl _ _, HRES⟩
  case round =>
    obtain ⟨k, hk, rfl, hbr, HK⟩ := hrel
    have LR := B0.trans (hbr.mono B0.size)
    by_cases hlt : k < vl.length
    · have n0 : (0 : Int) ≤ (k : Int) := by omega
      have n1 : (k : Int) < (vl.length : Int) := by omega
      have hlt' : k < L.length := by have := HLE.out; omega
      have n2 : (k : Int) < (L.length : Int) := by omega
      obtain ⟨b1, o1, e1, ss1, g1, G1, I1, k1, m1⟩ := (hG.below LR (Nat.le_refl _)) k hlt'
      obtain ⟨b2, o2, e2, zb2, V1, V2⟩ := (hV.below LR (Nat.le_refl _)).get k hlt
      subst e1 e2
      have hRx := HR.out _ (List.getElem_mem hlt')
      have hOk := HO.out _ (List.getElem_mem hlt)
      have HS := hideH (showsRow_step r L vl k hlt' hlt)
      have hb4 : Below wr.heap.size wr (wr.alloc (.cells #[.int .i64 vl[k].k, .int .i64 vl[k].n] 31)) := by go_grown
      have Q4 : (wr.alloc (.cells #[.int .i64 vl[k].k, .int .i64 vl[k].n] 31)).cell? ⟨wr.heap.size, 0, none⟩ = some (.int .i64 vl[k].k) ∧ (wr.alloc (.cells #[.int .i64 vl[k].k, .int .i64 vl[k].n] 31)).cell? ⟨wr.heap.size, 1, none⟩ = some (.int .i64 vl[k].n) := by simp [go_sem]
      have q4 : wr.heap.size < (wr.alloc (.cells #[.int .i64 vl[k].k, .int .i64 vl[k].n] 31)).heap.size := by simp
      have I4 := I1.call hb4
      have G4 := G1.call hb4
      have T4 := (hT.below LR (Nat.le_refl _)).call hb4
      have C4 := (hcd.below LR (Nat.le_refl _)).call hb4
      have hb34 := hbr.trans (hb4.mono hbr.size)
      go_upto_region 4 with fail
      generalize wr.alloc (.cells #[.int .i64 vl[k].k, .int .i64 vl[k].n] 31) = w4 at *
      generalize wr.heap.size = qb at *
      clear V1 V2 G1 I1
      have HKZ : Hid (∀ wx, Below w4.heap.size w4 wx → (wx.cell? ⟨w.heap.size, 0, none⟩ = some (.int .i64 V) ∧ wx.cell? ⟨w.heap.size, 1, none⟩ = some (.int .i64 F) ∧ wx.cell? ⟨w.heap.size, 2, none⟩ = some (.slice s c.length cap)) ∧ (wx.cell? ⟨b1, o1 + k * 7, none⟩ = some (.bool L[k].n) ∧ wx.cell? ⟨b1, o1 + k * 7 + 1, none⟩ = some (.bool L[k].sp.n) ∧ wx.cell? ⟨b1, o1 + k * 7 + 2, none⟩ = some (.int .i64 L[k].sp.lo) ∧ wx.cell? ⟨b1, o1 + k * 7 + 3, none⟩ = some (.int .i64 L[k].sp.hi) ∧ wx.cell? ⟨b1, o1 + k * 7 + 4, none⟩ = some (.bool L[k].t) ∧ wx.cell? ⟨b1, o1 + k * 7 + 5, none⟩ = some (.bool L[k].f) ∧ wx.cell? ⟨b1, o1 + k * 7 + 6, none⟩ = some (.slice ss1 L[k].s.length g1)) ∧ (wx.cell? ⟨qb, 0, none⟩ = some (.int .i64 vl[k].k) ∧ wx.cell? ⟨qb, 1, none⟩ = some (.int .i64 vl[k].n))) := fun wx hx => ⟨((P0.call hb34).call hx).1, (G4.call hx).1, by rw [hx.cell (by simp only; exact q4)]; exact Q4.1, by rw [hx.cell (by simp only; exact q4)]; exact Q4.2⟩
      have HD : Below w4.heap.size w4 w4.drew := (Below.refl _ _).drew
      have eK := heldGs_siteP (g := L[k]) hOk
      have HHU : Hid (∀ wx, Below w4.heap.size w4 wx → Calls Tryz.prog 10 #[pv V F s c cap, gv L[k] ss1 g1, .agg #[.int .i64 vl[k].k, .int .i64 vl[k].n], .int .i64 (siteP r.things vl[k])] wx fun e w' => e = .returned (.tuple #[.bool (heldV r L[k] vl[k]), .int .i64 0]) ∧ Below wx.heap.size wx w') := fun wx hx => by
        have e0 : kindE (ckAllG V F c [L[k]]) vl[k].k = 0 := by
          have e00 : ckAllG V F c [L[k]] = 0 := by unfold ckAllG; rw [if_pos h0]; unfold ckGss; rw [if_pos hRx]; rfl
          rw [e00]
          have := okVal_kind hOk
          unfold kindE
          rw [if_pos rfl, if_neg (by omega)]
        have := holdsU V F s c cap L[k] ss1 g1 vl[k].k vl[k].n (siteP r.things vl[k]) wx (C4.call hx) (I4.call hx) k1 m1
        rw [e0, if_pos rfl, eK] at this
        exact this
      clear eK
      refine wp_region_z (S := (fun wx => (wx.cell? ⟨w.heap.size, 0, none⟩ = some (.int .i64 V) ∧ wx.cell? ⟨w.heap.size, 1, none⟩ = some (.int .i64 F) ∧ wx.cell? ⟨w.heap.size, 2, none⟩ = some (.slice s c.length cap)) ∧ (wx.cell? ⟨b1, o1 + k * 7, none⟩ = some (.bool L[k].n) ∧ wx.cell? ⟨b1, o1 + k * 7 + 1, none⟩ = some (.bool L[k].sp.n) ∧ wx.cell? ⟨b1, o1 + k * 7 + 2, none⟩ = some (.int .i64 L[k].sp.lo) ∧ wx.cell? ⟨b1, o1 + k * 7 + 3, none⟩ = some (.int .i64 L[k].sp.hi) ∧ wx.cell? ⟨b1, o1 + k * 7 + 4, none⟩ = some (.bool L[k].t) ∧ wx.cell? ⟨b1, o1 + k * 7 + 5, none⟩ = some (.bool L[k].f) ∧ wx.cell? ⟨b1, o1 + k * 7 + 6, none⟩ = some (.slice ss1 L[k].s.length g1)) ∧ (wx.cell? ⟨qb, 0, none⟩ = some (.int .i64 vl[k].k) ∧ wx.cell? ⟨qb, 1, none⟩ = some (.int .i64 vl[k].n)))) [] (by kernel_rfl) (HKZ.out _ HD) (fun hHeld => ?_)
      refine tkZ 0 ?_ ?_ ?_
      rotate_left
      · exact rn
      (try simp only [Act.put, List.getElem_toArray, List.getElem_cons_zero, List.getElem_cons_succ, List.setIfInBounds_toArray, List.set_cons_zero, List.set_cons_succ])
      refine tkZ 1 ?_ ?_ ?_
      rotate_left
      · exact rn
      (try simp only [Act.put, List.getElem_toArray, List.getElem_cons_zero, List.getElem_cons_succ, List.setIfInBounds_toArray, List.set_cons_zero, List.set_cons_succ])
      refine tkZ 2 ?_ ?_ ?_
      rotate_left
      · exact rn
      (try simp only [Act.put, List.getElem_toArray, List.getElem_cons_zero, List.getElem_cons_succ, List.setIfInBounds_toArray, List.set_cons_zero, List.set_cons_succ])
      refine tkZ 3 ?_ ?_ ?_
      rotate_left
      · exact rn
      (try simp only [Act.put, List.getElem_toArray, List.getElem_cons_zero, List.getElem_cons_succ, List.setIfInBounds_toArray, List.set_cons_zero, List.set_cons_succ])
      refine tkZ 4 ?_ ?_ ?_
      rotate_left
      · exact rn
      (try simp only [Act.put, List.getElem_toArray, List.getElem_cons_zero, List.getElem_cons_succ, List.setIfInBounds_toArray, List.set_cons_zero, List.set_cons_succ])
      refine tkZ 5 ?_ ?_ ?_
      rotate_left
      · exact rn
      (try simp only [Act.put, List.getElem_toArray, List.getElem_cons_zero, List.getElem_cons_succ, List.setIfInBounds_toArray, List.set_cons_zero, List.set_cons_succ])
      refine tkZ 6 ?_ ?_ ?_
      rotate_left
      · exact rn
      (try simp only [Act.put, List.getElem_toArray, List.getElem_cons_zero, List.getElem_cons_succ, List.setIfInBounds_toArray, List.set_cons_zero, List.set_cons_succ])
      refine tkZ 7 ?_ ?_ ?_
      rotate_left
      · exact rn
      (try simp only [Act.put, List.getElem_toArray, List.getElem_cons_zero, List.getElem_cons_succ, List.setIfInBounds_toArray, List.set_cons_zero, List.set_cons_succ])
      refine wpAnyZ_one (i := 8) rfl (by kernel_rfl) (fun K hK => ?_)
      go_simp
      go_at_call 120
      refine (siteOfP_any vl[k] ts r.things tc _ (T4.call HD) hOk).mono ?_
      rintro e w5 ⟨rfl, hb5⟩
      have HB5 : Below w4.heap.size w4 w5 := HD.trans (hb5.mono HD.size)
      go_wp2_with fail
      refine hK.out _ _ (HKZ.out _ HB5) (fun hHeld => ?_)
      clear hK K
      (try simp only [Act.put, List.getElem_toArray, List.getElem_cons_zero, List.getElem_cons_succ, List.setIfInBounds_toArray, List.set_cons_zero, List.set_cons_succ])
      refine wpAnyZ_one (i := 9) rfl (by kernel_rfl) (fun K hK => ?_)
      go_simp
      go_at_call 10
      refine (HHU.out _ HB5).mono ?_
      rintro e w6 ⟨rfl, hb6⟩
      have HB6 : Below w4.heap.size w4 w6 := HB5.trans (hb6.mono HB5.size)
      go_wp2_with fail
      refine hK.out _ _ (HKZ.out _ HB6) (fun hHeld => ?_)
      clear hK K
      (try simp only [Act.put, List.getElem_toArray, List.getElem_cons_zero, List.getElem_cons_succ, List.setIfInBounds_toArray, List.set_cons_zero, List.set_cons_succ])
      refine tkZ 10 ?_ ?_ ?_
      rotate_left
      · exact rn
      (try simp only [Act.put, List.getElem_toArray, List.getElem_cons_zero, List.getElem_cons_succ, List.setIfInBounds_toArray, List.set_cons_zero, List.set_cons_succ])
      refine tkZ 11 ?_ ?_ ?_
      rotate_left
      · exact rn
      (try simp only [Act.put, List.getElem_toArray, List.getElem_cons_zero, List.getElem_cons_succ, List.setIfInBounds_toArray, List.set_cons_zero, List.set_cons_succ])
      refine tkZ 12 ?_ ?_ ?_
      rotate_left
      · exact rn
      (try simp only [Act.put, List.getElem_toArray, List.getElem_cons_zero, List.getElem_cons_succ, List.setIfInBounds_toArray, List.set_cons_zero, List.set_cons_succ])
      refine tkZ 13 ?_ ?_ ?_
      rotate_left
      · exact rn
      (try simp only [Act.put, List.getElem_toArray, List.getElem_cons_zero, List.getElem_cons_succ, List.setIfInBounds_toArray, List.set_cons_zero, List.set_cons_succ])
      refine tkZ 14 ?_ ?_ ?_
      rotate_left
      · exact rn
      (try simp only [Act.put, List.getElem_toArray, List.getElem_cons_zero, List.getElem_cons_succ, List.setIfInBounds_toArray, List.set_cons_zero, List.set_cons_succ])
      refine wpAnyZ_done (by kernel_rfl) ?_ _
      have hb35 := hb34.trans (HB6.mono hb34.size)
      rcases (show heldV r L[k] vl[k] = false ∨ heldV r L[k] vl[k] = true by cases heldV r L[k] vl[k] <;> simp) with hs | hs <;> have HSG := hideH hs <;> rw [hs] <;> clear hs
      · go_wp2
        go_ret
        refine ⟨?_, B0.trans (hb35.mono B0.size)⟩
        rw [HK.out, HS.out, HSG.out]
        rfl
      · go_wp2
        go_roundw
        case rel => exact ⟨k + 1, by omega, by go_num, hb35, by show _ = _; rw [HK.out, HS.out, HSG.out]; rfl⟩
        case measure => simp [intOf]; omega
    · have n1 : ¬ (k : Int) < (vl.length : Int) := by omega
      go_wp2
      go_ret
      refine ⟨?_, LR⟩
      rw [HK.out, List.drop_eq_nil_of_le (show vl.length ≤ k by omega)]
      simp [showsRow]
end Go.Proofs.YtmapdpcfanecdaaGreat
