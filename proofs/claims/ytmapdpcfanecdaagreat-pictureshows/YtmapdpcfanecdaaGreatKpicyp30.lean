/- Walks over package picture: is it nothing? are both the same? -/
import Derived.Test.YtmapdpcfanecdaaGreatKpicyp29
import Derived.Test.YtmapdpcfanecdaaGreatKpicyp22
import Derived.Test.YtmapdpcfanecdaaGreatKpicyp28
import Derived.Test.YtmapdpcfanecdaaGreatKpicyp09
import Derived.Deep.DeepCutAuto
import Derived.Test.YtmapdpcfanecdaaGreatShelf
namespace Go.Proofs.YtmapdpcfanecdaaGreat
set_option linter.unusedVariables false
set_option linter.unusedSimpArgs false
open Go.RowKit
attribute [local go_sem ↓] Go.wp_at_zero Go.wp_at_succ

set_option maxHeartbeats 1000000 in
theorem nothingP_any (w : World) : Calls Tryz.prog 67 #[] w fun e w' => e = .returned (.agg #[.bool false, .bool true, .int .i64 0, .int .i64 0, .bool false, .bool false, .slice none 0 0]) ∧ Below w.heap.size w w' := by
  go_enter Tryz.func67, Tryz.ntmps67
  go_wp2
  refine bodyPost_ret (v := .agg #[.bool false, .bool true, .int .i64 0, .int .i64 0, .bool false, .bool false, .slice none 0 0]) (by simp [results, Tryz.results67, go_sem]) rfl ⟨rfl, by go_grown⟩
/-- Two lists of numbers, held against each other. -/
theorem equalI_any (a b : List Int) (ss : Option Addr) (gc : Nat) (st : Option Addr) (hc : Nat) (w : World) (ha : a.length ≤ maxLen) (hb : b.length ≤ maxLen) (h1 : IntsAt w ss a) (h2 : IntsAt w st b) :
    Calls Tryz.prog 138 #[.slice ss a.length gc, .slice st b.length hc] w fun e w' => e = .returned (.bool (decide (a = b))) ∧ Below w.heap.size w w' := by
  have hm : maxLen ≤ 9223372036854775807 := by decide
  rcases h1 with rfl | ⟨b1, o1, rfl, hb1, hc1⟩
  · refine (Tryz.slices_Equal_int_empty ss st gc b.length hc w (by omega)).mono ?_
    rintro e w' ⟨rfl, rfl⟩
    refine ⟨ret_bool ?_, Below.refl _ _⟩
    cases b <;> simp
  · rcases h2 with rfl | ⟨b2, o2, rfl, hb2, hc2⟩
    · by_cases h0 : a.length = 0
      · have e0 : a = [] := List.eq_nil_of_length_eq_zero h0
        subst e0
        refine (Tryz.slices_Equal_int_empty (some ⟨b1, o1, none⟩) st gc 0 hc w (by omega)).mono ?_
        rintro e w' ⟨rfl, rfl⟩
        exact ⟨rfl, Below.refl _ _⟩
      · have e1 : decide (a = []) = false := by
          have : a ≠ [] := fun e => h0 (by rw [e]; rfl)
          simpa using this
        rw [e1]
        have e2 : ((a.length : Int) != 0) = true := by simp; exact fun e => h0 (by rw [e]; rfl)
        clear e1 h0 hc1 hb1
        go_enter Tryz.func138, Tryz.ntmps138
        go_wp2
        go_ret
        exact ⟨rfl, Below.refl _ _⟩
    · refine (Tryz.slices_Equal_int b1 o1 a.length gc b2 o2 b.length hc a b w (Nat.le_refl _) (Nat.le_refl _) (by omega) (by omega) (fun j hj => by rw [hc1 j hj]; simp [List.getD, hj]) (fun j hj => by rw [hc2 j hj]; simp [List.getD, hj])).mono ?_
      rintro e w' ⟨rfl, q, rfl⟩
      refine ⟨ret_bool ?_, below_drewN (Below.refl _ _) q⟩
      rw [List.take_length, List.take_length]
      by_cases h : a = b
      · simp [h]
      · simp [h]
set_option maxHeartbeats 4000000 in
set_option maxRecDepth 10000 in
theorem isSame_any (g : Gs) (ss : Option Addr) (gc : Nat) (h : Gs) (st : Option Addr) (hc : Nat) (w : World) (hs : IntsAt w ss g.s) (ht : IntsAt w st h.s) (h1 : g.s.length ≤ maxLen) (h2 : h.s.length ≤ maxLen) :
    Calls Tryz.prog 111 #[gv g ss gc, gv h st hc] w fun e w' => e = .returned (.bool (sameGs g h)) ∧ Below w.heap.size w w' := by
  have B0 : Below w.heap.size w ((w.alloc (.cells #[.bool g.n, .bool g.sp.n, .int .i64 g.sp.lo, .int .i64 g.sp.hi, .bool g.t, .bool g.f, .slice ss g.s.length gc] 29)).alloc (.cells #[.bool h.n, .bool h.sp.n, .int .i64 h.sp.lo, .int .i64 h.sp.hi, .bool h.t, .bool h.f, .slice st h.s.length hc] 29)) := by go_grown
  have HE := hideH (equalI_any g.s h.s ss gc st hc ((w.alloc (.cells #[.bool g.n, .bool g.sp.n, .int .i64 g.sp.lo, .int .i64 g.sp.hi, .bool g.t, .bool g.f, .slice ss g.s.length gc] 29)).alloc (.cells #[.bool h.n, .bool h.sp.n, .int .i64 h.sp.lo, .int .i64 h.sp.hi, .bool h.t, .bool h.f, .slice st h.s.length hc] 29)) h1 h2 (hs.below B0 (Nat.le_refl _)) (ht.below B0 (Nat.le_refl _)))
  have HR : Hid (sameGs g h = (g.n == h.n && (decide (g.sp = h.sp) && (g.t == h.t && (g.f == h.f && decide (g.s = h.s)))))) := rfl
  generalize sameGs g h = r at HR ⊢
  generalize decide (g.s = h.s) = q at HR HE
  clear hs ht
  by_cases e1 : g.n = h.n
  · by_cases e2 : g.sp = h.sp
    · by_cases e3 : g.t = h.t
      · by_cases e4 : g.f = h.f
        · have HQ : Hid (r = q) := by show _ = _; rw [HR.out, e1, e2, e3, e4]; simp
          clear HR
          obtain ⟨n, sp, t, f, sl⟩ := g
          obtain ⟨n', sp', t', f', sl'⟩ := h
          simp only at e1 e2 e3 e4 HE h1 h2
          subst e1 e2 e3 e4
          go_enter Tryz.func111, Tryz.ntmps111
          go_wp2_with (go_at_call 138; fail)
          refine HE.out.mono ?_
          rintro e w1 ⟨rfl, hb1⟩
          go_wp2
          go_ret
          exact ⟨ret_bool HQ.out.symm, Below.trans (by go_grown) (hb1.mono (by simp; omega))⟩
        · have HQ : Hid (r = false) := by show _ = _; rw [HR.out, e1, e2, e3]; simp [e4]
          have d4 : (g.f == h.f) = false := by simpa using e4
          clear HR HE e4
          obtain ⟨n, sp, t, f, sl⟩ := g
          obtain ⟨n', sp', t', f', sl'⟩ := h
          simp only at e1 e2 e3 d4 h1 h2
          subst e1 e2 e3
          go_enter Tryz.func111, Tryz.ntmps111
          go_wp2
          go_ret
          exact ⟨ret_bool HQ.out.symm, by go_grown⟩
      · have HQ : Hid (r = false) := by show _ = _; rw [HR.out, e1, e2]; simp [e3]
        have d3 : (g.t == h.t) = false := by simpa using e3
        clear HR HE e3
        obtain ⟨n, sp, t, f, sl⟩ := g
        obtain ⟨n', sp', t', f', sl'⟩ := h
        simp only at e1 e2 d3 h1 h2
        subst e1 e2
        go_enter Tryz.func111, Tryz.ntmps111
        go_wp2
        go_ret
        exact ⟨ret_bool HQ.out.symm, by go_grown⟩
    · have HQ : Hid (r = false) := by show _ = _; rw [HR.out, e1]; simp [e2]
      clear HR HE
      obtain ⟨n, ⟨sn, lo, hi⟩, t, f, sl⟩ := g
      obtain ⟨n', ⟨sn', lo', hi'⟩, t', f', sl'⟩ := h
      simp only at e1 e2 h1 h2
      subst e1
      by_cases a1 : sn = sn'
      · subst a1
        by_cases a2 : lo = lo'
        · subst a2
          have a3 : ¬ hi = hi' := fun e => e2 (by rw [e])
          clear e2
          go_enter Tryz.func111, Tryz.ntmps111
          go_wp2
          go_ret
          exact ⟨ret_bool HQ.out.symm, by go_grown⟩
        · clear e2
          go_enter Tryz.func111, Tryz.ntmps111
          go_wp2
          go_ret
          exact ⟨ret_bool HQ.out.symm, by go_grown⟩
      · clear e2
        go_enter Tryz.func111, Tryz.ntmps111
        go_wp2
        go_ret
        exact ⟨ret_bool HQ.out.symm, by go_grown⟩
  · have HQ : Hid (r = false) := by show _ = _; rw [HR.out]; simp [e1]
    have d1 : (g.n == h.n) = false := by simpa using e1
    clear HR HE e1
    obtain ⟨n, sp, t, f, sl⟩ := g
    obtain ⟨n', sp', t', f', sl'⟩ := h
    simp only at d1 h1 h2
    go_enter Tryz.func111, Tryz.ntmps111
    go_wp2
    go_ret
    exact ⟨ret_bool HQ.out.symm, by go_grown⟩

set_option maxHeartbeats 2000000 in
set_option maxRecDepth 10000 in
theorem isSomething_any (g : Gs) (ss : Option Addr) (gc : Nat) (w : World) (hs : IntsAt w ss g.s) (h1 : g.s.length ≤ maxLen) :
    Calls Tryz.prog 136 #[gv g ss gc] w fun e w' => e = .returned (.bool (someGs g)) ∧ Below w.heap.size w w' := by
  have B0 : Below w.heap.size w (w.alloc (.cells #[.bool g.n, .bool g.sp.n, .int .i64 g.sp.lo, .int .i64 g.sp.hi, .bool g.t, .bool g.f, .slice ss g.s.length gc] 29)) := by go_grown
  have G0 := GuAt.new w g ss gc
  have I0 := hs.below B0 (Nat.le_refl _)
  have HN := hideH nothingP_any
  have HI : Hid (∀ wx, IntsAt wx ss g.s → Calls Tryz.prog 111 #[gv g ss gc, .agg #[.bool false, .bool true, .int .i64 0, .int .i64 0, .bool false, .bool false, .slice none 0 0]] wx fun e w' => e = .returned (.bool (sameGs g noneG)) ∧ Below wx.heap.size wx w') := fun wx hx => isSame_any g ss gc noneG none 0 wx hx (.inl rfl) h1 (Nat.zero_le _)
  have HR : Hid (someGs g = !sameGs g noneG) := rfl
  generalize someGs g = r at HR ⊢
  generalize sameGs g noneG = q at HR HI
  clear hs
  go_enter Tryz.func136, Tryz.ntmps136
  go_upto_region 1 with fail
  generalize w.alloc (.cells #[.bool g.n, .bool g.sp.n, .int .i64 g.sp.lo, .int .i64 g.sp.hi, .bool g.t, .bool g.f, .slice ss g.s.length gc] 29) = w1 at *
  have HKZ : Hid (∀ wx, Below w1.heap.size w1 wx → (wx.cell? ⟨w.heap.size, 0, none⟩ = some (.bool g.n) ∧ wx.cell? ⟨w.heap.size, 0 + 1, none⟩ = some (.bool g.sp.n) ∧ wx.cell? ⟨w.heap.size, 0 + 2, none⟩ = some (.int .i64 g.sp.lo) ∧ wx.cell? ⟨w.heap.size, 0 + 3, none⟩ = some (.int .i64 g.sp.hi) ∧ wx.cell? ⟨w.heap.size, 0 + 4, none⟩ = some (.bool g.t) ∧ wx.cell? ⟨w.heap.size, 0 + 5, none⟩ = some (.bool g.f) ∧ wx.cell? ⟨w.heap.size, 0 + 6, none⟩ = some (.slice ss g.s.length gc))) := fun wx hx => (G0.call hx).1
  have HD : Below w1.heap.size w1 w1.drew := (Below.refl _ _).drew
  refine wp_region_z (S := (fun wx => (wx.cell? ⟨w.heap.size, 0, none⟩ = some (.bool g.n) ∧ wx.cell? ⟨w.heap.size, 0 + 1, none⟩ = some (.bool g.sp.n) ∧ wx.cell? ⟨w.heap.size, 0 + 2, none⟩ = some (.int .i64 g.sp.lo) ∧ wx.cell? ⟨w.heap.size, 0 + 3, none⟩ = some (.int .i64 g.sp.hi) ∧ wx.cell? ⟨w.heap.size, 0 + 4, none⟩ = some (.bool g.t) ∧ wx.cell? ⟨w.heap.size, 0 + 5, none⟩ = some (.bool g.f) ∧ wx.cell? ⟨w.heap.size, 0 + 6, none⟩ = some (.slice ss g.s.length gc)))) [] (by kernel_rfl) (HKZ.out _ HD) (fun hHeld => ?_)
  refine tkZ 0 ?_ ?_ ?_
  rotate_left
  · exact rn
  (try simp only [Act.put, List.getElem_toArray, List.getElem_cons_zero, List.getElem_cons_succ, List.setIfInBounds_toArray, List.set_cons_zero, List.set_cons_succ])
  refine wpAnyZ_one (i := 1) rfl (by kernel_rfl) (fun K hK => ?_)
  go_simp
  go_at_call 67
  refine (HN.out _).mono ?_
  rintro e w2 ⟨rfl, hb2⟩
  have HB2 : Below w1.heap.size w1 w2 := HD.trans (hb2.mono HD.size)
  go_wp2_with fail
  refine hK.out _ _ (HKZ.out _ HB2) (fun hHeld => ?_)
  clear hK K
  (try simp only [Act.put, List.getElem_toArray, List.getElem_cons_zero, List.getElem_cons_succ, List.setIfInBounds_toArray, List.set_cons_zero, List.set_cons_succ])
  refine wpAnyZ_one (i := 2) rfl (by kernel_rfl) (fun K hK => ?_)
  go_simp
  go_at_call 111
  refine (HI.out _ (I0.below HB2 (Nat.le_refl _))).mono ?_
  rintro e w3 ⟨rfl, hb3⟩
  have HB3 : Below w1.heap.size w1 w3 := HB2.trans (hb3.mono HB2.size)
  go_wp2_with fail
  refine hK.out _ _ (HKZ.out _ HB3) (fun hHeld => ?_)
  clear hK K
  (try simp only [Act.put, List.getElem_toArray, List.getElem_cons_zero, List.getElem_cons_succ, List.setIfInBounds_toArray, List.set_cons_zero, List.set_cons_succ])
  refine tkZ 3 ?_ ?_ ?_
  rotate_left
  · exact rn
  (try simp only [Act.put, List.getElem_toArray, List.getElem_cons_zero, List.getElem_cons_succ, List.setIfInBounds_toArray, List.set_cons_zero, List.set_cons_succ])
  refine tkZ 4 ?_ ?_ ?_
  rotate_left
  · exact rn
  (try simp only [Act.put, List.getElem_toArray, List.getElem_cons_zero, List.getElem_cons_succ, List.setIfInBounds_toArray, List.set_cons_zero, List.set_cons_succ])
  refine wpAnyZ_done (by kernel_rfl) ?_ _
  go_wp2
  go_ret
  exact ⟨ret_bool HR.out.symm, B0.trans (HB3.mono B0.size)⟩
end Go.Proofs.YtmapdpcfanecdaaGreat
