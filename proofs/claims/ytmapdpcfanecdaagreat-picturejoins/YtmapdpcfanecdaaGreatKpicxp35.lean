/- Walks over package picture: all guesses of a picture. -/
import Derived.Test.YtmapdpcfanecdaaGreatKpicxp34
import Derived.Test.YtmapdpcfanecdaaGreatShelf
import Derived.Test.YtmapdpcfanecdaaGreatKpicxp07
import Derived.Deep.DeepCutAuto
import Derived.Lib.AppendZeros
import Derived.Laws.AppendOwn
namespace Go.Proofs.YtmapdpcfanecdaaGreat
set_option linter.unusedVariables false
set_option linter.unusedSimpArgs false
open Go.RowKit
attribute [local go_sem ↓] Go.wp_at_zero Go.wp_at_succ

set_option maxHeartbeats 1000000 in
theorem nothingP_any (w : World) : Calls Tryz.prog 67 #[] w fun e w' => e = .returned (.agg #[.bool false, .bool true, .int .i64 0, .int .i64 0, .bool false, .bool false, .slice none 0 0]) ∧ Below w.heap.size w w' := by
  go_enter Tryz.func67, Tryz.ntmps67
  go_wp2
  refine bodyPost_ret (v := .agg #[.bool false, .bool true, .int .i64 0, .int .i64 0, .bool false, .bool false, .slice none 0 0]) (by simp [results, Tryz.results67, go_sem]) rfl ⟨rfl, by go_grown⟩
/-- Two lists of numbers, held against each other. -/
theorem equalI_any (a b : List Int) (ss : Option Addr) (gc : Nat) (st : Option Addr) (hc : Nat) (w : World) (ha : a.length ≤ maxLen) (hb : b.length ≤ maxLen) (h1 : IntsAt w ss a) (h2 : IntsAt w st b) :
    Calls Tryz.prog 138 #[.slice ss a.length gc, .slice st b.length hc] w fun e w' => e = .returned (.bool (decide (a = b))) ∧ Below w.heap.size w w' := by
  have hm : maxLen ≤ 9223372036854775807 := by decide
  rcases h1 with rfl | ⟨b1, o1, rfl, hb1, hc1⟩
  · refine (Tryz.slices_Equal_int_empty ss st gc b.length hc w (by omega)).mono ?_
    rintro e w' ⟨rfl, rfl⟩
    refine ⟨ret_bool ?_, Below.refl _ _⟩
    cases b <;> simp
  · rcases h2 with rfl | ⟨b2, o2, rfl, hb2, hc2⟩
    · by_cases h0 : a.length = 0
      · have e0 : a = [] := List.eq_nil_of_length_eq_zero h0
        subst e0
        refine (Tryz.slices_Equal_int_empty (some ⟨b1, o1, none⟩) st gc 0 hc w (by omega)).mono ?_
        rintro e w' ⟨rfl, rfl⟩
        exact ⟨rfl, Below.refl _ _⟩
      · have e1 : decide (a = []) = false := by
          have : a ≠ [] := fun e => h0 (by rw [e]; rfl)
          simpa using this
        rw [e1]
        have e2 : ((a.length : Int) != 0) = true := by simp; exact fun e => h0 (by rw [e]; rfl)
        clear e1 h0 hc1 hb1
        go_enter Tryz.func138, Tryz.ntmps138
        go_wp2
        go_ret
        exact ⟨rfl, Below.refl _ _⟩
    · refine (Tryz.slices_Equal_int b1 o1 a.length gc b2 o2 b.length hc a b w (Nat.le_refl _) (Nat.le_refl _) (by omega) (by omega) (fun j hj => by rw [hc1 j hj]; simp [List.getD, hj]) (fun j hj => by rw [hc2 j hj]; simp [List.getD, hj])).mono ?_
      rintro e w' ⟨rfl, q, rfl⟩
      refine ⟨ret_bool ?_, below_drewN (Below.refl _ _) q⟩
      rw [List.take_length, List.take_length]
      by_cases h : a = b
      · simp [h]
      · simp [h]
set_option maxHeartbeats 4000000 in
set_option maxRecDepth 10000 in
theorem isSame_any (g : Gs) (ss : Option Addr) (gc : Nat) (h : Gs) (st : Option Addr) (hc : Nat) (w : World) (hs : IntsAt w ss g.s) (ht : IntsAt w st h.s) (h1 : g.s.length ≤ maxLen) (h2 : h.s.length ≤ maxLen) :
    Calls Tryz.prog 111 #[gv g ss gc, gv h st hc] w fun e w' => e = .returned (.bool (sameGs g h)) ∧ Below w.heap.size w w' := by
  have B0 : Below w.heap.size w ((w.alloc (.cells #[.bool g.n, .bool g.sp.n, .int .i64 g.sp.lo, .int .i64 g.sp.hi, .bool g.t, .bool g.f, .slice ss g.s.length gc] 29)).alloc (.cells #[.bool h.n, .bool h.sp.n, .int .i64 h.sp.lo, .int .i64 h.sp.hi, .bool h.t, .bool h.f, .slice st h.s.length hc] 29)) := by go_grown
  have HE := hideH (equalI_any g.s h.s ss gc st hc ((w.alloc (.cells #[.bool g.n, .bool g.sp.n, .int .i64 g.sp.lo, .int .i64 g.sp.hi, .bool g.t, .bool g.f, .slice ss g.s.length gc] 29)).alloc (.cells #[.bool h.n, .bool h.sp.n, .int .i64 h.sp.lo, .int .i64 h.sp.hi, .bool h.t, .bool h.f, .slice st h.s.length hc] 29)) h1 h2 (hs.below B0 (Nat.le_refl _)) (ht.below B0 (Nat.le_refl _)))
  have HR : Hid (sameGs g h = (g.n == h.n && (@decide _ (g.sp.dq h.sp) && (g.t == h.t && (g.f == h.f && decide (g.s = h.s)))))) := rfl
  generalize sameGs g h = r at HR ⊢
  generalize decide (g.s = h.s) = q at HR HE
  clear hs ht
  by_cases e1 : g.n = h.n
  · by_cases e2 : g.sp = h.sp
    · by_cases e3 : g.t = h.t
      · by_cases e4 : g.f = h.f
        · have HQ : Hid (r = q) := by show _ = _; rw [HR.out, e1, e2, e3, e4]; simp
          clear HR
          obtain ⟨n, sp, t, f, sl⟩ := g
          obtain ⟨n', sp', t', f', sl'⟩ := h
          simp only at e1 e2 e3 e4 HE h1 h2
          subst e1 e2 e3 e4
          go_enter Tryz.func111, Tryz.ntmps111
          go_wp2_with (go_at_call 138; fail)
          refine HE.out.mono ?_
          rintro e w1 ⟨rfl, hb1⟩
          go_wp2
          go_ret
          exact ⟨ret_bool HQ.out.symm, Below.trans (by go_grown) (hb1.mono (by simp; omega))⟩
        · have HQ : Hid (r = false) := by show _ = _; rw [HR.out, e1, e2, e3]; simp [e4]
          have d4 : (g.f == h.f) = false := by simpa using e4
          clear HR HE e4
          obtain ⟨n, sp, t, f, sl⟩ := g
          obtain ⟨n', sp', t', f', sl'⟩ := h
          simp only at e1 e2 e3 d4 h1 h2
          subst e1 e2 e3
          go_enter Tryz.func111, Tryz.ntmps111
          go_wp2
          go_ret
          exact ⟨ret_bool HQ.out.symm, by go_grown⟩
      · have HQ : Hid (r = false) := by show _ = _; rw [HR.out, e1, e2]; simp [e3]
        have d3 : (g.t == h.t) = false := by simpa using e3
        clear HR HE e3
        obtain ⟨n, sp, t, f, sl⟩ := g
        obtain ⟨n', sp', t', f', sl'⟩ := h
        simp only at e1 e2 d3 h1 h2
        subst e1 e2
        go_enter Tryz.func111, Tryz.ntmps111
        go_wp2
        go_ret
        exact ⟨ret_bool HQ.out.symm, by go_grown⟩
    · have HQ : Hid (r = false) := by show _ = _; rw [HR.out, e1]; simp [e2]
      clear HR HE
      obtain ⟨n, ⟨sn, lo, hi⟩, t, f, sl⟩ := g
      obtain ⟨n', ⟨sn', lo', hi'⟩, t', f', sl'⟩ := h
      simp only at e1 e2 h1 h2
      subst e1
      by_cases a1 : sn = sn'
      · subst a1
        by_cases a2 : lo = lo'
        · subst a2
          have a3 : ¬ hi = hi' := fun e => e2 (by rw [e])
          clear e2
          go_enter Tryz.func111, Tryz.ntmps111
          go_wp2
          go_ret
          exact ⟨ret_bool HQ.out.symm, by go_grown⟩
        · clear e2
          go_enter Tryz.func111, Tryz.ntmps111
          go_wp2
          go_ret
          exact ⟨ret_bool HQ.out.symm, by go_grown⟩
      · clear e2
        go_enter Tryz.func111, Tryz.ntmps111
        go_wp2
        go_ret
        exact ⟨ret_bool HQ.out.symm, by go_grown⟩
  · have HQ : Hid (r = false) := by show _ = _; rw [HR.out]; simp [e1]
    have d1 : (g.n == h.n) = false := by simpa using e1
    clear HR HE e1
    obtain ⟨n, sp, t, f, sl⟩ := g
    obtain ⟨n', sp', t', f', sl'⟩ := h
    simp only at d1 h1 h2
    go_enter Tryz.func111, Tryz.ntmps111
    go_wp2
    go_ret
    exact ⟨ret_bool HQ.out.symm, by go_grown⟩

set_option maxHeartbeats 2000000 in
set_option maxRecDepth 10000 in
theorem isSomething_any (g : Gs) (ss : Option Addr) (gc : Nat) (w : World) (hs : IntsAt w ss g.s) (h1 : g.s.length ≤ maxLen) :
    Calls Tryz.prog 136 #[gv g ss gc] w fun e w' => e = .returned (.bool (someGs g)) ∧ Below w.heap.size w w' := by
  have B0 : Below w.heap.size w (w.alloc (.cells #[.bool g.n, .bool g.sp.n, .int .i64 g.sp.lo, .int .i64 g.sp.hi, .bool g.t, .bool g.f, .slice ss g.s.length gc] 29)) := by go_grown
  have G0 := GuAt.new w g ss gc
  have I0 := hs.below B0 (Nat.le_refl _)
  have HN := hideH nothingP_any
  have HI : Hid (∀ wx, IntsAt wx ss g.s → Calls Tryz.prog 111 #[gv g ss gc, .agg #[.bool false, .bool true, .int .i64 0, .int .i64 0, .bool false, .bool false, .slice none 0 0]] wx fun e w' => e = .returned (.bool (sameGs g noneG)) ∧ Below wx.heap.size wx w') := fun wx hx => isSame_any g ss gc noneG none 0 wx hx (.inl rfl) h1 (Nat.zero_le _)
  have HR : Hid (someGs g = !sameGs g noneG) := rfl
  generalize someGs g = r at HR ⊢
  generalize sameGs g noneG = q at HR HI
  clear hs
  go_enter Tryz.func136, Tryz.ntmps136
  go_upto_region 1 with fail
  generalize w.alloc (.cells #[.bool g.n, .bool g.sp.n, .int .i64 g.sp.lo, .int .i64 g.sp.hi, .bool g.t, .bool g.f, .slice ss g.s.length gc] 29) = w1 at *
  have HKZ : Hid (∀ wx, Below w1.heap.size w1 wx → (wx.cell? ⟨w.heap.size, 0, none⟩ = some (.bool g.n) ∧ wx.cell? ⟨w.heap.size, 0 + 1, none⟩ = some (.bool g.sp.n) ∧ wx.cell? ⟨w.heap.size, 0 + 2, none⟩ = some (.int .i64 g.sp.lo) ∧ wx.cell? ⟨w.heap.size, 0 + 3, none⟩ = some (.int .i64 g.sp.hi) ∧ wx.cell? ⟨w.heap.size, 0 + 4, none⟩ = some (.bool g.t) ∧ wx.cell? ⟨w.heap.size, 0 + 5, none⟩ = some (.bool g.f) ∧ wx.cell? ⟨w.heap.size, 0 + 6, none⟩ = some (.slice ss g.s.length gc))) := fun wx hx => (G0.call hx).1
  have HD : Below w1.heap.size w1 w1.drew := (Below.refl _ _).drew
  refine wp_region_z (S := (fun wx => (wx.cell? ⟨w.heap.size, 0, none⟩ = some (.bool g.n) ∧ wx.cell? ⟨w.heap.size, 0 + 1, none⟩ = some (.bool g.sp.n) ∧ wx.cell? ⟨w.heap.size, 0 + 2, none⟩ = some (.int .i64 g.sp.lo) ∧ wx.cell? ⟨w.heap.size, 0 + 3, none⟩ = some (.int .i64 g.sp.hi) ∧ wx.cell? ⟨w.heap.size, 0 + 4, none⟩ = some (.bool g.t) ∧ wx.cell? ⟨w.heap.size, 0 + 5, none⟩ = some (.bool g.f) ∧ wx.cell? ⟨w.heap.size, 0 + 6, none⟩ = some (.slice ss g.s.length gc)))) [] (by kernel_rfl) (HKZ.out _ HD) (fun hHeld => ?_)
  refine tkZ 0 ?_ ?_ ?_
  rotate_left
  · exact rn
  (try simp only [Act.put, List.getElem_toArray, List.getElem_cons_zero, List.getElem_cons_succ, List.setIfInBounds_toArray, List.set_cons_zero, List.set_cons_succ])
  refine wpAnyZ_one (i := 1) rfl (by kernel_rfl) (fun K hK => ?_)
  go_simp
  go_at_call 67
  refine (HN.out _).mono ?_
  rintro e w2 ⟨rfl, hb2⟩
  have HB2 : Below w1.heap.size w1 w2 := HD.trans (hb2.mono HD.size)
  go_wp2_with fail
  refine hK.out _ _ (HKZ.out _ HB2) (fun hHeld => ?_)
  clear hK K
  (try simp only [Act.put, List.getElem_toArray, List.getElem_cons_zero, List.getElem_cons_succ, List.setIfInBounds_toArray, List.set_cons_zero, List.set_cons_succ])
  refine wpAnyZ_one (i := 2) rfl (by kernel_rfl) (fun K hK => ?_)
  go_simp
  go_at_call 111
  refine (HI.out _ (I0.below HB2 (Nat.le_refl _))).mono ?_
  rintro e w3 ⟨rfl, hb3⟩
  have HB3 : Below w1.heap.size w1 w3 := HB2.trans (hb3.mono HB2.size)
  go_wp2_with fail
  refine hK.out _ _ (HKZ.out _ HB3) (fun hHeld => ?_)
  clear hK K
  (try simp only [Act.put, List.getElem_toArray, List.getElem_cons_zero, List.getElem_cons_succ, List.setIfInBounds_toArray, List.set_cons_zero, List.set_cons_succ])
  refine tkZ 3 ?_ ?_ ?_
  rotate_left
  · exact rn
  (try simp only [Act.put, List.getElem_toArray, List.getElem_cons_zero, List.getElem_cons_succ, List.setIfInBounds_toArray, List.set_cons_zero, List.set_cons_succ])
  refine tkZ 4 ?_ ?_ ?_
  rotate_left
  · exact rn
  (try simp only [Act.put, List.getElem_toArray, List.getElem_cons_zero, List.getElem_cons_succ, List.setIfInBounds_toArray, List.set_cons_zero, List.set_cons_succ])
  refine wpAnyZ_done (by kernel_rfl) ?_ _
  go_wp2
  go_ret
  exact ⟨ret_bool HR.out.symm, B0.trans (HB3.mono B0.size)⟩
end Go.Proofs.YtmapdpcfanecdaaGreat

namespace Go.Proofs.YtmapdpcfanecdaaGreat
set_option linter.unusedVariables false
set_option linter.unusedSimpArgs false
open Go.RowKit
attribute [local go_sem ↓] Go.wp_at_zero Go.wp_at_succ

set_option maxHeartbeats 2000000 in
set_option maxRecDepth 10000 in
theorem grow_any (n : Nat) (w : World) (hn : n ≤ 1000) :
    Calls Tryz.prog 137 #[.slice none 0 0, .int .i64 (n : Int)] w fun e w' => (∃ rs rc, e = .returned (.slice rs 0 rc) ∧ w'.ownsRow w.heap.size 29 7 (.slice rs 0 rc) 0 []) ∧ Below w.heap.size w w' := by
  obtain ⟨ti, hi, hz0, hz1, hz2⟩ := info_parts Tryz.info_guess
  cases n with
  | zero =>
    go_enter Tryz.func137, Tryz.ntmps137
    go_wp2
    go_ret
    exact ⟨⟨none, 0, rfl, rfl, .inl ⟨rfl, rfl⟩⟩, Below.refl _ _⟩
  | succ m =>
    have happ := Lib.run_append_nil_zeros (P := Tryz.prog) w 41 3 41 29 ti (.agg #[.bool false, .bool false, .int .i64 0, .int .i64 0, .bool false, .bool false, .slice none 0 0]) .i64 .i64 Tryz.underlying41 Tryz.underlying3 hi hz0 (m + 1) (by omega) (by rw [hz1]; omega) (by omega) (by rw [hz2]; omega)
    have hge := grownCap_ge w (m + 1) 0 29
    have hle := grownCap_le_maxLen w (m + 1) 0 29 (by unfold maxLen; omega)
    have HA := hideH happ
    have HO : Hid (∀ cap, m + 1 ≤ cap → cap ≤ maxLen → (w.drew.alloc (.cells (Builtin.zeroCells (Value.cells (.agg #[.bool false, .bool false, .int .i64 0, .int .i64 0, .bool false, .bool false, .slice none 0 0])) (m + 1) ++ Builtin.zeroCells (Value.cells (.agg #[.bool false, .bool false, .int .i64 0, .int .i64 0, .bool false, .bool false, .slice none 0 0])) (cap - (m + 1))) 29)).ownsRow w.heap.size 29 7 (.slice (some ⟨w.heap.size, 0, none⟩) 0 cap) 0 []) := fun cap h1 h2 => by
      refine World.ownsRow_made w.drew _ cap (Nat.le_refl _) h2 ?_
      rw [Array.size_append, size_zeroCells, size_zeroCells]
      have : (Value.cells (.agg #[.bool false, .bool false, .int .i64 0, .int .i64 0, .bool false, .bool false, .slice none 0 0])).size = 7 := rfl
      rw [this, ← Nat.add_mul]
      congr 1
      omega
    have hnp : (0 : Int) < ((m + 1 : Nat) : Int) := by omega
    have hnn : ¬ ((m + 1 : Nat) : Int) < 0 := by omega
    generalize grownCap w (m + 1) 0 29 = cp at *
    clear happ
    generalize hN : m + 1 = N at *
    clear hN
    go_enter Tryz.func137, Tryz.ntmps137
    go_wp2_with (at_builtin; refine Lib.wpList_append_run _ rfl _ _ _ _ rfl _ _ rfl rfl _ _ HA.out ?_)
    have h0c : (0 : Int) ≤ (cp : Int) := by omega
    go_wp2
    go_ret
    refine ⟨⟨_, _, rfl, HO.out cp hge hle⟩, ?_⟩
    exact ((Below.refl _ w).drew).alloc (by simp) _

/-- What is returned is a row of guesses. -/
def RowR (w' : World) (e : Ending) (l : List Gs) : Prop := ∃ rs rc, e = .returned (.slice rs l.length rc) ∧ GsAt w' rs l ∧ l.length ≤ rc ∧ rc ≤ maxLen
set_option maxHeartbeats 4000000 in
set_option maxRecDepth 10000 in
theorem concat_any (ls : Option Addr) (lc : Nat) (L : List (List Gs)) (w : World) (h : RowsAt w ls L) (hl : L.length ≤ 1000) (ht : L.flatten.length ≤ 1000) :
    Calls Tryz.prog 110 #[.slice ls L.length lc] w fun e w' => RowR w' e L.flatten ∧ Below w.heap.size w w' := by
  obtain ⟨ti, hi, hz0, hz1, hz2⟩ := info_parts Tryz.info_guess
  have HG := hideH grow_any
  obtain ⟨N, eN⟩ : ∃ N, N = L.flatten.length := ⟨_, rfl⟩
  have HLE : Hid (∀ k, (L.take k).flatten.length ≤ 1000) := fun k => by
    have h1 : L.flatten = (L.take k).flatten ++ (L.drop k).flatten := by rw [← List.flatten_append, List.take_append_drop]
    have h2 := congrArg List.length h1
    rw [List.length_append] at h2
    omega
  rw [← eN] at ht
  have EN := hideH eN
  clear eN
  go_enter Tryz.func110, Tryz.ntmps110
  go_wp2
  go_loopw [3, 11] (fun z i wr => ∃ k : Nat, k ≤ L.length ∧ i = .int .i64 k ∧ z = .int .i64 ((L.take k).flatten.length : Int) ∧ wr = w) (fun _ i _ => L.length - (intOf i).toNat)
  case atStart => exact ⟨0, Nat.zero_le _, rfl, by simp, rfl⟩
  case round =>
    obtain ⟨k, hk, rfl, rfl, hwr⟩ := hrel
    rw [hwr]
    clear hwr
    by_cases hlt : k < L.length
    · have n0 : (0 : Int) ≤ (k : Int) := by omega
      have n1 : (k : Int) < (L.length : Int) := by omega
      obtain ⟨b, off, rfl, zb, rs, rc, C1, k1, m1, J1⟩ := h k hlt
      have HF := hideH (flat_take L k hlt)
      have hle := HLE.out (k + 1)
      rw [HF.out, List.length_append] at hle
      obtain ⟨z0, e0⟩ : ∃ z0, z0 = (L.take k).flatten.length := ⟨_, rfl⟩
      obtain ⟨z1, e1⟩ : ∃ z1, z1 = L[k].length := ⟨_, rfl⟩
      rw [← e0, ← e1] at hle
      rw [← e1] at C1
      rw [← e0]
      have E0 := hideH e0
      have E1 := hideH e1
      clear e0 e1 J1 k1
      have hnn : ¬ ((z0 : Int) + (z1 : Int)) < 0 := by omega
      go_wp2
      go_roundw
      case rel => exact ⟨k + 1, by omega, by go_num, by rw [HF.out, List.length_append, ← E0.out, ← E1.out]; first | rfl | go_num | (simp; omega), by first | rfl | trivial⟩
      case measure => simp [intOf]; omega
    · have n1 : ¬ (k : Int) < (L.length : Int) := by omega
      have et : L.take k = L := List.take_of_length_le (by omega)
      rw [et, ← EN.out]
      go_wp2_with (go_at_call 137; fail)
      refine (HG.out _ w ht).mono ?_
      rintro e w1 ⟨⟨rs0, rc0, rfl, O1⟩, hb1⟩
      have C1 : CRow w1 w.heap.size (.slice rs0 0 rc0) [] := ⟨O1, fun x hx => by simp at hx⟩
      clear O1 HG et
      go_wp2
      go_loopw [6, 27] (fun v i wy => ∃ (k : Nat) (rs : Option Addr) (rc : Nat) (l : List Gc), k ≤ L.length ∧ i = .int .i64 k ∧ v = .slice rs l.length rc ∧ Below w.heap.size w wy ∧ Hid (l.map Gc.g = (L.take k).flatten) ∧ CRow wy w.heap.size (.slice rs l.length rc) l) (fun _ i _ => L.length - (intOf i).toNat)
      case atStart => exact ⟨0, rs0, rc0, [], Nat.zero_le _, rfl, rfl, hb1, rfl, C1⟩
      case round =>
        clear C1 hb1
        obtain ⟨k2, rs, rc, l, hk2, rfl, rfl, hby, HE, CL⟩ := hrel
        have LL : Hid (l.length = (L.take k2).flatten.length) := by show _ = _; rw [← HE.out, List.length_map]
        by_cases hlt2 : k2 < L.length
        · have n0 : (0 : Int) ≤ (k2 : Int) := by omega
          have n2 : (k2 : Int) < (L.length : Int) := by omega
          obtain ⟨b, off, rfl, zb, r1, rc1, D1, k1, m1, J1⟩ := h k2 hlt2
          obtain ⟨lr, elr, hnr, hnnr, hgr, hlr⟩ := J1.gcsTo hby
          have D1' : wr.cell? ⟨b, off + k2, none⟩ = some (.slice r1 L[k2].length rc1) := by rw [hby.cell (by simp only; exact zb)]; exact D1
          have hsum : l.length + L[k2].length ≤ 1000 := by have h1 := HLE.out (k2 + 1); rw [flat_take L k2 hlt2, List.length_append] at h1; have := LL.out; omega
          have HLL : Hid (lr.length = L[k2].length) := by show _ = _; rw [← elr, List.length_map]
          have HNR := hideH hnr
          have HLR := hideH elr
          clear D1 J1 hnr elr
          go_wp2_with (at_builtin; refine wpList_append_any _ rfl _ _ 41 rfl w.heap.size 29 ti (.agg #[.bool false, .bool false, .int .i64 0, .int .i64 0, .bool false, .bool false, .slice none 0 0]) 7 64 Tryz.underlying41 hi hz0 hz1 hz2 rfl (by decide) _ _ _ rfl CL.1 r1 L[k2].length rc1 (rowCells lr) rfl hlr hnnr ?qb2 (rowCells_one _) ?qb4 ?qb5 ?qb6 ?_)
          (try (case qb2 => exact HNR.out))
          case qb4 => unfold maxLen; omega
          case qb5 => omega
          (try (case qb6 => exact hby.size))
          intro v1 w5 hown5 hgrow5 hat5
          have hb5 : Below w.heap.size w w5 := hby.grown hgrow5 hby.size (fun k hk => (ownsI_lt CL.1 hk).2)
          have CR5 : CRow w5 w.heap.size v1 (l ++ lr) := CL.grown hgr (by rw [HLL.out]; exact hown5) hgrow5
          obtain ⟨rs', rc', rfl, -, -, -, -⟩ := CR5.at
          clear hown5 hgrow5 hat5 HNR hnnr hgr hlr D1' CL
          go_wp2
          go_roundw
          case rel => exact ⟨k2 + 1, rs', rc', l ++ lr, by omega, by go_num, by first | rfl | (rw [List.length_append]), hb5, by show _ = _; rw [List.map_append, HE.out, HLR.out, flat_take _ _ hlt2], CR5⟩
          case measure => simp [intOf]; omega
        · have n2 : ¬ (k2 : Int) < (L.length : Int) := by omega
          have et : L.take k2 = L := List.take_of_length_le (by omega)
          obtain ⟨ra, rb, e0, kv1, kv2, GA, -⟩ := CL.at
          cases e0
          rw [HE.out, et] at GA
          have LF : Hid (l.length = L.flatten.length) := by show _ = _; rw [LL.out, et]
          go_wp2
          go_ret
          refine ⟨⟨rs, rc, by show Ending.returned (.slice rs l.length rc) = _; rw [LF.out], GA, by rw [← LF.out]; exact kv1, kv2⟩, hby⟩

theorem rows_two (w : World) {vs rs : Option Addr} {vc rc : Nat} {a b : List Gs} (h1 : GsAt w vs a) (k1 : a.length ≤ vc) (m1 : vc ≤ maxLen) (h2 : GsAt w rs b) (k2 : b.length ≤ rc) (m2 : rc ≤ maxLen) :
    RowsAt (w.alloc (.cells #[.slice vs a.length vc, .slice rs b.length rc] 41)) (some ⟨w.heap.size, 0, none⟩) [a, b] := by
  intro i hi
  match i, hi with
  | 0, _ => exact ⟨w.heap.size, 0, rfl, by simp, vs, vc, by simp [go_sem], k1, m1, h1.alloc _⟩
  | 1, _ => exact ⟨w.heap.size, 0, rfl, by simp, rs, rc, by simp [go_sem], k2, m2, h2.alloc _⟩
  | i + 2, h => simp at h; omega
set_option maxHeartbeats 2000000 in
set_option maxRecDepth 10000 in
theorem allP_any (x : Pic) (vs : Option Addr) (vc : Nat) (fs : Option Addr) (fc : Nat) (w : World) (h : PicAt w x vs fs) (hvc : x.vars.length ≤ vc) (hvm : vc ≤ maxLen) (hl : x.flds.length ≤ 1000) (ha : (allPic x).length ≤ 1000) :
    Calls Tryz.prog 71 #[xv x vs vc fs fc] w fun e w' => RowR w' e (allPic x) ∧ Below w.heap.size w w' := by
  have B0 : Below w.heap.size w (w.alloc (.cells #[.bool x.none, .slice vs x.vars.length vc, .slice fs x.flds.length fc] 58)) := by go_grown
  have A0 := XAt.new w x vs vc fs fc
  have PV := h.1.below B0 (Nat.le_refl _)
  have PF := h.2.below B0 (Nat.le_refl _)
  have hf : x.flds.flatten.length ≤ 1000 := by unfold allPic at ha; rw [List.length_append] at ha; omega
  obtain ⟨fl, efl⟩ : ∃ fl, fl = x.flds.flatten := ⟨_, rfl⟩
  have HC1 : Hid (∀ wx, RowsAt wx fs x.flds → Calls Tryz.prog 110 #[.slice fs x.flds.length fc] wx fun e w' => RowR w' e fl ∧ Below wx.heap.size wx w') := fun wx hx => by rw [efl]; exact concat_any fs fc x.flds wx hx hl hf
  have EA : [x.vars, fl].flatten = allPic x := by unfold allPic; rw [efl]; simp
  have HC2 : Hid (∀ wx a, RowsAt wx (some a) [x.vars, fl] → Calls Tryz.prog 110 #[.slice (some a) 2 2] wx fun e w' => RowR w' e (allPic x) ∧ Below wx.heap.size wx w') := fun wx a hx => by rw [← EA]; exact concat_any (some a) 2 [x.vars, fl] wx hx (by simp) (by rw [EA]; exact ha)
  clear efl EA hf
  clear h ha
  go_enter Tryz.func71, Tryz.ntmps71
  go_upto_region 1 with fail
  generalize w.alloc (.cells #[.bool x.none, .slice vs x.vars.length vc, .slice fs x.flds.length fc] 58) = w1 at *
  obtain ⟨⟨a0, a1, a2⟩, az, -⟩ := id A0
  have HKZ : Hid (∀ wx, Below w1.heap.size w1 wx → wx.cell? ⟨w.heap.size, 1, none⟩ = some (.slice vs x.vars.length vc) ∧ wx.cell? ⟨w.heap.size, 2, none⟩ = some (.slice fs x.flds.length fc)) := fun wx hx => ⟨by rw [hx.cell (by simp only; exact az)]; exact a1, by rw [hx.cell (by simp only; exact az)]; exact a2⟩
  have HD : Below w1.heap.size w1 w1.drew := (Below.refl _ _).drew
  clear a0 a1 a2 az
  refine wp_region_z (S := (fun wx => wx.cell? ⟨w.heap.size, 1, none⟩ = some (.slice vs x.vars.length vc) ∧ wx.cell? ⟨w.heap.size, 2, none⟩ = some (.slice fs x.flds.length fc))) [] (by kernel_rfl) (HKZ.out _ HD) (fun hHeld => ?_)
  refine tkZ 0 ?_ ?_ ?_
  rotate_left
  · exact rn
  (try simp only [Act.put, List.getElem_toArray, List.getElem_cons_zero, List.getElem_cons_succ, List.setIfInBounds_toArray, List.set_cons_zero, List.set_cons_succ])
  refine tkZ 1 ?_ ?_ ?_
  rotate_left
  · exact rn
  (try simp only [Act.put, List.getElem_toArray, List.getElem_cons_zero, List.getElem_cons_succ, List.setIfInBounds_toArray, List.set_cons_zero, List.set_cons_succ])
  refine tkZ 2 ?_ ?_ ?_
  rotate_left
  · exact rn
  (try simp only [Act.put, List.getElem_toArray, List.getElem_cons_zero, List.getElem_cons_succ, List.setIfInBounds_toArray, List.set_cons_zero, List.set_cons_succ])
  refine tkZ 3 ?_ ?_ ?_
  rotate_left
  · exact rn
  (try simp only [Act.put, List.getElem_toArray, List.getElem_cons_zero, List.getElem_cons_succ, List.setIfInBounds_toArray, List.set_cons_zero, List.set_cons_succ])
  refine wpAnyZ_one (i := 4) rfl (by kernel_rfl) (fun K hK => ?_)
  go_simp
  go_at_call 110
  refine (HC1.out _ (PF.below HD (Nat.le_refl _))).mono ?_
  rintro e w2 ⟨⟨rs, rc, rfl, GF, k1, k2⟩, hb2⟩
  have HB2 : Below w1.heap.size w1 w2 := HD.trans (hb2.mono HD.size)
  go_wp2_with fail
  refine hK.out _ _ (HKZ.out _ HB2) (fun hHeld => ?_)
  clear hK K
  (try simp only [Act.put, List.getElem_toArray, List.getElem_cons_zero, List.getElem_cons_succ, List.setIfInBounds_toArray, List.set_cons_zero, List.set_cons_succ])
  refine wpAnyZ_one (i := 5) rfl (by kernel_rfl) (fun K hK => ?_)
  go_simp
  have hba : Below w2.heap.size w2 (w2.alloc (.cells #[.slice vs x.vars.length vc, .slice rs fl.length rc] 41)) := by go_grown
  have HB3 : Below w1.heap.size w1 (w2.alloc (.cells #[.slice vs x.vars.length vc, .slice rs fl.length rc] 41)) := HB2.trans (hba.mono HB2.size)
  refine hK.out _ _ (HKZ.out _ HB3) (fun hHeld => ?_)
  clear hK K
  (try simp only [Act.put, List.getElem_toArray, List.getElem_cons_zero, List.getElem_cons_succ, List.setIfInBounds_toArray, List.set_cons_zero, List.set_cons_succ])
  have RR : RowsAt (w2.alloc (.cells #[.slice vs x.vars.length vc, .slice rs fl.length rc] 41)) (some ⟨w2.heap.size, 0, none⟩) [x.vars, fl] := rows_two w2 (PV.below HB2 (Nat.le_refl _)) hvc hvm GF k1 k2
  refine wpAnyZ_one (i := 6) rfl (by kernel_rfl) (fun K hK => ?_)
  go_simp
  go_at_call 110
  refine (HC2.out _ _ RR).mono ?_
  rintro e w4 ⟨⟨ra, rb, rfl, GA, j1, j2⟩, hb4⟩
  have HB4 : Below w1.heap.size w1 w4 := HB3.trans (hb4.mono HB3.size)
  go_wp2_with fail
  refine hK.out _ _ (HKZ.out _ HB4) (fun hHeld => ?_)
  clear hK K
  (try simp only [Act.put, List.getElem_toArray, List.getElem_cons_zero, List.getElem_cons_succ, List.setIfInBounds_toArray, List.set_cons_zero, List.set_cons_succ])
  refine tkZ 7 ?_ ?_ ?_
  rotate_left
  · exact rn
  (try simp only [Act.put, List.getElem_toArray, List.getElem_cons_zero, List.getElem_cons_succ, List.setIfInBounds_toArray, List.set_cons_zero, List.set_cons_succ])
  refine wpAnyZ_done (by kernel_rfl) ?_ _
  go_wp2
  go_ret
  exact ⟨⟨ra, rb, rfl, GA, j1, j2⟩, B0.trans (HB4.mono B0.size)⟩
end Go.Proofs.YtmapdpcfanecdaaGreat
