/- Walks over package guess: is it one value alone; are two alike. -/
import Derived.Test.YtmapdpcfanecdaaGreatKguyp17
import Derived.Test.YtmapdpcfanecdaaGreatKguyp35
import Derived.Test.YtmapdpcfanecdaaGreatKguyp26
namespace Go.Proofs.YtmapdpcfanecdaaGreat
set_option linter.unusedVariables false
set_option linter.unusedSimpArgs false
open Go.RowKit

set_option maxHeartbeats 4000000 in
set_option maxRecDepth 10000 in
theorem doG_7 (V F : Int) (s : Option Addr) (c : List Ins) (cap : Nat) (g : Gs) (ss : Option Addr) (gc : Nat) (h : Gs) (st : Option Addr) (hc : Nat) (w : World)
    (hcd : CodeAt w s c) (hs : IntsAt w ss g.s) (h1 : g.s.length ≤ gc) (h2 : gc ≤ maxLen) (ht : IntsAt w st h.s) (h3 : h.s.length ≤ hc) (h4 : hc ≤ maxLen) (hck : ckAllG V F c [g, h] = 0) :
    Calls Tryz.prog 20 #[pv V F s c cap, .int .i64 7, gv g ss gc, gv h st hc] w fun e w' => e = .returned (.tuple #[gv ⟨false, doSp 7 g.sp h.sp, false, false, []⟩ none 0, .bool ([g, h].any otherGs && ![g, h].any nothingGs), .int .i64 0]) ∧ Below w.heap.size w w' := by
  obtain ⟨P0, G0, H0, R0, F0⟩ := togW_at w V F s c cap g ss gc h st hc
  have B0 := togW_below w V F s c cap g ss gc h st hc
  have C0 : CodeAt (togW w V F s c cap g ss gc h st hc) s c := hcd.below B0 (Nat.le_refl _)
  have I0 : IntsAt (togW w V F s c cap g ss gc h st hc) ss g.s := hs.below B0 (Nat.le_refl _)
  have J0 : IntsAt (togW w V F s c cap g ss gc h st hc) st h.s := ht.below B0 (Nat.le_refl _)
  have L0 := GsAt.new2 (togW w V F s c cap g ss gc h st hc) g ss gc h st hc I0 h1 h2 J0 h3 h4
  simp only [World.size_alloc] at L0
  have hJ0 := fun w => do_any 7 g.sp h.sp w
  rw [show doErr 7 g.sp h.sp = 0 by unfold doErr; rw [if_pos (ckAllG_spans hck), if_pos (by decide)], show ∀ r, spIf 0 r = r from fun r => rfl] at hJ0
  have hJ := hideH hJ0
  have HK := hideH hck
  clear hck hJ0
  generalize doSp 7 g.sp h.sp = J at hJ ⊢
  have HW := hideH (fun ls lc w hL => isWrong_any ls [g, h] lc w (by simp) hL)
  generalize ([g, h].any otherGs && ![g, h].any nothingGs) = wr at HW ⊢
  go_enter Tryz.func20, Tryz.ntmps20
  go_wp2_with (go_at_call 40; fail)
  refine (checkAllG_any V F s c cap _ [g, h] 2 _ (C0.alloc _) L0 (by simp)).mono ?_
  rintro e w1 ⟨rfl, hb1⟩
  rw [HK.out]
  have G1 := (G0.alloc _).call hb1
  have H1 := (H0.alloc _).call hb1
  have R1 := (R0.alloc _).call hb1
  have F1 : Fr7 w1 (w.heap.size + 1 + 1 + 1) := (F0.alloc _).call hb1
  have B1 : Below w.heap.size w w1 := (B0.alloc B0.size _).trans (hb1.mono (by simp; omega))
  clear hb1 G0 H0 R0 I0 J0 F0 B0 C0 P0 L0 hcd hs ht HK
  obtain ⟨⟨g0, g1, g2, g3, g4, g5, g6⟩, gz⟩ := id G1
  obtain ⟨⟨k0, k1, k2, k3, k4, k5, k6⟩, kz⟩ := id H1
  simp only [Nat.zero_add] at g0 g1 g2 g3 g4 g5 g6 k0 k1 k2 k3 k4 k5 k6
  go_wp2_with (go_at_call 54; fail)
  refine (hJ.out _).mono ?_
  rintro e w2 ⟨rfl, hb2⟩
  have G2 := G1.call hb2
  have H2 := H1.call hb2
  have R2 := R1.call hb2
  have F2 := F1.call hb2
  have B2 := B1.trans (hb2.mono B1.size)
  clear hb2 G1 H1 R1 F1 B1 g0 g1 g2 g3 g4 g5 g6 gz k0 k1 k2 k3 k4 k5 k6 kz hJ
  go_wp2
  have G3 := G2.alloc (.cells #[.bool J.n, .int .i64 J.lo, .int .i64 J.hi] 26)
  have H3 := H2.alloc (.cells #[.bool J.n, .int .i64 J.lo, .int .i64 J.hi] 26)
  have R3 := R2.alloc (.cells #[.bool J.n, .int .i64 J.lo, .int .i64 J.hi] 26)
  have F3 := F2.alloc (.cells #[.bool J.n, .int .i64 J.lo, .int .i64 J.hi] 26)
  have B3 := B2.alloc B2.size (.cells #[.bool J.n, .int .i64 J.lo, .int .i64 J.hi] 26)
  have S3 := SpAt.new w2 J
  have zj : w.heap.size + 1 + 1 + 1 < w2.heap.size := F2.2
  clear G2 H2 R2 F2 B2
  generalize w2.alloc (.cells #[.bool J.n, .int .i64 J.lo, .int .i64 J.hi] 26) = w3 at *
  generalize w2.heap.size = jb at *
  have KS : ∀ wx, GuAt wx (w.heap.size + 1) 0 g ss gc → GuAt wx (w.heap.size + 1 + 1) 0 h st hc → SpAt wx jb J → regS w jb g ss gc h st hc J wx := fun wx a b c => ⟨by simpa using a.1, by simpa using b.1, c.1⟩
  refine wp_region_held_drew (S := regS w jb g ss gc h st hc J) (by kernel_rfl) (KS _ G3.drew H3.drew S3.drew) (fun hHeld => ?_)
  unfold regS at hHeld KS ⊢
  refine wpAnyH_take (i := 0) (v := ?_) rfl (by kernel_rfl) (by kernel_rfl) (by kernel_rfl) (fun _ _ _ h => h) (Or.inl ⟨?_, ?_⟩) (by assumption) ?_
  rotate_left
  · rfl
  · (intro w hSw; (try dsimp only at hSw); first | (go_simp; done) | (go_simp; with_reducible rfl))
  (try simp only [Act.put, List.getElem_toArray, List.getElem_cons_zero, List.getElem_cons_succ, List.setIfInBounds_toArray, List.set_cons_zero, List.set_cons_succ])
  refine wpAnyH_take (i := 1) (v := ?_) rfl (by kernel_rfl) (by kernel_rfl) (by kernel_rfl) (fun _ _ _ h => h) (Or.inl ⟨?_, ?_⟩) (by assumption) ?_
  rotate_left
  · rfl
  · (intro w hSw; (try dsimp only at hSw); first | (go_simp; done) | (go_simp; with_reducible rfl))
  (try simp only [Act.put, List.getElem_toArray, List.getElem_cons_zero, List.getElem_cons_succ, List.setIfInBounds_toArray, List.set_cons_zero, List.set_cons_succ])
  refine wpAnyH_take (i := 2) (v := ?_) rfl (by kernel_rfl) (by kernel_rfl) (by kernel_rfl) (fun _ _ _ h => h) (Or.inl ⟨?_, ?_⟩) (by assumption) ?_
  rotate_left
  · rfl
  · (intro w hSw; (try dsimp only at hSw); first | (go_simp; done) | (go_simp; with_reducible rfl))
  (try simp only [Act.put, List.getElem_toArray, List.getElem_cons_zero, List.getElem_cons_succ, List.setIfInBounds_toArray, List.set_cons_zero, List.set_cons_succ])
  refine wpAnyH_take (i := 3) (v := ?_) rfl (by kernel_rfl) (by kernel_rfl) (by kernel_rfl) (fun _ _ _ h => h) (Or.inl ⟨?_, ?_⟩) (by assumption) ?_
  rotate_left
  · rfl
  · (intro w hSw; (try dsimp only at hSw); first | (go_simp; done) | (go_simp; with_reducible rfl))
  (try simp only [Act.put, List.getElem_toArray, List.getElem_cons_zero, List.getElem_cons_succ, List.setIfInBounds_toArray, List.set_cons_zero, List.set_cons_succ])
  have L3 : GhAt (twoW w3 g ss gc h st hc).drew (some ⟨w3.heap.size, 0, none⟩) [g, h] := (GhAt.new2 w3 g ss gc h st hc).call (Below.refl _ _).drew
  have G4 := G3.alloc (.cells #[.bool g.n, .bool g.sp.n, .int .i64 g.sp.lo, .int .i64 g.sp.hi, .bool g.t, .bool g.f, .slice ss g.s.length gc, .bool h.n, .bool h.sp.n, .int .i64 h.sp.lo, .int .i64 h.sp.hi, .bool h.t, .bool h.f, .slice st h.s.length hc] 29)
  have H4 := H3.alloc (.cells #[.bool g.n, .bool g.sp.n, .int .i64 g.sp.lo, .int .i64 g.sp.hi, .bool g.t, .bool g.f, .slice ss g.s.length gc, .bool h.n, .bool h.sp.n, .int .i64 h.sp.lo, .int .i64 h.sp.hi, .bool h.t, .bool h.f, .slice st h.s.length hc] 29)
  have R4 := R3.alloc (.cells #[.bool g.n, .bool g.sp.n, .int .i64 g.sp.lo, .int .i64 g.sp.hi, .bool g.t, .bool g.f, .slice ss g.s.length gc, .bool h.n, .bool h.sp.n, .int .i64 h.sp.lo, .int .i64 h.sp.hi, .bool h.t, .bool h.f, .slice st h.s.length hc] 29)
  have F4 := F3.alloc (.cells #[.bool g.n, .bool g.sp.n, .int .i64 g.sp.lo, .int .i64 g.sp.hi, .bool g.t, .bool g.f, .slice ss g.s.length gc, .bool h.n, .bool h.sp.n, .int .i64 h.sp.lo, .int .i64 h.sp.hi, .bool h.t, .bool h.f, .slice st h.s.length hc] 29)
  have S4 := S3.alloc (.cells #[.bool g.n, .bool g.sp.n, .int .i64 g.sp.lo, .int .i64 g.sp.hi, .bool g.t, .bool g.f, .slice ss g.s.length gc, .bool h.n, .bool h.sp.n, .int .i64 h.sp.lo, .int .i64 h.sp.hi, .bool h.t, .bool h.f, .slice st h.s.length hc] 29)
  have B4 := (B3.alloc B3.size (.cells #[.bool g.n, .bool g.sp.n, .int .i64 g.sp.lo, .int .i64 g.sp.hi, .bool g.t, .bool g.f, .slice ss g.s.length gc, .bool h.n, .bool h.sp.n, .int .i64 h.sp.lo, .int .i64 h.sp.hi, .bool h.t, .bool h.f, .slice st h.s.length hc] 29)).drew
  refine wpAnyH_ready (rs := [4]) (by kernel_rfl) (by simp) ?_
  refine AllReadyH.cons rfl (fun K hK => ?_) AllReadyH.nil
  go_simp
  refine hK.out _ _ (KS _ G4.drew H4.drew S4.drew) (fun hHeld => ?_)
  clear hK K
  (try simp only [Act.put, List.getElem_toArray, List.getElem_cons_zero, List.getElem_cons_succ, List.setIfInBounds_toArray, List.set_cons_zero, List.set_cons_succ])
  refine wpAnyH_ready (rs := [5]) (by kernel_rfl) (by simp) ?_
  refine AllReadyH.cons rfl (fun K hK => ?_) AllReadyH.nil
  go_simp
  refine (HW.out _ 2 _ L3).mono ?_
  rintro e w5 ⟨rfl, hb5⟩
  have G5 := G4.drew.call hb5
  have H5 := H4.drew.call hb5
  have R5 := R4.drew.call hb5
  have F5 := F4.drew.call hb5
  have S5 := S4.drew.call hb5
  have B5 : Below w.heap.size w w5 := B4.trans (hb5.mono B4.size)
  clear hb5 G4 H4 R4 F4 S4 B4 L3 G3 H3 R3 F3 S3 B3
  refine hK.out _ _ (KS _ G5 H5 S5) (fun hHeld => ?_)
  clear hK K
  (try simp only [Act.put, List.getElem_toArray, List.getElem_cons_zero, List.getElem_cons_succ, List.setIfInBounds_toArray, List.set_cons_zero, List.set_cons_succ])
  obtain ⟨⟨r0, r1, r2, r3, r4, r5, r6⟩, rz⟩ := id R5
  simp only [Nat.zero_add, zeroG] at r0 r1 r2 r3 r4 r5 r6
  have fz := F5.1
  refine wpAnyH_ready (rs := [6]) (by kernel_rfl) (by simp) ?_
  refine AllReadyH.cons rfl (fun K hK => ?_) AllReadyH.nil
  go_simp
  refine hK.out _ _ (KS _ (G5.put7 (by omega)) (H5.put7 (by omega)) (S5.put7 (by omega))) (fun hHeld => ?_)
  clear hK K
  (try simp only [Act.put, List.getElem_toArray, List.getElem_cons_zero, List.getElem_cons_succ, List.setIfInBounds_toArray, List.set_cons_zero, List.set_cons_succ])
  refine wpAnyH_take (i := 7) (v := ?_) rfl (by kernel_rfl) (by kernel_rfl) (by kernel_rfl) (fun _ _ _ h => h) (Or.inl ⟨?_, ?_⟩) (by assumption) ?_
  rotate_left
  · rfl
  · (intro w hSw; (try dsimp only at hSw); first | (go_simp; done) | (go_simp; with_reducible rfl))
  (try simp only [Act.put, List.getElem_toArray, List.getElem_cons_zero, List.getElem_cons_succ, List.setIfInBounds_toArray, List.set_cons_zero, List.set_cons_succ])
  refine wpAnyH_take (i := 8) (v := ?_) rfl (by kernel_rfl) (by kernel_rfl) (by kernel_rfl) (fun _ _ _ h => h) (Or.inl ⟨?_, ?_⟩) (by assumption) ?_
  rotate_left
  · rfl
  · (intro w hSw; (try dsimp only at hSw); first | (go_simp; done) | (go_simp; with_reducible rfl))
  (try simp only [Act.put, List.getElem_toArray, List.getElem_cons_zero, List.getElem_cons_succ, List.setIfInBounds_toArray, List.set_cons_zero, List.set_cons_succ])
  refine wpAnyH_done (by kernel_rfl) ?_ _
  go_wp2
  refine bodyPost_ret (v := .tuple #[gv ⟨false, J, false, false, []⟩ none 0, .bool wr, .int .i64 0]) (by simp [results, Tryz.results20, go_sem, r0, r1, r2, r3, r4, r5, r6]) rfl ⟨rfl, ?_⟩
  exact below_put7 B5 (by omega)
end Go.Proofs.YtmapdpcfanecdaaGreat

namespace Go.Proofs.YtmapdpcfanecdaaGreat
set_option linter.unusedVariables false
set_option linter.unusedSimpArgs false
open Go.RowKit

set_option maxHeartbeats 4000000 in
set_option maxRecDepth 10000 in
theorem isSingle_any (g : Gs) (ss : Option Addr) (gc : Nat) (w : World) :
    Calls Tryz.prog 131 #[gv g ss gc] w fun e w' => e = .returned (.bool (singleGs g)) ∧ Below w.heap.size w w' := by
  have HR : Hid (singleGs g = (decide (b2n g.n + b2n (!g.sp.n) + b2n g.t + b2n g.f = 1) && (decide (g.sp.lo = g.sp.hi) && decide (g.s.length = 0)))) := rfl
  generalize singleGs g = r at HR ⊢
  obtain ⟨n, ⟨sn, lo, hi⟩, t, f, s⟩ := g
  have HC : ∀ m : Nat, m ≠ 1 → Hid (b2n n + b2n (!sn) + b2n t + b2n f = m) → Hid (r = false) := by
    intro m hm h
    show _ = _
    rw [HR.out, h.out]
    simp [hm]
  have HD : Hid (b2n n + b2n (!sn) + b2n t + b2n f = 1) → Hid (r = (decide (lo = hi) && decide (s.length = 0))) := by
    intro h
    show _ = _
    rw [HR.out, h.out]
    simp
  cases n <;> cases sn <;> cases t <;> cases f
  · have HQ := HD rfl
    clear HC HD HR
    by_cases h1 : lo = hi
    · by_cases h2 : s.length = 0
      · have HT : Hid (r = true) := by show _ = _; rw [HQ.out]; simp [h1, h2]
        have h2' : ((s.length : Int) == 0) = true := by simp only [beq_iff_eq]; omega
        subst h1
        clear HQ h2
        go_enter Tryz.func131, Tryz.ntmps131
        go_wp2
        go_rounds 5
        go_ret
        exact ⟨ret_bool (HT.out.symm), by go_grown⟩
      · have HT : Hid (r = false) := by show _ = _; rw [HQ.out]; simp [h2]
        have h2' : ((s.length : Int) == 0) = false := by simp only [beq_eq_false_iff_ne]; omega
        subst h1
        clear HQ
        go_enter Tryz.func131, Tryz.ntmps131
        go_wp2
        go_rounds 5
        go_ret
        exact ⟨ret_bool (HT.out.symm), by go_grown⟩
    · have HT : Hid (r = false) := by show _ = _; rw [HQ.out]; simp [h1]
      have h1' : (lo == hi) = false := by simpa using h1
      clear HQ
      go_enter Tryz.func131, Tryz.ntmps131
      go_wp2
      go_rounds 5
      go_ret
      exact ⟨ret_bool (HT.out.symm), by go_grown⟩
  · have HT := HC 2 (by decide) rfl
    clear HC HD HR
    go_enter Tryz.func131, Tryz.ntmps131
    go_wp2
    go_rounds 5
    go_ret
    exact ⟨ret_bool (HT.out.symm), by go_grown⟩
  · have HT := HC 2 (by decide) rfl
    clear HC HD HR
    go_enter Tryz.func131, Tryz.ntmps131
    go_wp2
    go_rounds 5
    go_ret
    exact ⟨ret_bool (HT.out.symm), by go_grown⟩
  · have HT := HC 3 (by decide) rfl
    clear HC HD HR
    go_enter Tryz.func131, Tryz.ntmps131
    go_wp2
    go_rounds 5
    go_ret
    exact ⟨ret_bool (HT.out.symm), by go_grown⟩
  · have HT := HC 0 (by decide) rfl
    clear HC HD HR
    go_enter Tryz.func131, Tryz.ntmps131
    go_wp2
    go_rounds 5
    go_ret
    exact ⟨ret_bool (HT.out.symm), by go_grown⟩
  · have HQ := HD rfl
    clear HC HD HR
    by_cases h1 : lo = hi
    · by_cases h2 : s.length = 0
      · have HT : Hid (r = true) := by show _ = _; rw [HQ.out]; simp [h1, h2]
        have h2' : ((s.length : Int) == 0) = true := by simp only [beq_iff_eq]; omega
        subst h1
        clear HQ h2
        go_enter Tryz.func131, Tryz.ntmps131
        go_wp2
        go_rounds 5
        go_ret
        exact ⟨ret_bool (HT.out.symm), by go_grown⟩
      · have HT : Hid (r = false) := by show _ = _; rw [HQ.out]; simp [h2]
        have h2' : ((s.length : Int) == 0) = false := by simp only [beq_eq_false_iff_ne]; omega
        subst h1
        clear HQ
        go_enter Tryz.func131, Tryz.ntmps131
        go_wp2
        go_rounds 5
        go_ret
        exact ⟨ret_bool (HT.out.symm), by go_grown⟩
    · have HT : Hid (r = false) := by show _ = _; rw [HQ.out]; simp [h1]
      have h1' : (lo == hi) = false := by simpa using h1
      clear HQ
      go_enter Tryz.func131, Tryz.ntmps131
      go_wp2
      go_rounds 5
      go_ret
      exact ⟨ret_bool (HT.out.symm), by go_grown⟩
  · have HQ := HD rfl
    clear HC HD HR
    by_cases h1 : lo = hi
    · by_cases h2 : s.length = 0
      · have HT : Hid (r = true) := by show _ = _; rw [HQ.out]; simp [h1, h2]
        have h2' : ((s.length : Int) == 0) = true := by simp only [beq_iff_eq]; omega
        subst h1
        clear HQ h2
        go_enter Tryz.func131, Tryz.ntmps131
        go_wp2
        go_rounds 5
        go_ret
        exact ⟨ret_bool (HT.out.symm), by go_grown⟩
      · have HT : Hid (r = false) := by show _ = _; rw [HQ.out]; simp [h2]
        have h2' : ((s.length : Int) == 0) = false := by simp only [beq_eq_false_iff_ne]; omega
        subst h1
        clear HQ
        go_enter Tryz.func131, Tryz.ntmps131
        go_wp2
        go_rounds 5
        go_ret
        exact ⟨ret_bool (HT.out.symm), by go_grown⟩
    · have HT : Hid (r = false) := by show _ = _; rw [HQ.out]; simp [h1]
      have h1' : (lo == hi) = false := by simpa using h1
      clear HQ
      go_enter Tryz.func131, Tryz.ntmps131
      go_wp2
      go_rounds 5
      go_ret
      exact ⟨ret_bool (HT.out.symm), by go_grown⟩
  · have HT := HC 2 (by decide) rfl
    clear HC HD HR
    go_enter Tryz.func131, Tryz.ntmps131
    go_wp2
    go_rounds 5
    go_ret
    exact ⟨ret_bool (HT.out.symm), by go_grown⟩
  · have HT := HC 2 (by decide) rfl
    clear HC HD HR
    go_enter Tryz.func131, Tryz.ntmps131
    go_wp2
    go_rounds 5
    go_ret
    exact ⟨ret_bool (HT.out.symm), by go_grown⟩
  · have HT := HC 3 (by decide) rfl
    clear HC HD HR
    go_enter Tryz.func131, Tryz.ntmps131
    go_wp2
    go_rounds 5
    go_ret
    exact ⟨ret_bool (HT.out.symm), by go_grown⟩
  · have HT := HC 3 (by decide) rfl
    clear HC HD HR
    go_enter Tryz.func131, Tryz.ntmps131
    go_wp2
    go_rounds 5
    go_ret
    exact ⟨ret_bool (HT.out.symm), by go_grown⟩
  · have HT := HC 4 (by decide) rfl
    clear HC HD HR
    go_enter Tryz.func131, Tryz.ntmps131
    go_wp2
    go_rounds 5
    go_ret
    exact ⟨ret_bool (HT.out.symm), by go_grown⟩
  · have HQ := HD rfl
    clear HC HD HR
    by_cases h1 : lo = hi
    · by_cases h2 : s.length = 0
      · have HT : Hid (r = true) := by show _ = _; rw [HQ.out]; simp [h1, h2]
        have h2' : ((s.length : Int) == 0) = true := by simp only [beq_iff_eq]; omega
        subst h1
        clear HQ h2
        go_enter Tryz.func131, Tryz.ntmps131
        go_wp2
        go_rounds 5
        go_ret
        exact ⟨ret_bool (HT.out.symm), by go_grown⟩
      · have HT : Hid (r = false) := by show _ = _; rw [HQ.out]; simp [h2]
        have h2' : ((s.length : Int) == 0) = false := by simp only [beq_eq_false_iff_ne]; omega
        subst h1
        clear HQ
        go_enter Tryz.func131, Tryz.ntmps131
        go_wp2
        go_rounds 5
        go_ret
        exact ⟨ret_bool (HT.out.symm), by go_grown⟩
    · have HT : Hid (r = false) := by show _ = _; rw [HQ.out]; simp [h1]
      have h1' : (lo == hi) = false := by simpa using h1
      clear HQ
      go_enter Tryz.func131, Tryz.ntmps131
      go_wp2
      go_rounds 5
      go_ret
      exact ⟨ret_bool (HT.out.symm), by go_grown⟩
  · have HT := HC 2 (by decide) rfl
    clear HC HD HR
    go_enter Tryz.func131, Tryz.ntmps131
    go_wp2
    go_rounds 5
    go_ret
    exact ⟨ret_bool (HT.out.symm), by go_grown⟩
  · have HT := HC 2 (by decide) rfl
    clear HC HD HR
    go_enter Tryz.func131, Tryz.ntmps131
    go_wp2
    go_rounds 5
    go_ret
    exact ⟨ret_bool (HT.out.symm), by go_grown⟩
  · have HT := HC 3 (by decide) rfl
    clear HC HD HR
    go_enter Tryz.func131, Tryz.ntmps131
    go_wp2
    go_rounds 5
    go_ret
    exact ⟨ret_bool (HT.out.symm), by go_grown⟩

set_option maxHeartbeats 4000000 in
set_option maxRecDepth 10000 in
theorem isAlike_any (g : Gs) (ss : Option Addr) (gc : Nat) (h : Gs) (st : Option Addr) (hc : Nat) (w : World) :
    Calls Tryz.prog 104 #[gv g ss gc, gv h st hc] w fun e w' => e = .returned (.bool (alikeGs g h)) ∧ Below w.heap.size w w' := by
  have HR : Hid (alikeGs g h = (singleGs g && (singleGs h && (g.n == h.n && (@decide _ (g.sp.dq h.sp) && (g.t == h.t && g.f == h.f)))))) := rfl
  have H1 := hideH (fun w => isSingle_any g ss gc w)
  have H2 := hideH (fun w => isSingle_any h st hc w)
  generalize alikeGs g h = r at HR ⊢
  generalize singleGs g = s1 at HR H1
  generalize singleGs h = s2 at HR H2
  have B0 : Below w.heap.size w ((w.alloc (.cells #[.bool g.n, .bool g.sp.n, .int .i64 g.sp.lo, .int .i64 g.sp.hi, .bool g.t, .bool g.f, .slice ss g.s.length gc] 29)).alloc (.cells #[.bool h.n, .bool h.sp.n, .int .i64 h.sp.lo, .int .i64 h.sp.hi, .bool h.t, .bool h.f, .slice st h.s.length hc] 29)) := by go_grown
  have G0 := (GuAt.new w g ss gc).alloc (.cells #[.bool h.n, .bool h.sp.n, .int .i64 h.sp.lo, .int .i64 h.sp.hi, .bool h.t, .bool h.f, .slice st h.s.length hc] 29)
  have H0 := GuAt.new (w.alloc (.cells #[.bool g.n, .bool g.sp.n, .int .i64 g.sp.lo, .int .i64 g.sp.hi, .bool g.t, .bool g.f, .slice ss g.s.length gc] 29)) h st hc
  rw [World.size_alloc] at H0
  cases s1 with
  | false =>
    go_enter Tryz.func104, Tryz.ntmps104
    go_wp2_with (go_at_call 131; fail)
    refine (H1.out _).mono ?_
    rintro e w1 ⟨rfl, hb1⟩
    go_wp2
    go_ret
    exact ⟨ret_bool (by rw [HR.out]; rfl), B0.trans (hb1.mono B0.size)⟩
  | true =>
    go_enter Tryz.func104, Tryz.ntmps104
    go_wp2_with (go_at_call 131; fail)
    refine (H1.out _).mono ?_
    rintro e w1 ⟨rfl, hb1⟩
    have G1 := G0.call hb1
    have K1 := H0.call hb1
    have B1 := B0.trans (hb1.mono B0.size)
    clear hb1 G0 H0 B0
    obtain ⟨⟨k0, k1, k2, k3, k4, k5, k6⟩, kz⟩ := id K1
    simp only [Nat.zero_add] at k0 k1 k2 k3 k4 k5 k6
    go_wp2_with (go_at_call 131; fail)
    refine (H2.out _).mono ?_
    rintro e w2 ⟨rfl, hb2⟩
    have G2 := G1.call hb2
    have K2 := K1.call hb2
    have B2 := B1.trans (hb2.mono B1.size)
    clear hb2 G1 K1 B1 k0 k1 k2 k3 k4 k5 k6 kz
    obtain ⟨⟨g0, g1, g2, g3, g4, g5, g6⟩, gz⟩ := id G2
    obtain ⟨⟨k0, k1, k2, k3, k4, k5, k6⟩, kz⟩ := id K2
    simp only [Nat.zero_add] at g0 g1 g2 g3 g4 g5 g6 k0 k1 k2 k3 k4 k5 k6
    cases s2 with
    | false =>
      go_wp2
      go_ret
      exact ⟨ret_bool (by rw [HR.out]; rfl), B2⟩
    | true =>
      rw [sp_eq] at HR
      obtain ⟨n, ⟨sn, lo, hi⟩, t, f, s⟩ := g
      obtain ⟨n', ⟨sn', lo', hi'⟩, t', f', s'⟩ := h
      simp only at HR g0 g1 g2 g3 g4 g5 g6 k0 k1 k2 k3 k4 k5 k6
      go_wp2
      all_goals go_ret
      all_goals exact ⟨ret_bool (by rw [HR.out]; simp_all), B2⟩
end Go.Proofs.YtmapdpcfanecdaaGreat
