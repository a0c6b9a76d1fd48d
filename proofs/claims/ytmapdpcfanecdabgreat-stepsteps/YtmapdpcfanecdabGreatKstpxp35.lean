/- The document's step. -/
import Derived.Test.YtmapdpcfanecdabGreatKstpxp34
import Derived.Test.YtmapdpcfanecdabGreatKstpxp01
import Derived.Deep.RegionHeld
import Derived.WalkKit
import Derived.WalkSpells
import Derived.WalkLawsBesides
import Derived.Handy
import Derived.Deep.DeepCutAuto
import Derived.Laws.EntriesVeiled
import Derived.Test.YtmapdpcfanecdabGreatKstpxp32
import Derived.Test.YtmapdpcfanecdabGreatKstpxp09
import Derived.Deep.RegionHeldLaw
set_option linter.unusedSimpArgs false
set_option linter.unusedVariables false
namespace Go.Proofs.YtmapdpcfanecdabGreat
section
set_option maxHeartbeats 4000000
set_option maxRecDepth 10000
open Go.RowKit
attribute [local go_sem ↓] Go.wp_at_zero Go.wp_at_succ

theorem XsAt.new1 (w : World) (x : Pic) (vs : Option Addr) (vc : Nat) (fs : Option Addr) (fc : Nat) (hP : PicAt w x vs fs) (h1 : x.vars.length ≤ vc ∧ vc ≤ maxLen) (h2 : x.flds.length ≤ fc ∧ fc ≤ maxLen) :
  XsAt (w.alloc (.cells #[.bool x.none, .slice vs x.vars.length vc, .slice fs x.flds.length fc] 28)) (some ⟨w.heap.size, 0, none⟩) [x] := by
 intro i hi
 obtain rfl : i = 0 := by simp at hi; omega
 exact ⟨w.heap.size, 0, rfl, by simp, vs, vc, fs, fc, by simp [go_sem], hP.call (by go_grown), h1, h2⟩
theorem XsAt.new2 (w : World) (x : Pic) (vs : Option Addr) (vc : Nat) (fs : Option Addr) (fc : Nat) (y : Pic) (us : Option Addr) (uc : Nat) (gs : Option Addr) (gc : Nat) (hP : PicAt w x vs fs) (h1 : x.vars.length ≤ vc ∧ vc ≤ maxLen) (h2 : x.flds.length ≤ fc ∧ fc ≤ maxLen) (hQ : PicAt w y us gs) (h3 : y.vars.length ≤ uc ∧ uc ≤ maxLen) (h4 : y.flds.length ≤ gc ∧ gc ≤ maxLen) :
  XsAt (w.alloc (.cells #[.bool x.none, .slice vs x.vars.length vc, .slice fs x.flds.length fc, .bool y.none, .slice us y.vars.length uc, .slice gs y.flds.length gc] 28)) (some ⟨w.heap.size, 0, none⟩) [x, y] := by
 intro i hi
 by_cases e : i = 0
 ·subst e; exact ⟨w.heap.size, 0, rfl, by simp, vs, vc, fs, fc, by simp [go_sem], hP.call (by go_grown), h1, h2⟩
 ·obtain rfl : i = 1 := by simp at hi; omega
  exact ⟨w.heap.size, 0, rfl, by simp, us, uc, gs, gc, by simp [go_sem], hQ.call (by go_grown), h3, h4⟩
theorem checkAllP_any (V F : Int) (s : Option Addr) (c : List Ins) (cap : Nat) (ls : Option Addr) (L : List Pic) (lc : Nat) (w : World) (hc : CodeAt w s c) (hL : XsAt w ls L) (hl : L.length ≤ 9223372036854775807) :
  Calls Tryz.prog 43 #[pv V F s c cap, .slice ls L.length lc] w fun e w' => e = .returned (.int .i64 (ckPics V F c L)) ∧ Below w.heap.size w w' := by
 have P0 := PrAt.new w V F s c cap
 have B0 : Below w.heap.size w (w.alloc (.cells #[.int .i64 V, .int .i64 F, .slice s c.length cap] 24)) := by go_grown
 have C0 := hc.below B0 (Nat.le_refl _)
 have L0 := hL.below B0 (Nat.le_refl _)
 have HC := hideH (codeCheck_any V F s cap c _ C0)
 clear hc hL
 by_cases h0 : ckProg V F c = 0
 ·have er : ckPics V F c L = ckPicL V F c L := by unfold ckPics; rw [if_pos h0]
  obtain ⟨res, HR, hres⟩ : ∃ r, Hid (r = ckPicL V F c L) ∧ ckPics V F c L = r := ⟨_, rfl, er⟩
  rw [hres]
  rw [h0] at HC
  have H0 := hideH h0
  clear er hres h0
  go_enter Tryz.func43, Tryz.ntmps43
  go_wp2_with (go_at_call 64; fail)
  refine HC.out.mono ?_
  rintro e w1 ⟨rfl, hb1⟩
  have P1 := P0.call hb1
  have C1 := C0.call hb1
  have L1 := L0.below hb1 (Nat.le_refl _)
  have B1 := B0.trans (hb1.mono B0.size)
  clear hb1 P0 C0 L0 B0 HC
  go_wp2
  go_loopw [16] (fun i wr => ∃ k : Nat, k ≤ L.length ∧ i = .int .i64 k ∧ Below w1.heap.size w1 wr ∧ Hid (res = ckPicL V F c (L.drop k))) (fun i _ => L.length - (intOf i).toNat)
  case atStart => exact ⟨0, Nat.zero_le _, rfl, Below.refl _ _, HR⟩
  case round =>
   obtain ⟨k, hk, rfl, hbr, HK⟩ := hrel
   by_cases hlt : k < L.length
   ·have n0 : (0 : Int) ≤ (k : Int) := by omega
    have n1 : (k : Int) < (L.length : Int) := by omega
    have HS := hideH (ckPicL_drop V F c L k hlt)
    obtain ⟨b, off, rfl, zb, vs, vc, fs, fc, ⟨g0, g1, g2⟩, hP, hv, hf⟩ := (L1.below hbr (Nat.le_refl _)) k hlt
    have X2 := XAt.new wr L[k] vs vc fs fc
    have hb2 : Below wr.heap.size wr (wr.alloc (.cells #[.bool L[k].none, .slice vs L[k].vars.length vc, .slice fs L[k].flds.length fc] 28)) := by go_grown
    have hb12 := hbr.trans (hb2.mono hbr.size)
    have P2 := P1.call hb12
    have hP2 := hP.call hb2
    go_upto_region 7 with fail
    generalize wr.alloc (.cells #[.bool L[k].none, .slice vs L[k].vars.length vc, .slice fs L[k].flds.length fc] 28) = w2 at *
    clear g0 g1 g2
    obtain ⟨⟨p0, p1, p2⟩, pz⟩ := id P2
    obtain ⟨⟨x0, x1, x2⟩, xz, -⟩ := id X2
    go_wp2_with (go_at_call 78; fail)
    refine (checkPartsP_any V F s c cap L[k] vs vc fs fc _ (C1.call hb12) hP2 hv.1 hv.2 H0.out).mono ?_
    rintro e w3 ⟨rfl, hb3⟩
    have hb13 := hb12.trans (hb3.mono hb12.size)
    clear p0 p1 p2 pz x0 x1 x2 xz
    generalize ckPic V F c L[k] = ce at *
    by_cases hz : ce = 0
    ·have e1 : (ce != 0) = false := by simpa using hz
     go_wp2
     go_roundw
     case rel => exact ⟨k + 1, by omega, by go_num, hb13, by show _ = _; rw [HK.out, HS.out, if_pos hz]⟩
     case measure => simp [intOf]; omega
    ·have e1 : (ce != 0) = true := by simpa using hz
     go_wp2
     go_ret
     exact ⟨ret_int (by rw [HK.out, HS.out, if_neg hz]), B1.trans (hb13.mono B1.size)⟩
   ·have n1 : ¬ (k : Int) < (L.length : Int) := by omega
    go_wp2
    go_ret
    refine ⟨ret_int ?_, B1.trans (hbr.mono B1.size)⟩
    rw [HK.out, List.drop_eq_nil_of_le (by omega)]
    rfl
 ·have er : ckPics V F c L = ckProg V F c := by unfold ckPics; rw [if_neg h0]
  rw [er]
  have e1 : (ckProg V F c != 0) = true := by simpa using h0
  generalize ckProg V F c = ce at *
  clear er h0
  go_enter Tryz.func43, Tryz.ntmps43
  go_wp2_with (go_at_call 64; fail)
  refine HC.out.mono ?_
  rintro e w1 ⟨rfl, hb1⟩
  go_wp2
  go_ret
  exact ⟨rfl, B0.trans (hb1.mono B0.size)⟩

theorem checkP_any (V F : Int) (s : Option Addr) (c : List Ins) (cap : Nat) (x : Pic) (vs : Option Addr) (vc : Nat) (fs : Option Addr) (fc : Nat) (w : World) (hc : CodeAt w s c) (hP : PicAt w x vs fs) (h1 : x.vars.length ≤ vc ∧ vc ≤ maxLen) (h2 : x.flds.length ≤ fc ∧ fc ≤ maxLen) :
  Calls Tryz.prog 17 #[pv V F s c cap, xv x vs vc fs fc] w fun e w' => e = .returned (.int .i64 (ckPics V F c [x])) ∧ Below w.heap.size w w' := by
 have B1 : Below w.heap.size w (((w.alloc (.cells #[.int .i64 V, .int .i64 F, .slice s c.length cap] 24)).alloc (.cells #[.bool x.none, .slice vs x.vars.length vc, .slice fs x.flds.length fc] 28)).alloc (.cells #[.bool x.none, .slice vs x.vars.length vc, .slice fs x.flds.length fc] 28)) := by go_grown
 have HC := hideH (checkAllP_any V F s c cap (some ⟨((w.alloc (.cells #[.int .i64 V, .int .i64 F, .slice s c.length cap] 24)).alloc (.cells #[.bool x.none, .slice vs x.vars.length vc, .slice fs x.flds.length fc] 28)).heap.size, 0, none⟩) [x] 1 (((w.alloc (.cells #[.int .i64 V, .int .i64 F, .slice s c.length cap] 24)).alloc (.cells #[.bool x.none, .slice vs x.vars.length vc, .slice fs x.flds.length fc] 28)).alloc (.cells #[.bool x.none, .slice vs x.vars.length vc, .slice fs x.flds.length fc] 28)) (hc.below B1 (Nat.le_refl _)) (XsAt.new1 ((w.alloc (.cells #[.int .i64 V, .int .i64 F, .slice s c.length cap] 24)).alloc (.cells #[.bool x.none, .slice vs x.vars.length vc, .slice fs x.flds.length fc] 28)) x vs vc fs fc (hP.below (B := w.heap.size) (by go_grown) (Nat.le_refl _)) h1 h2) (by simp))
 simp only [World.size_alloc] at HC
 go_enter Tryz.func17, Tryz.ntmps17
 go_wp2_with (go_at_call 43; fail)
 refine HC.out.mono ?_
 rintro e w1 ⟨rfl, hb1⟩
 go_wp2
 go_ret
 exact ⟨rfl, B1.trans (hb1.mono (by first | omega | exact B1.size))⟩
end
section
open Go.RowKit
attribute [local go_sem ↓] Go.wp_at_zero Go.wp_at_succ
end
section
open Go.RowKit
attribute [local go_sem ↓] Go.wp_at_zero Go.wp_at_succ

theorem rising_pair : ∀ {l : List Int}, rising l = true → l.Pairwise (· < ·)
 | [], _ => List.Pairwise.nil
 | [a], _ => List.pairwise_singleton _ _
 | a :: b :: r, h => by
  unfold rising at h
  simp only [Bool.and_eq_true, decide_eq_true_eq] at h
  have ih := rising_pair h.2
  rw [List.pairwise_cons]
  refine ⟨fun x hx => ?_, ih⟩
  rw [List.pairwise_cons] at ih
  rcases List.mem_cons.1 hx with rfl | hx
  ·exact h.1
  ·have := ih.1 x hx
   omega
theorem sites_self {c : List Ins} {g : Gs} (h60 : c.length ≤ 60) (h : ckGs c g = 0) : sitesOf [g, g] = g.s := by
 obtain ⟨h1, h2⟩ := ckGs_sites h60 h
 rw [sitesOf_eq g g h1 h1]
 refine rising_ext _ _ (siteTo_rises _ _ _) (rising_pair h2) fun x => ?_
 rw [siteTo_mem]
 constructor
 ·rintro ⟨-, h | h⟩ <;> exact h
 ·intro hx
  exact ⟨h1 x hx, .inl hx⟩
theorem tog_self {c : List Ins} {g : Gs} {op : Sp → Sp → Sp} (hop : ∀ s, op s s = s) (h60 : c.length ≤ 60) (h : ckGs c g = 0) : togGs op g g = g := by
 unfold togGs
 rw [sites_self h60 h, hop]
 simp
theorem joinSp_self (s : Sp) : joinSp s s = s := by
 obtain ⟨n, lo, hi⟩ := s
 unfold joinSp
 cases n <;> simp
theorem ints_keep {w w' : World} {js : Option Addr} {l : List Int} {N : Nat} (h : IntsAt w js l) (hf : ∀ a, js = some a → N ≤ a.block) (hs : ∀ b, N ≤ b → w'.heap[b]? = w.heap[b]?) (hz : w.heap.size ≤ w'.heap.size) : IntsAt w' js l := by
 rcases h with h | ⟨b, off, e, hb, hc⟩
 ·exact .inl h
 ·have hn := hf _ e
  exact .inr ⟨b, off, e, Nat.lt_of_lt_of_le hb hz, fun k hk => by rw [World.cell?_of_block (a := ⟨b, off + k, none⟩) (hs b hn)]; exact hc k hk⟩
theorem GuAt.put6 {w : World} {b : Nat} {g : Gs} {ss js : Option Addr} {gc jc : Nat} (h : GuAt w b 0 g ss gc) : GuAt (w.setCell ⟨b, 6, none⟩ (.slice js g.s.length jc)) b 0 g js jc := by
 obtain ⟨⟨h0, h1, h2, h3, h4, h5, h6⟩, hz⟩ := h
 simp only [Nat.zero_add] at h0 h1 h2 h3 h4 h5 h6
 have ne : ∀ i, i ≠ 6 → (w.setCell ⟨b, 6, none⟩ (.slice js g.s.length jc)).cell? ⟨b, i, none⟩ = w.cell? ⟨b, i, none⟩ := fun i hi => World.cell?_setCell_other _ _ _ _ (by intro e; cases e; exact hi rfl)
 simp only [GuAt, Nat.zero_add]
 exact ⟨⟨(ne _ (by omega)).trans h0, (ne _ (by omega)).trans h1, (ne _ (by omega)).trans h2, (ne _ (by omega)).trans h3, (ne _ (by omega)).trans h4, (ne _ (by omega)).trans h5, World.cell?_setCell_same _ _ _ h6⟩, by simpa [World.setCell] using hz⟩
theorem cloneP_any (ss : Option Addr) (cap : Nat) (l : List Int) (w : World) (hl : l.length ≤ 1000000) (hs : IntsAt w ss l) :
  Calls Tryz.prog 125 #[.slice ss l.length cap] w fun e w' => (∃ js jc, e = .returned (.slice js l.length jc) ∧ IntsAt w' js l ∧ l.length ≤ jc ∧ jc ≤ maxLen ∧ ∀ a, js = some a → w.heap.size ≤ a.block) ∧ Below w.heap.size w w' := by
 have key : Calls Tryz.prog 125 #[.slice ss l.length cap] w fun e w' => ∃ v, e = .returned v ∧ w'.ownsRow w.heap.size 3 1 v l.length (l.map (.int .i64)) ∧ Below w.heap.size w w' := by
  cases ss with
  | none =>
   have h0 : l = [] := by
    rcases hs with h | ⟨_, _, h, _⟩
    ·exact h
    ·cases h
   subst h0
   refine (Tryz.slices_Clone_int_nil _ _ _).mono ?_
   rintro e w' ⟨rfl, rfl⟩
   exact ⟨_, rfl, ⟨rfl, .inl ⟨rfl, rfl⟩⟩, Below.refl _ _⟩
  | some a =>
   by_cases h0 : l = []
   ·subst h0
    refine (Tryz.slices_Clone_int_zero a cap w).mono ?_
    rintro e w' ⟨v, rfl, ho, -, hb⟩
    exact ⟨_, rfl, ho, hb⟩
   ·obtain ⟨b, off, e, hb, hc⟩ := hs.get 0 (List.length_pos_iff.2 h0)
    cases e
    refine (Tryz.slices_Clone_int b off l.length cap l w (Nat.le_refl _) (by omega) (fun j hj => ?_)).mono ?_
    ·rw [hc j hj]
     simp [List.getD, List.getElem?_eq_getElem hj]
    ·rintro e w' ⟨v, rfl, ho, -, hb'⟩
     rw [List.take_length] at ho
     exact ⟨_, rfl, ho, hb'⟩
 refine key.mono ?_
 rintro e w' ⟨v, rfl, ho, hb⟩
 obtain ⟨js, jc, rfl, hi, k1, k2, hf⟩ := IntsAt.own ho
 exact ⟨⟨js, jc, rfl, hi, k1, k2, hf⟩, hb⟩
end
section
set_option maxHeartbeats 16000000
set_option maxRecDepth 20000
open Go.RowKit
attribute [local go_sem ↓] Go.wp_at_zero Go.wp_at_succ

theorem rowTogether_join (V F : Int) (s : Option Addr) (c : List Ins) (cap : Nat) (a b : List Gs) (ra : Option Addr) (rac : Nat) (rb : Option Addr) (rbc : Nat) (w : World) (hcd : CodeAt w s c) (ha : GsAt w ra a) (hb : GsAt w rb b) (hl : a.length = b.length) (hl8 : a.length ≤ 1000) (h0 : ckProg V F c = 0) (hga : ∀ g ∈ a, ckGs c g = 0) (hgb : ∀ g ∈ b, ckGs c g = 0)
  (hJ : ∀ (g : Gs) (ss : Option Addr) (gc : Nat) (h : Gs) (st : Option Addr) (hc : Nat) (wx : World), CodeAt wx s c → IntsAt wx ss g.s → g.s.length ≤ gc → gc ≤ maxLen → IntsAt wx st h.s → h.s.length ≤ hc → hc ≤ maxLen → ckGs c g = 0 → ckGs c h = 0 → Calls Tryz.prog 82 #[pv V F s c cap, gv g ss gc, gv h st hc] wx fun e w' => (∃ js jc, e = .returned (.tuple #[gv (togGs joinSp g h) js jc, .int .i64 0]) ∧ IntsAt w' js (togGs joinSp g h).s ∧ (togGs joinSp g h).s.length ≤ jc ∧ jc ≤ maxLen ∧ ∀ a, js = some a → wx.heap.size ≤ a.block) ∧ Below wx.heap.size wx w') :
  Calls Tryz.prog 140 #[pv V F s c cap, .slice ra a.length rac, .slice rb b.length rbc, .func (.func 82) #[] #[]] w fun e w' => RowN w w' e (joinRow (togGs joinSp) a b) ∧ Below w.heap.size w w' := by
 obtain ⟨ti, hi, hz0, hz1, hz2⟩ := info_parts Tryz.info_guess
 obtain ⟨-, -, h60⟩ := ckProg_lim h0
 have B0 : Below w.heap.size w (w.alloc (.cells #[.int .i64 V, .int .i64 F, .slice s c.length cap] 24)) := by go_grown
 have P0 := PrAt.new w V F s c cap
 have z01 : w.heap.size ≤ (w.alloc (.cells #[.int .i64 V, .int .i64 F, .slice s c.length cap] 24)).heap.size := by simp
 have HL := hideH hl
 have HGA := hideH hga
 have HGB := hideH hgb
 have HA := hideH ha
 have HB := hideH hb
 have HCD := hideH hcd
 have HJ := hideH hJ
 have H0 := hideH h0
 have HCL := hideH cloneP_any
 clear hl hga hgb ha hb hcd hJ h0
 go_enter Tryz.func140, Tryz.ntmps140
 go_upto_region 1 with fail
 generalize w.alloc (.cells #[.int .i64 V, .int .i64 F, .slice s c.length cap] 24) = w1 at *
 go_wp2
 go_loopw [9, 14] (fun v i wr => ∃ (k : Nat) (rs : Option Addr) (rc : Nat) (l : List Gc), k ≤ a.length ∧ i = .int .i64 k ∧ v = .slice rs l.length rc ∧ Below w1.heap.size w1 wr ∧ SRow wr w1.heap.size (.slice rs l.length rc) l ∧ Hid (l.map Gc.g = joinRow (togGs joinSp) (a.take k) (b.take k))) (fun _ i _ => a.length - (intOf i).toNat)
 case atStart => exact ⟨0, none, 0, [], Nat.zero_le _, rfl, rfl, Below.refl _ _, SRow.nil _ _, rfl⟩
 case round =>
  obtain ⟨k, rs, rc, l, hk, rfl, rfl, hbr, SR, HE⟩ := hrel
  have LL : Hid (l.length = k) := by
   show _ = _
   have h1 := congrArg List.length HE.out
   have h2 := HL.out
   unfold joinRow at h1
   rw [List.length_map, List.length_zipWith, List.length_take, List.length_take] at h1
   omega
  have LR := B0.trans (hbr.mono B0.size)
  by_cases hlt : k < a.length
  ·have n0 : (0 : Int) ≤ (k : Int) := by omega
   have n1 : (k : Int) < (a.length : Int) := by omega
   have hlt' : k < b.length := by have := HL.out; omega
   have n2 : (k : Int) < (b.length : Int) := by omega
   obtain ⟨b1, o1, e1, ss1, g1, G1, I1, k1, m1⟩ := (HA.out.below LR (Nat.le_refl _)) k hlt
   obtain ⟨b2, o2, e2, ss2, g2, G2, J1, k2, m2⟩ := (HB.out.below LR (Nat.le_refl _)) k hlt'
   subst e1 e2
   have zb2 : b2 < w.heap.size := gs_low HB.out k hlt'
   have hRa := HGA.out _ (List.getElem_mem hlt)
   have hRb := HGB.out _ (List.getElem_mem hlt')
   obtain ⟨⟨q0, q1, q2, q3, q4, q5, q6⟩, qz⟩ := id G1
   have Q4 := GuAt.new wr a[k] ss1 g1
   have F4 : ∀ j, (wr.alloc (.cells #[.bool a[k].n, .bool a[k].sp.n, .int .i64 a[k].sp.lo, .int .i64 a[k].sp.hi, .bool a[k].t, .bool a[k].f, .slice ss1 a[k].s.length g1] 61)).frozen? ⟨wr.heap.size, j, none⟩ = false := fun j => by simp [go_sem]
   have hb4 : Below wr.heap.size wr (wr.alloc (.cells #[.bool a[k].n, .bool a[k].sp.n, .int .i64 a[k].sp.lo, .int .i64 a[k].sp.hi, .bool a[k].t, .bool a[k].f, .slice ss1 a[k].s.length g1] 61)) := by go_grown
   have I4 := I1.call hb4
   have J4 := J1.call hb4
   have G4 := G2.call hb4
   have hq : wr.heap.size < (wr.alloc (.cells #[.bool a[k].n, .bool a[k].sp.n, .int .i64 a[k].sp.lo, .int .i64 a[k].sp.hi, .bool a[k].t, .bool a[k].f, .slice ss1 a[k].s.length g1] 61)).heap.size := by simp
   go_upto_region 5 with fail
   generalize wr.alloc (.cells #[.bool a[k].n, .bool a[k].sp.n, .int .i64 a[k].sp.lo, .int .i64 a[k].sp.hi, .bool a[k].t, .bool a[k].f, .slice ss1 a[k].s.length g1] 61) = w4 at *
   have hqb : ∃ qb, qb = wr.heap.size := ⟨_, rfl⟩
   obtain ⟨qb, eqb⟩ := hqb
   rw [← eqb] at Q4 F4 hq ⊢
   have EQB := hideH eqb
   clear q0 q1 q2 q3 q4 q5 q6 qz G1 G2 I1 J1 eqb
   have HKZ : Hid (∀ wx, Below w4.heap.size w4 wx → (wx.cell? ⟨qb, 0, none⟩ = some (.bool a[k].n) ∧ wx.cell? ⟨qb, 0 + 1, none⟩ = some (.bool a[k].sp.n) ∧ wx.cell? ⟨qb, 0 + 2, none⟩ = some (.int .i64 a[k].sp.lo) ∧ wx.cell? ⟨qb, 0 + 3, none⟩ = some (.int .i64 a[k].sp.hi) ∧ wx.cell? ⟨qb, 0 + 4, none⟩ = some (.bool a[k].t) ∧ wx.cell? ⟨qb, 0 + 5, none⟩ = some (.bool a[k].f) ∧ wx.cell? ⟨qb, 0 + 6, none⟩ = some (.slice ss1 a[k].s.length g1)) ∧ (wx.cell? ⟨b2, o2 + k * 7, none⟩ = some (.bool b[k].n) ∧ wx.cell? ⟨b2, o2 + k * 7 + 1, none⟩ = some (.bool b[k].sp.n) ∧ wx.cell? ⟨b2, o2 + k * 7 + 2, none⟩ = some (.int .i64 b[k].sp.lo) ∧ wx.cell? ⟨b2, o2 + k * 7 + 3, none⟩ = some (.int .i64 b[k].sp.hi) ∧ wx.cell? ⟨b2, o2 + k * 7 + 4, none⟩ = some (.bool b[k].t) ∧ wx.cell? ⟨b2, o2 + k * 7 + 5, none⟩ = some (.bool b[k].f) ∧ wx.cell? ⟨b2, o2 + k * 7 + 6, none⟩ = some (.slice ss2 b[k].s.length g2))) := fun wx hx => ⟨(Q4.call hx).1, (G4.call hx).1⟩
   have HD : Below w4.heap.size w4 w4.drew := (Below.refl _ _).drew
   refine wp_region_z (S := (fun wx => (wx.cell? ⟨qb, 0, none⟩ = some (.bool a[k].n) ∧ wx.cell? ⟨qb, 0 + 1, none⟩ = some (.bool a[k].sp.n) ∧ wx.cell? ⟨qb, 0 + 2, none⟩ = some (.int .i64 a[k].sp.lo) ∧ wx.cell? ⟨qb, 0 + 3, none⟩ = some (.int .i64 a[k].sp.hi) ∧ wx.cell? ⟨qb, 0 + 4, none⟩ = some (.bool a[k].t) ∧ wx.cell? ⟨qb, 0 + 5, none⟩ = some (.bool a[k].f) ∧ wx.cell? ⟨qb, 0 + 6, none⟩ = some (.slice ss1 a[k].s.length g1)) ∧ (wx.cell? ⟨b2, o2 + k * 7, none⟩ = some (.bool b[k].n) ∧ wx.cell? ⟨b2, o2 + k * 7 + 1, none⟩ = some (.bool b[k].sp.n) ∧ wx.cell? ⟨b2, o2 + k * 7 + 2, none⟩ = some (.int .i64 b[k].sp.lo) ∧ wx.cell? ⟨b2, o2 + k * 7 + 3, none⟩ = some (.int .i64 b[k].sp.hi) ∧ wx.cell? ⟨b2, o2 + k * 7 + 4, none⟩ = some (.bool b[k].t) ∧ wx.cell? ⟨b2, o2 + k * 7 + 5, none⟩ = some (.bool b[k].f) ∧ wx.cell? ⟨b2, o2 + k * 7 + 6, none⟩ = some (.slice ss2 b[k].s.length g2)))) [] (by kernel_rfl) (HKZ.out _ HD) (fun hHeld => ?_)
   refine tZ 0 ?_ ?_;refine sm ?_
   refine tZ 1 ?_ ?_;refine sm ?_
   refine tZ 2 ?_ ?_;refine sm ?_
   refine tZ 3 ?_ ?_;refine sm ?_
   refine tZ 4 ?_ ?_;refine sm ?_
   refine wpAnyZ_one (i := 5) rfl (by kernel_rfl) (fun K hK => ?_)
   go_simp
   go_at_call 132
   refine (isSame_any a[k] ss1 g1 b[k] ss2 g2 _ (I4.call HD) (J4.call HD) (Nat.le_trans k1 m1) (Nat.le_trans k2 m2)).mono ?_
   rintro e w5 ⟨rfl, hb5⟩
   have HB5 : Below w4.heap.size w4 w5 := HD.trans (hb5.mono HD.size)
   go_wp2_with fail
   refine hK.out _ _ (HKZ.out _ HB5) (fun hHeld => ?_)
   clear hK K
   refine sm ?_
   refine wpAnyZ_done (by kernel_rfl) ?_ _
   have Q5 := Q4.call HB5
   have F5 : ∀ j, w5.frozen? ⟨qb, j, none⟩ = false := fun j => by rw [HB5.frozen (by simp only; exact hq)]; exact F4 j
   have I5 := I4.call HB5
   have J5 := J4.call HB5
   have G5 := G4.call HB5
   have hbr5 : Below wr.heap.size wr w5 := hb4.trans (HB5.mono hb4.size)
   have L5 := LR.trans (hbr5.mono LR.size)
   have C5 := HCD.out.below L5 (Nat.le_refl _)
   have z5 : wr.heap.size ≤ w5.heap.size := hbr5.size
   clear Q4 F4 I4 J4 G4 HKZ HD HB5 hb4
   rcases (show sameGs a[k] b[k] = false ∨ sameGs a[k] b[k] = true by cases sameGs a[k] b[k] <;> simp) with hs | hs <;> have HSG := hideH hs <;> rw [hs] <;> clear hs
   ·have P5 := (P0.call (hbr.trans (hbr5.mono hbr.size)))
    have z0w : w.heap.size < w1.heap.size := P0.2
    have z15 : w1.heap.size ≤ w5.heap.size := Nat.le_trans hbr.size z5
    have HKY : Hid (∀ wx, Below w1.heap.size w5 wx → (wx.cell? ⟨w.heap.size, 0, none⟩ = some (.int .i64 V) ∧ wx.cell? ⟨w.heap.size, 1, none⟩ = some (.int .i64 F) ∧ wx.cell? ⟨w.heap.size, 2, none⟩ = some (.slice s c.length cap)) ∧ (wx.cell? ⟨b2, o2 + k * 7, none⟩ = some (.bool b[k].n) ∧ wx.cell? ⟨b2, o2 + k * 7 + 1, none⟩ = some (.bool b[k].sp.n) ∧ wx.cell? ⟨b2, o2 + k * 7 + 2, none⟩ = some (.int .i64 b[k].sp.lo) ∧ wx.cell? ⟨b2, o2 + k * 7 + 3, none⟩ = some (.int .i64 b[k].sp.hi) ∧ wx.cell? ⟨b2, o2 + k * 7 + 4, none⟩ = some (.bool b[k].t) ∧ wx.cell? ⟨b2, o2 + k * 7 + 5, none⟩ = some (.bool b[k].f) ∧ wx.cell? ⟨b2, o2 + k * 7 + 6, none⟩ = some (.slice ss2 b[k].s.length g2))) := fun wx hx => ⟨(P5.low hx z0w).1, (G5.low hx (by omega)).1⟩
    have HE5 : Below w5.heap.size w5 w5.drew := (Below.refl _ _).drew
    go_wp2
    refine wp_region_z (S := (fun wx => (wx.cell? ⟨w.heap.size, 0, none⟩ = some (.int .i64 V) ∧ wx.cell? ⟨w.heap.size, 1, none⟩ = some (.int .i64 F) ∧ wx.cell? ⟨w.heap.size, 2, none⟩ = some (.slice s c.length cap)) ∧ (wx.cell? ⟨b2, o2 + k * 7, none⟩ = some (.bool b[k].n) ∧ wx.cell? ⟨b2, o2 + k * 7 + 1, none⟩ = some (.bool b[k].sp.n) ∧ wx.cell? ⟨b2, o2 + k * 7 + 2, none⟩ = some (.int .i64 b[k].sp.lo) ∧ wx.cell? ⟨b2, o2 + k * 7 + 3, none⟩ = some (.int .i64 b[k].sp.hi) ∧ wx.cell? ⟨b2, o2 + k * 7 + 4, none⟩ = some (.bool b[k].t) ∧ wx.cell? ⟨b2, o2 + k * 7 + 5, none⟩ = some (.bool b[k].f) ∧ wx.cell? ⟨b2, o2 + k * 7 + 6, none⟩ = some (.slice ss2 b[k].s.length g2)))) [] (by kernel_rfl) (HKY.out _ (HE5.mono z15)) (fun hHeld => ?_)
    refine tZ 0 ?_ ?_;refine sm ?_
    refine tZ 1 ?_ ?_;refine sm ?_
    refine tZ 3 ?_ ?_;refine sm ?_
    refine tZ 4 ?_ ?_;refine sm ?_
    refine tZ 5 ?_ ?_;refine sm ?_
    refine tZ 6 ?_ ?_;refine sm ?_
    refine wpAnyZ_one (i := 2) rfl (by kernel_rfl) (fun K hK => ?_)
    have Qd := Q5.drew
    obtain ⟨⟨q0, q1, q2, q3, q4, q5, q6⟩, qz⟩ := id Qd
    simp only [Nat.zero_add] at q0 q1 q2 q3 q4 q5 q6
    go_simp
    refine hK.out _ _ (HKY.out _ (HE5.mono z15)) (fun hHeld => ?_)
    clear hK K q0 q1 q2 q3 q4 q5 q6 qz
    refine sm ?_
    refine wpAnyZ_one (i := 7) rfl (by kernel_rfl) (fun K hK => ?_)
    go_simp
    go_at_call 82
    refine (HJ.out a[k] ss1 g1 b[k] ss2 g2 _ (C5.call HE5) (I5.call HE5) k1 m1 (J5.call HE5) k2 m2 hRa hRb).mono ?_
    rintro e w6 ⟨⟨js, jc, rfl, HI6, HJ1, HJ2, HF7⟩, hb6⟩
    have HB6 : Below w5.heap.size w5 w6 := HE5.trans (hb6.mono HE5.size)
    go_wp2_with fail
    refine hK.out _ _ (HKY.out _ (HB6.mono z15)) (fun hHeld => ?_)
    clear hK K
    refine sm ?_
    refine tZ 8 ?_ ?_;refine sm ?_
    refine tZ 9 ?_ ?_;refine sm ?_
    refine tZ 10 ?_ ?_;refine sm ?_
    refine wpAnyZ_one (i := 11) rfl (by kernel_rfl) (fun K hK => ?_)
    have Q6 := Q5.call HB6
    have F6 : ∀ j, w6.frozen? ⟨qb, j, none⟩ = false := fun j => by rw [HB6.frozen (by simp only; exact Q5.2)]; exact F5 j
    obtain ⟨⟨q0, q1, q2, q3, q4, q5, q6⟩, qz⟩ := id Q6
    simp only [Nat.zero_add] at q0 q1 q2 q3 q4 q5 q6
    have f0 := F6 0
    have f1 := F6 1
    have f2 := F6 2
    have f3 := F6 3
    have f4 := F6 4
    have f5 := F6 5
    have f6 := F6 6
    go_simp
    have HBC : Below w1.heap.size w5 (((((((w6.setCell ⟨qb, 0, none⟩ (.bool (togGs joinSp a[k] b[k]).n)).setCell ⟨qb, 1, none⟩ (.bool (togGs joinSp a[k] b[k]).sp.n)).setCell ⟨qb, 2, none⟩ (.int .i64 (togGs joinSp a[k] b[k]).sp.lo)).setCell ⟨qb, 3, none⟩ (.int .i64 (togGs joinSp a[k] b[k]).sp.hi)).setCell ⟨qb, 4, none⟩ (.bool (togGs joinSp a[k] b[k]).t)).setCell ⟨qb, 5, none⟩ (.bool (togGs joinSp a[k] b[k]).f)).setCell ⟨qb, 6, none⟩ (.slice js (togGs joinSp a[k] b[k]).s.length jc)) := ((((((((HB6.mono z15)).setCell (by simp only; have := EQB.out; have := hbr.size; omega) _).setCell (by simp only; have := EQB.out; have := hbr.size; omega) _).setCell (by simp only; have := EQB.out; have := hbr.size; omega) _).setCell (by simp only; have := EQB.out; have := hbr.size; omega) _).setCell (by simp only; have := EQB.out; have := hbr.size; omega) _).setCell (by simp only; have := EQB.out; have := hbr.size; omega) _).setCell (by simp only; have := EQB.out; have := hbr.size; omega) _
    refine hK.out _ _ (HKY.out _ HBC) (fun hHeld => ?_)
    clear hK K HBC
    refine sm ?_
    refine wpAnyZ_done (by kernel_rfl) ?_ _
    have hch : ∀ bb, bb ≠ qb → (((((((w6.setCell ⟨qb, 0, none⟩ (.bool (togGs joinSp a[k] b[k]).n)).setCell ⟨qb, 1, none⟩ (.bool (togGs joinSp a[k] b[k]).sp.n)).setCell ⟨qb, 2, none⟩ (.int .i64 (togGs joinSp a[k] b[k]).sp.lo)).setCell ⟨qb, 3, none⟩ (.int .i64 (togGs joinSp a[k] b[k]).sp.hi)).setCell ⟨qb, 4, none⟩ (.bool (togGs joinSp a[k] b[k]).t)).setCell ⟨qb, 5, none⟩ (.bool (togGs joinSp a[k] b[k]).f)).setCell ⟨qb, 6, none⟩ (.slice js (togGs joinSp a[k] b[k]).s.length jc)).heap[bb]? = w6.heap[bb]? := fun bb hbb => by rw [Below.heap_setCell _ _ _ _ hbb, Below.heap_setCell _ _ _ _ hbb, Below.heap_setCell _ _ _ _ hbb, Below.heap_setCell _ _ _ _ hbb, Below.heap_setCell _ _ _ _ hbb, Below.heap_setCell _ _ _ _ hbb, Below.heap_setCell _ _ _ _ hbb]
    have hcz : w6.heap.size ≤ (((((((w6.setCell ⟨qb, 0, none⟩ (.bool (togGs joinSp a[k] b[k]).n)).setCell ⟨qb, 1, none⟩ (.bool (togGs joinSp a[k] b[k]).sp.n)).setCell ⟨qb, 2, none⟩ (.int .i64 (togGs joinSp a[k] b[k]).sp.lo)).setCell ⟨qb, 3, none⟩ (.int .i64 (togGs joinSp a[k] b[k]).sp.hi)).setCell ⟨qb, 4, none⟩ (.bool (togGs joinSp a[k] b[k]).t)).setCell ⟨qb, 5, none⟩ (.bool (togGs joinSp a[k] b[k]).f)).setCell ⟨qb, 6, none⟩ (.slice js (togGs joinSp a[k] b[k]).s.length jc)).heap.size := by simp [World.setCell]
    have G7 : GuAt (((((((w6.setCell ⟨qb, 0, none⟩ (.bool (togGs joinSp a[k] b[k]).n)).setCell ⟨qb, 1, none⟩ (.bool (togGs joinSp a[k] b[k]).sp.n)).setCell ⟨qb, 2, none⟩ (.int .i64 (togGs joinSp a[k] b[k]).sp.lo)).setCell ⟨qb, 3, none⟩ (.int .i64 (togGs joinSp a[k] b[k]).sp.hi)).setCell ⟨qb, 4, none⟩ (.bool (togGs joinSp a[k] b[k]).t)).setCell ⟨qb, 5, none⟩ (.bool (togGs joinSp a[k] b[k]).f)).setCell ⟨qb, 6, none⟩ (.slice js (togGs joinSp a[k] b[k]).s.length jc)) qb 0 (togGs joinSp a[k] b[k]) js jc := by
     refine ⟨?_, by simpa [World.setCell] using qz⟩
     simp [go_sem, q0, q1, q2, q3, q4, q5, q6]
    have HB7 : Below wr.heap.size wr (((((((w6.setCell ⟨qb, 0, none⟩ (.bool (togGs joinSp a[k] b[k]).n)).setCell ⟨qb, 1, none⟩ (.bool (togGs joinSp a[k] b[k]).sp.n)).setCell ⟨qb, 2, none⟩ (.int .i64 (togGs joinSp a[k] b[k]).sp.lo)).setCell ⟨qb, 3, none⟩ (.int .i64 (togGs joinSp a[k] b[k]).sp.hi)).setCell ⟨qb, 4, none⟩ (.bool (togGs joinSp a[k] b[k]).t)).setCell ⟨qb, 5, none⟩ (.bool (togGs joinSp a[k] b[k]).f)).setCell ⟨qb, 6, none⟩ (.slice js (togGs joinSp a[k] b[k]).s.length jc)) := (((((((hbr5.trans (HB6.mono z5)).setCell (by simp only; have := EQB.out; omega) _).setCell (by simp only; have := EQB.out; omega) _).setCell (by simp only; have := EQB.out; omega) _).setCell (by simp only; have := EQB.out; omega) _).setCell (by simp only; have := EQB.out; omega) _).setCell (by simp only; have := EQB.out; omega) _).setCell (by simp only; have := EQB.out; omega) _
    have hqq : qb < w5.heap.size := Q5.2
    have HI7 : IntsAt (((((((w6.setCell ⟨qb, 0, none⟩ (.bool (togGs joinSp a[k] b[k]).n)).setCell ⟨qb, 1, none⟩ (.bool (togGs joinSp a[k] b[k]).sp.n)).setCell ⟨qb, 2, none⟩ (.int .i64 (togGs joinSp a[k] b[k]).sp.lo)).setCell ⟨qb, 3, none⟩ (.int .i64 (togGs joinSp a[k] b[k]).sp.hi)).setCell ⟨qb, 4, none⟩ (.bool (togGs joinSp a[k] b[k]).t)).setCell ⟨qb, 5, none⟩ (.bool (togGs joinSp a[k] b[k]).f)).setCell ⟨qb, 6, none⟩ (.slice js (togGs joinSp a[k] b[k]).s.length jc)) js (togGs joinSp a[k] b[k]).s := ints_keep HI6 HF7 (fun bb hbb => hch bb (by have h9 : w5.drew.heap.size = w5.heap.size := rfl; omega)) hcz
    have zwd : wr.heap.size ≤ w5.drew.heap.size := z5
    clear q0 q1 q2 q3 q4 q5 q6 qz f0 f1 f2 f3 f4 f5 f6 F6 Q6 hch hcz
    generalize (((((((w6.setCell ⟨qb, 0, none⟩ (.bool (togGs joinSp a[k] b[k]).n)).setCell ⟨qb, 1, none⟩ (.bool (togGs joinSp a[k] b[k]).sp.n)).setCell ⟨qb, 2, none⟩ (.int .i64 (togGs joinSp a[k] b[k]).sp.lo)).setCell ⟨qb, 3, none⟩ (.int .i64 (togGs joinSp a[k] b[k]).sp.hi)).setCell ⟨qb, 4, none⟩ (.bool (togGs joinSp a[k] b[k]).t)).setCell ⟨qb, 5, none⟩ (.bool (togGs joinSp a[k] b[k]).f)).setCell ⟨qb, 6, none⟩ (.slice js (togGs joinSp a[k] b[k]).s.length jc)) = w7 at *
    have S7 := SR.call HB7
    obtain ⟨⟨q0, q1, q2, q3, q4, q5, q6⟩, qz⟩ := id G7
    simp only [Nat.zero_add] at q0 q1 q2 q3 q4 q5 q6
    have hb8 : Below w7.heap.size w7 (w7.alloc (.cells #[.bool (togGs joinSp a[k] b[k]).n, .bool (togGs joinSp a[k] b[k]).sp.n, .int .i64 (togGs joinSp a[k] b[k]).sp.lo, .int .i64 (togGs joinSp a[k] b[k]).sp.hi, .bool (togGs joinSp a[k] b[k]).t, .bool (togGs joinSp a[k] b[k]).f, .slice js (togGs joinSp a[k] b[k]).s.length jc] 61)) := by go_grown
    have S8 := S7.call hb8
    have z17 : w1.heap.size ≤ w7.heap.size := Nat.le_trans hbr.size HB7.size
    have GX : GcIn (fun b => w1.heap.size ≤ b ∧ (Value.slice rs l.length rc).ownBlock ≠ some b) (w7.alloc (.cells #[.bool (togGs joinSp a[k] b[k]).n, .bool (togGs joinSp a[k] b[k]).sp.n, .int .i64 (togGs joinSp a[k] b[k]).sp.lo, .int .i64 (togGs joinSp a[k] b[k]).sp.hi, .bool (togGs joinSp a[k] b[k]).t, .bool (togGs joinSp a[k] b[k]).f, .slice js (togGs joinSp a[k] b[k]).s.length jc] 61)) ⟨(togGs joinSp a[k] b[k]), js, jc⟩ := joined_in HI7 HJ1 HJ2 HF7 hbr.size (fun e => (ownsI_lt SR.1 e).1) hb8 zwd
    go_wp2_with (at_builtin; refine wpList_append_any _ rfl _ _ 25 rfl w1.heap.size 61 ti (.agg #[.bool false, .bool false, .int .i64 0, .int .i64 0, .bool false, .bool false, .slice none 0 0]) 7 64 Tryz.underlying25 hi hz0 hz1 hz2 rfl (by decide) _ _ _ rfl S8.1 (some ⟨w7.heap.size, 0, none⟩) 1 1 (gcCells ⟨(togGs joinSp a[k] b[k]), js, jc⟩) rfl rfl (fun h => by cases h) ?qa2 (gcCells_one _) ?qa4 ?qa5 ?qa6 ?_)
    (try (case qa2 => exact news7 w7 ⟨(togGs joinSp a[k] b[k]), js, jc⟩ #[.bool (togGs joinSp a[k] b[k]).n, .bool (togGs joinSp a[k] b[k]).sp.n, .int .i64 (togGs joinSp a[k] b[k]).sp.lo, .int .i64 (togGs joinSp a[k] b[k]).sp.hi, .bool (togGs joinSp a[k] b[k]).t, .bool (togGs joinSp a[k] b[k]).f, .slice js (togGs joinSp a[k] b[k]).s.length jc] _ rfl))
    case qa4 => unfold maxLen; have := LL.out; omega
    case qa5 => have := LL.out; omega
    (try (case qa6 => first | omega | (rw [World.size_alloc]; omega) | (simp; omega) | simp))
    intro v' w9 hown hgrow hat
    have S9 := S8.grown (x := ⟨(togGs joinSp a[k] b[k]), js, jc⟩) GX hown hgrow (by rw [World.size_alloc]; exact hat)
    have hb9 : Below w1.heap.size w1 w9 := ((hbr.trans (HB7.mono hbr.size)).alloc z17 _).grown hgrow (by simp; omega) (fun k hk => (ownsI_lt S8.1 hk).2)
    obtain ⟨rs', rc', rfl, -, -, -⟩ := S9.in
    clear hown hgrow hat S8 S7 GX q0 q1 q2 q3 q4 q5 q6 qz hb8
    go_wp2
    go_roundw
    case rel => exact ⟨k + 1, rs', rc', l ++ [⟨(togGs joinSp a[k] b[k]), js, jc⟩], by omega, by go_num, by first | rfl | (rw [List.length_append]; rfl), hb9, S9, by show _ = _; rw [List.map_append, HE.out, joinRow_take _ a b k hlt hlt']; rfl⟩
    case measure => simp [intOf]; omega
   ·have ES : Hid ((togGs joinSp a[k] b[k]) = a[k]) := by
     show _ = _
     rw [← sameGs_iff.1 HSG.out]
     exact tog_self joinSp_self h60 hRa
    obtain ⟨⟨q0, q1, q2, q3, q4, q5, q6⟩, qz⟩ := id Q5
    simp only [Nat.zero_add] at q0 q1 q2 q3 q4 q5 q6
    have l60 := rising_len (ckGs_sites h60 hRa).2 (ckGs_sites h60 hRa).1
    go_wp2_with (go_at_call 125; fail)
    refine (HCL.out ss1 g1 a[k].s _ (by omega) I5).mono ?_
    rintro e w6 ⟨⟨js, jc, rfl, HI6, HJ1, HJ2, HF7⟩, hb6⟩
    clear q0 q1 q2 q3 q4 q5 q6 qz
    have Q6 := Q5.call hb6
    obtain ⟨⟨q0, q1, q2, q3, q4, q5, q6⟩, qz⟩ := id Q6
    simp only [Nat.zero_add] at q0 q1 q2 q3 q4 q5 q6
    have f6 : w6.frozen? ⟨qb, 6, none⟩ = false := by rw [hb6.frozen (by simp only; exact Q5.2)]; exact F5 6
    have G7 := Q6.put6 (js := js) (jc := jc)
    have HB7 : Below wr.heap.size wr (w6.setCell ⟨qb, 6, none⟩ (.slice js a[k].s.length jc)) := (hbr5.trans (hb6.mono z5)).setCell (by simp only; have := EQB.out; omega) _
    have hqq : qb < w5.heap.size := Q5.2
    have HI7 : IntsAt (w6.setCell ⟨qb, 6, none⟩ (.slice js a[k].s.length jc)) js a[k].s := ints_keep HI6 HF7 (fun bb hbb => Below.heap_setCell _ _ _ _ (by simp only; omega)) (by simp [World.setCell])
    have zwd : wr.heap.size ≤ w5.heap.size := z5
    go_upto_region 8 with fail
    clear q0 q1 q2 q3 q4 q5 q6 qz f6
    generalize w6.setCell ⟨qb, 6, none⟩ (.slice js a[k].s.length jc) = w7 at *
    have S7 := SR.call HB7
    obtain ⟨⟨q0, q1, q2, q3, q4, q5, q6⟩, qz⟩ := id G7
    simp only [Nat.zero_add] at q0 q1 q2 q3 q4 q5 q6
    have hb8 : Below w7.heap.size w7 (w7.alloc (.cells #[.bool a[k].n, .bool a[k].sp.n, .int .i64 a[k].sp.lo, .int .i64 a[k].sp.hi, .bool a[k].t, .bool a[k].f, .slice js a[k].s.length jc] 61)) := by go_grown
    have S8 := S7.call hb8
    have z17 : w1.heap.size ≤ w7.heap.size := Nat.le_trans hbr.size HB7.size
    have GX : GcIn (fun b => w1.heap.size ≤ b ∧ (Value.slice rs l.length rc).ownBlock ≠ some b) (w7.alloc (.cells #[.bool a[k].n, .bool a[k].sp.n, .int .i64 a[k].sp.lo, .int .i64 a[k].sp.hi, .bool a[k].t, .bool a[k].f, .slice js a[k].s.length jc] 61)) ⟨a[k], js, jc⟩ := joined_in HI7 HJ1 HJ2 HF7 hbr.size (fun e => (ownsI_lt SR.1 e).1) hb8 zwd
    go_wp2_with (at_builtin; refine wpList_append_any _ rfl _ _ 25 rfl w1.heap.size 61 ti (.agg #[.bool false, .bool false, .int .i64 0, .int .i64 0, .bool false, .bool false, .slice none 0 0]) 7 64 Tryz.underlying25 hi hz0 hz1 hz2 rfl (by decide) _ _ _ rfl S8.1 (some ⟨w7.heap.size, 0, none⟩) 1 1 (gcCells ⟨a[k], js, jc⟩) rfl rfl (fun h => by cases h) ?qa2 (gcCells_one _) ?qa4 ?qa5 ?qa6 ?_)
    (try (case qa2 => exact news7 w7 ⟨a[k], js, jc⟩ #[.bool a[k].n, .bool a[k].sp.n, .int .i64 a[k].sp.lo, .int .i64 a[k].sp.hi, .bool a[k].t, .bool a[k].f, .slice js a[k].s.length jc] _ rfl))
    case qa4 => unfold maxLen; have := LL.out; omega
    case qa5 => have := LL.out; omega
    (try (case qa6 => first | omega | (rw [World.size_alloc]; omega) | (simp; omega) | simp))
    intro v' w9 hown hgrow hat
    have S9 := S8.grown (x := ⟨a[k], js, jc⟩) GX hown hgrow (by rw [World.size_alloc]; exact hat)
    have hb9 : Below w1.heap.size w1 w9 := ((hbr.trans (HB7.mono hbr.size)).alloc z17 _).grown hgrow (by simp; omega) (fun k hk => (ownsI_lt S8.1 hk).2)
    obtain ⟨rs', rc', rfl, -, -, -⟩ := S9.in
    clear hown hgrow hat S8 S7 GX q0 q1 q2 q3 q4 q5 q6 qz hb8
    go_wp2
    go_roundw
    case rel => exact ⟨k + 1, rs', rc', l ++ [⟨a[k], js, jc⟩], by omega, by go_num, by first | rfl | (rw [List.length_append]; rfl), hb9, S9, by show _ = _; rw [List.map_append, HE.out, joinRow_take _ a b k hlt hlt']; rw [ES.out]; rfl⟩
    case measure => simp [intOf]; omega
  ·have n1 : ¬ (k : Int) < (a.length : Int) := by omega
   have et1 : a.take k = a := List.take_of_length_le (by omega)
   have et2 : b.take k = b := List.take_of_length_le (by have := HL.out; omega)
   have HEE : Hid (l.map Gc.g = joinRow (togGs joinSp) a b) := by show _ = _; rw [HE.out, et1, et2]
   clear HE et1 et2
   go_wp2
   go_ret
   exact ⟨⟨rs, rc, l, rfl, HEE, ⟨ownsI_lower SR.1 z01, fun x hx => ⟨(SR.2 x hx).1.mono fun b hb _ => ⟨Nat.le_trans z01 hb.1, hb.2⟩, (SR.2 x hx).2⟩⟩⟩, LR⟩
end
section
set_option maxHeartbeats 2000000
set_option maxRecDepth 100000
open Go.RowKit
attribute [local go_sem ↓] Go.wp_at_zero Go.wp_at_succ

theorem prf_fd3069 {p : Prop} (h : p := by
 have B0 : Below w.heap.size w ((((w.alloc (.cells #[.int .i64 V, .int .i64 F, .slice s c.length cap] 24)).alloc (.cells #[.bool x.none, .slice vs1 x.vars.length vc1, .slice fs1 x.flds.length fc1] 28)).alloc (.cells #[.bool y.none, .slice vs2 y.vars.length vc2, .slice fs2 y.flds.length fc2] 28)).alloc (.cells #[.bool false, .slice none 0 0, .slice none 0 0] 28)) := by go_grown
 have P0 := (PrAt.new w V F s c cap).call (w' := ((((w.alloc (.cells #[.int .i64 V, .int .i64 F, .slice s c.length cap] 24)).alloc (.cells #[.bool x.none, .slice vs1 x.vars.length vc1, .slice fs1 x.flds.length fc1] 28)).alloc (.cells #[.bool y.none, .slice vs2 y.vars.length vc2, .slice fs2 y.flds.length fc2] 28)).alloc (.cells #[.bool false, .slice none 0 0, .slice none 0 0] 28))) (by go_grown)
 have X0 := (XAt.new (w.alloc (.cells #[.int .i64 V, .int .i64 F, .slice s c.length cap] 24)) x vs1 vc1 fs1 fc1).call (w' := ((((w.alloc (.cells #[.int .i64 V, .int .i64 F, .slice s c.length cap] 24)).alloc (.cells #[.bool x.none, .slice vs1 x.vars.length vc1, .slice fs1 x.flds.length fc1] 28)).alloc (.cells #[.bool y.none, .slice vs2 y.vars.length vc2, .slice fs2 y.flds.length fc2] 28)).alloc (.cells #[.bool false, .slice none 0 0, .slice none 0 0] 28))) (by go_grown)
 have Y0 := (XAt.new ((w.alloc (.cells #[.int .i64 V, .int .i64 F, .slice s c.length cap] 24)).alloc (.cells #[.bool x.none, .slice vs1 x.vars.length vc1, .slice fs1 x.flds.length fc1] 28)) y vs2 vc2 fs2 fc2).call (w' := ((((w.alloc (.cells #[.int .i64 V, .int .i64 F, .slice s c.length cap] 24)).alloc (.cells #[.bool x.none, .slice vs1 x.vars.length vc1, .slice fs1 x.flds.length fc1] 28)).alloc (.cells #[.bool y.none, .slice vs2 y.vars.length vc2, .slice fs2 y.flds.length fc2] 28)).alloc (.cells #[.bool false, .slice none 0 0, .slice none 0 0] 28))) (by go_grown)
 have Z0 := X3.new (((w.alloc (.cells #[.int .i64 V, .int .i64 F, .slice s c.length cap] 24)).alloc (.cells #[.bool x.none, .slice vs1 x.vars.length vc1, .slice fs1 x.flds.length fc1] 28)).alloc (.cells #[.bool y.none, .slice vs2 y.vars.length vc2, .slice fs2 y.flds.length fc2] 28)) 28 (.bool false) (.slice none 0 0) (.slice none 0 0)
 rw [World.size_alloc] at X0
 rw [World.size_alloc, World.size_alloc] at Y0
 rw [World.size_alloc, World.size_alloc, World.size_alloc] at Z0
 have C0 := hcd.below B0 (Nat.le_refl _)
 have PX := hx.below B0 (Nat.le_refl _)
 have PY := hy.below B0 (Nat.le_refl _)
 have HC := hideH (checkAllP_any V F s c cap (some ⟨((((w.alloc (.cells #[.int .i64 V, .int .i64 F, .slice s c.length cap] 24)).alloc (.cells #[.bool x.none, .slice vs1 x.vars.length vc1, .slice fs1 x.flds.length fc1] 28)).alloc (.cells #[.bool y.none, .slice vs2 y.vars.length vc2, .slice fs2 y.flds.length fc2] 28)).alloc (.cells #[.bool false, .slice none 0 0, .slice none 0 0] 28)).heap.size, 0, none⟩) [x, y] 2 (((((w.alloc (.cells #[.int .i64 V, .int .i64 F, .slice s c.length cap] 24)).alloc (.cells #[.bool x.none, .slice vs1 x.vars.length vc1, .slice fs1 x.flds.length fc1] 28)).alloc (.cells #[.bool y.none, .slice vs2 y.vars.length vc2, .slice fs2 y.flds.length fc2] 28)).alloc (.cells #[.bool false, .slice none 0 0, .slice none 0 0] 28)).alloc (.cells #[.bool x.none, .slice vs1 x.vars.length vc1, .slice fs1 x.flds.length fc1, .bool y.none, .slice vs2 y.vars.length vc2, .slice fs2 y.flds.length fc2] 28)) (C0.call (by go_grown)) (XsAt.new2 ((((w.alloc (.cells #[.int .i64 V, .int .i64 F, .slice s c.length cap] 24)).alloc (.cells #[.bool x.none, .slice vs1 x.vars.length vc1, .slice fs1 x.flds.length fc1] 28)).alloc (.cells #[.bool y.none, .slice vs2 y.vars.length vc2, .slice fs2 y.flds.length fc2] 28)).alloc (.cells #[.bool false, .slice none 0 0, .slice none 0 0] 28)) x vs1 vc1 fs1 fc1 y vs2 vc2 fs2 fc2 PX h1 h2 PY h3 h4) (by simp))
 have hbz : Below ((((w.alloc (.cells #[.int .i64 V, .int .i64 F, .slice s c.length cap] 24)).alloc (.cells #[.bool x.none, .slice vs1 x.vars.length vc1, .slice fs1 x.flds.length fc1] 28)).alloc (.cells #[.bool y.none, .slice vs2 y.vars.length vc2, .slice fs2 y.flds.length fc2] 28)).alloc (.cells #[.bool false, .slice none 0 0, .slice none 0 0] 28)).heap.size ((((w.alloc (.cells #[.int .i64 V, .int .i64 F, .slice s c.length cap] 24)).alloc (.cells #[.bool x.none, .slice vs1 x.vars.length vc1, .slice fs1 x.flds.length fc1] 28)).alloc (.cells #[.bool y.none, .slice vs2 y.vars.length vc2, .slice fs2 y.flds.length fc2] 28)).alloc (.cells #[.bool false, .slice none 0 0, .slice none 0 0] 28)) (((((w.alloc (.cells #[.int .i64 V, .int .i64 F, .slice s c.length cap] 24)).alloc (.cells #[.bool x.none, .slice vs1 x.vars.length vc1, .slice fs1 x.flds.length fc1] 28)).alloc (.cells #[.bool y.none, .slice vs2 y.vars.length vc2, .slice fs2 y.flds.length fc2] 28)).alloc (.cells #[.bool false, .slice none 0 0, .slice none 0 0] 28)).alloc (.cells #[.bool x.none, .slice vs1 x.vars.length vc1, .slice fs1 x.flds.length fc1, .bool y.none, .slice vs2 y.vars.length vc2, .slice fs2 y.flds.length fc2] 28)) := by go_grown
 have e3 : ((((w.alloc (.cells #[.int .i64 V, .int .i64 F, .slice s c.length cap] 24)).alloc (.cells #[.bool x.none, .slice vs1 x.vars.length vc1, .slice fs1 x.flds.length fc1] 28)).alloc (.cells #[.bool y.none, .slice vs2 y.vars.length vc2, .slice fs2 y.flds.length fc2] 28)).alloc (.cells #[.bool false, .slice none 0 0, .slice none 0 0] 28)).heap.size = w.heap.size + 1 + 1 + 1 + 1 := by simp
 have d1 : (ckPics V F c [x, y] != 0) = true := by simpa using h
 have HB := hideH hbz
 generalize ckPics V F c [x, y] = ce at *
 rw [e3] at HC
 clear h hx hy hcd PX PY P0 X0 Y0 C0 hbz
 go_enter Tryz.func113, Tryz.ntmps113
 go_wp2_with (go_at_call 43; fail)
 refine HC.out.mono ?_
 rintro e w1 ⟨rfl, hb1⟩
 have hb01 : Below ((((w.alloc (.cells #[.int .i64 V, .int .i64 F, .slice s c.length cap] 24)).alloc (.cells #[.bool x.none, .slice vs1 x.vars.length vc1, .slice fs1 x.flds.length fc1] 28)).alloc (.cells #[.bool y.none, .slice vs2 y.vars.length vc2, .slice fs2 y.flds.length fc2] 28)).alloc (.cells #[.bool false, .slice none 0 0, .slice none 0 0] 28)).heap.size ((((w.alloc (.cells #[.int .i64 V, .int .i64 F, .slice s c.length cap] 24)).alloc (.cells #[.bool x.none, .slice vs1 x.vars.length vc1, .slice fs1 x.flds.length fc1] 28)).alloc (.cells #[.bool y.none, .slice vs2 y.vars.length vc2, .slice fs2 y.flds.length fc2] 28)).alloc (.cells #[.bool false, .slice none 0 0, .slice none 0 0] 28)) w1 := HB.out.trans (hb1.mono (by first | exact HB.out.size | (simp; omega) | omega))
 have Z1 := Z0.call hb01
 have B1 := B0.trans (hb01.mono B0.size)
 clear HB hb1 hb01 B0 Z0 HC e3
 obtain ⟨⟨z0, z1, z2⟩, zz, zf⟩ := id Z1
 have f0 := zf 0
 have f1 := zf 1
 have f2 := zf 2
 clear zf
 go_wp2
 refine bodyPost_ret (v := .tuple #[.agg #[.bool false, .slice none 0 0, .slice none 0 0], .int .i64 ce]) (by simp [results, Tryz.results113, go_sem, z0, z1, z2]) rfl ⟨rfl, ?_⟩
 exact ((B1.setCell (by simp only; omega) _).setCell (by simp only; omega) _).setCell (by simp only; omega) _) : p := h
theorem together_err_join (V F : Int) (s : Option Addr) (c : List Ins) (cap : Nat) (x : Pic) (vs1 : Option Addr) (vc1 : Nat) (fs1 : Option Addr) (fc1 : Nat) (y : Pic) (vs2 : Option Addr) (vc2 : Nat) (fs2 : Option Addr) (fc2 : Nat) (w : World) (hcd : CodeAt w s c) (hx : PicAt w x vs1 fs1) (h1 : x.vars.length ≤ vc1 ∧ vc1 ≤ maxLen) (h2 : x.flds.length ≤ fc1 ∧ fc1 ≤ maxLen) (hy : PicAt w y vs2 fs2) (h3 : y.vars.length ≤ vc2 ∧ vc2 ≤ maxLen) (h4 : y.flds.length ≤ fc2 ∧ fc2 ≤ maxLen) (h : ckPics V F c [x, y] ≠ 0) :
  Calls Tryz.prog 113 #[pv V F s c cap, xv x vs1 vc1 fs1 fc1, xv y vs2 vc2 fs2 fc2, .func (.func 82) #[] #[]] w fun e w' => e = .returned (.tuple #[.agg #[.bool false, .slice none 0 0, .slice none 0 0], .int .i64 (ckPics V F c [x, y])]) ∧ Below w.heap.size w w' := prf_fd3069
end
section
set_option maxHeartbeats 8000000
set_option maxRecDepth 20000
open Go.RowKit
attribute [local go_sem ↓] Go.wp_at_zero Go.wp_at_succ

theorem stepT_18 {T : Nat → Prop} {V F : Int} {s : Option Addr} {c : List Ins} {cap m : Nat} {i : Ins} {x : Pic} {vs : Option Addr} {vc : Nat} {fs : Option Addr} {fc : Nat} {w : World} {w3 w4 w7 w11 wp : World} {v : Ro} {gs : Option Addr} {gc : Nat} {L : List Ro} (hx : PicOn T w x vs fs) (K : SCtx V F c x vc fc i (m : Int)) (hk : i.k = 18) {ka : Nat} {sska : Option Addr} {gcka : Nat} (hkax : ka < x.vars.length) (eka : i.a = (ka : Int)) (SP : Hid (SPre T V F s c cap (m : Int) i x vs vc fs fc w wp (w.heap.size + 1 + 1) w3.heap.size w4.heap.size w7.heap.size (w7.heap.size + 1) w11.heap.size w3 v gs gc L x.vars[ka] sska gcka noneG none 0)) : SwT (fun e w' => StpAns (fun b => T b ∨ w.heap.size ≤ b) w' e (stepPic i (m : Int) x) ∧ Below w.heap.size w w') m w w3 w4 w7 w11 wp := by
 have HKAV := hideH eka
 have HKK := hideH hk
 clear hk
 have HK := hideH K
 have HX := hideH hx
 have h60 := K.lens.2.1
 have n0 : (0 : Int) ≤ (m : Int) := K.a0
 have n1 : (m : Int) < (c.length : Int) := K.a1
 have hm : m < c.length := by omega
 have w61 : (m : Int) ≤ 60 := by omega
 clear K hx eka
 refine sw_of rfl fun z0 z2 z4 u => ?_
 simp only [List.range, List.range.loop, List.map]
 obtain ⟨BP, PP, XP, IP, YP, OP, AP, EP, TP, GAI, GBI, GOW, YW, -, EPV0, -, o2, o3, o4, o5, o6⟩ := SP.out
 have EPV := hideH EPV0
 clear EPV0
 have i0 := IP.1 0 _ rfl
 rw [HKK.out] at i0
 have HST : Hid (stepPic i (m : Int) x = ([⟨(m : Int) + 1, x⟩], false, false)) := by show _ = _; simp [stepPic, HK.out.kx.none, HKK.out]
 have GP := GOW.same (w' := wp) (fun b _ hlt => YW.block b hlt) YW.size
 go_wp2
 refine bodyPost_ret (v := .tuple #[.slice (some ⟨w4.heap.size, 0, none⟩) 1 1, .bool false, .bool false]) (by simp [results, Tryz.results7, go_sem]) rfl ⟨?_, BP⟩
 rw [HST.out]
 exact ⟨some ⟨w4.heap.size, 0, none⟩, 1, rfl, eds_one (S := (fun b => T b ∨ w.heap.size ≤ b)) OP (.inr (by omega)) (GP) (fun b hb => .inr hb) (fun b hb => .inr (by omega)) EPV.out⟩
theorem stepT_19 {T : Nat → Prop} {V F : Int} {s : Option Addr} {c : List Ins} {cap m : Nat} {i : Ins} {x : Pic} {vs : Option Addr} {vc : Nat} {fs : Option Addr} {fc : Nat} {w : World} {w3 w4 w7 w11 wp : World} {v : Ro} {gs : Option Addr} {gc : Nat} {L : List Ro} (hx : PicOn T w x vs fs) (K : SCtx V F c x vc fc i (m : Int)) (hk : i.k = 19) (SP : Hid (SPre T V F s c cap (m : Int) i x vs vc fs fc w wp (w.heap.size + 1 + 1) w3.heap.size w4.heap.size w7.heap.size (w7.heap.size + 1) w11.heap.size w3 v gs gc L noneG none 0 noneG none 0)) : SwT (fun e w' => StpAns (fun b => T b ∨ w.heap.size ≤ b) w' e (stepPic i (m : Int) x) ∧ Below w.heap.size w w') m w w3 w4 w7 w11 wp := by
 have HKK := hideH hk
 clear hk
 have HK := hideH K
 have HX := hideH hx
 have h60 := K.lens.2.1
 have n0 : (0 : Int) ≤ (m : Int) := K.a0
 have n1 : (m : Int) < (c.length : Int) := K.a1
 have hm : m < c.length := by omega
 have w61 : (m : Int) ≤ 60 := by omega
 clear K hx
 refine sw_of rfl fun z0 z2 z4 u => ?_
 simp only [List.range, List.range.loop, List.map]
 obtain ⟨BP, PP, XP, IP, YP, OP, AP, EP, TP, GAI, GBI, GOW, YW, -, EPV0, -, o2, o3, o4, o5, o6⟩ := SP.out
 have EPV := hideH EPV0
 clear EPV0
 have i0 := IP.1 0 _ rfl
 rw [HKK.out] at i0
 have HST : Hid (stepPic i (m : Int) x = ([], false, false)) := by show _ = _; simp [stepPic, HK.out.kx.none, HKK.out]
 go_wp2
 refine bodyPost_ret (v := .tuple #[.slice none 0 0, .bool false, .bool false]) (by simp [results, Tryz.results7, go_sem]) rfl ⟨?_, BP⟩
 rw [HST.out]
 exact ⟨none, 0, rfl, EdsOn.nil⟩
theorem stepT_16 {T : Nat → Prop} {V F : Int} {s : Option Addr} {c : List Ins} {cap m : Nat} {i : Ins} {x : Pic} {vs : Option Addr} {vc : Nat} {fs : Option Addr} {fc : Nat} {w : World} {w3 w4 w7 w11 wp : World} {v : Ro} {gs : Option Addr} {gc : Nat} {L : List Ro} (hx : PicOn T w x vs fs) (K : SCtx V F c x vc fc i (m : Int)) (hk : i.k = 16) (SP : Hid (SPre T V F s c cap (m : Int) i x vs vc fs fc w wp (w.heap.size + 1 + 1) w3.heap.size w4.heap.size w7.heap.size (w7.heap.size + 1) w11.heap.size w3 v gs gc L noneG none 0 noneG none 0)) : SwT (fun e w' => StpAns (fun b => T b ∨ w.heap.size ≤ b) w' e (stepPic i (m : Int) x) ∧ Below w.heap.size w w') m w w3 w4 w7 w11 wp := by
 have HKK := hideH hk
 clear hk
 have HK := hideH K
 have HX := hideH hx
 have h60 := K.lens.2.1
 have n0 : (0 : Int) ≤ (m : Int) := K.a0
 have n1 : (m : Int) < (c.length : Int) := K.a1
 have hm : m < c.length := by omega
 have w61 : (m : Int) ≤ 60 := by omega
 clear K hx
 refine sw_of rfl fun z0 z2 z4 u => ?_
 simp only [List.range, List.range.loop, List.map]
 obtain ⟨BP, PP, XP, IP, YP, OP, AP, EP, TP, GAI, GBI, GOW, YW, -, EPV0, -, o2, o3, o4, o5, o6⟩ := SP.out
 have EPV := hideH EPV0
 clear EPV0
 have i0 := IP.1 0 _ rfl
 rw [HKK.out] at i0
 have HST : Hid (stepPic i (m : Int) x = ([⟨i.g, x⟩], false, false)) := by show _ = _; simp [stepPic, HK.out.kx.none, HKK.out]
 have YW2 : Below w3.heap.size w3 (wp.setCell ⟨w4.heap.size, 0, none⟩ (.int .i64 i.g)) := YW.setCell (by simp only; omega) _
 have GP := GOW.same (fun b _ hlt => YW2.block b hlt) YW2.size
 have i5 := IP.1 5 _ rfl
 have q0 := OP.1 0 _ rfl
 have f0 := OP.2.2 0
 go_wp2
 refine bodyPost_ret (v := .tuple #[.slice (some ⟨w4.heap.size, 0, none⟩) 1 1, .bool false, .bool false]) (by simp [results, Tryz.results7, go_sem]) rfl ⟨?_, BP.setCell (by simp only; omega) _⟩
 rw [HST.out]
 exact ⟨some ⟨w4.heap.size, 0, none⟩, 1, rfl, eds_one (S := (fun b => T b ∨ w.heap.size ≤ b)) (OP.put 0 (by simp) _) (.inr (by omega)) (GP) (fun b hb => .inr hb) (fun b hb => .inr (by omega)) EPV.out⟩
end
end Go.Proofs.YtmapdpcfanecdabGreat
