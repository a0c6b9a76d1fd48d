/- Walks over package picture: two rows put together. -/
import Derived.Test.YtmapdpcfanecdabGreatKstpxp24
import Derived.Test.YtmapdpcfanecdabGreatKstpxp07
import Derived.Deep.RegionHeld
import Derived.WalkKit
import Derived.WalkSpells
import Derived.WalkLawsBesides
import Derived.Handy
import Derived.Deep.DeepCutAuto
import Derived.Laws.EntriesVeiled
import Derived.Test.YtmapdpcfanecdabGreatKstpxp20
import Derived.Test.YtmapdpcfanecdabGreatKstpxp08
import Derived.Test.YtmapdpcfanecdabGreatKstpxp06
import Derived.Deep.RegionHeldLaw
set_option linter.unusedSimpArgs false
set_option linter.unusedVariables false
namespace Go.Proofs.YtmapdpcfanecdabGreat
section
set_option maxHeartbeats 4000000
set_option maxRecDepth 10000
open Go.RowKit
attribute [local go_sem ↓] Go.wp_at_zero Go.wp_at_succ

theorem XsAt.new1 (w : World) (x : Pic) (vs : Option Addr) (vc : Nat) (fs : Option Addr) (fc : Nat) (hP : PicAt w x vs fs) (h1 : x.vars.length ≤ vc ∧ vc ≤ maxLen) (h2 : x.flds.length ≤ fc ∧ fc ≤ maxLen) :
  XsAt (w.alloc (.cells #[.bool x.none, .slice vs x.vars.length vc, .slice fs x.flds.length fc] 28)) (some ⟨w.heap.size, 0, none⟩) [x] := by
 intro i hi
 obtain rfl : i = 0 := by simp at hi; omega
 exact ⟨w.heap.size, 0, rfl, by simp, vs, vc, fs, fc, by simp [go_sem], hP.call (by go_grown), h1, h2⟩
theorem XsAt.new2 (w : World) (x : Pic) (vs : Option Addr) (vc : Nat) (fs : Option Addr) (fc : Nat) (y : Pic) (us : Option Addr) (uc : Nat) (gs : Option Addr) (gc : Nat) (hP : PicAt w x vs fs) (h1 : x.vars.length ≤ vc ∧ vc ≤ maxLen) (h2 : x.flds.length ≤ fc ∧ fc ≤ maxLen) (hQ : PicAt w y us gs) (h3 : y.vars.length ≤ uc ∧ uc ≤ maxLen) (h4 : y.flds.length ≤ gc ∧ gc ≤ maxLen) :
  XsAt (w.alloc (.cells #[.bool x.none, .slice vs x.vars.length vc, .slice fs x.flds.length fc, .bool y.none, .slice us y.vars.length uc, .slice gs y.flds.length gc] 28)) (some ⟨w.heap.size, 0, none⟩) [x, y] := by
 intro i hi
 by_cases e : i = 0
 ·subst e; exact ⟨w.heap.size, 0, rfl, by simp, vs, vc, fs, fc, by simp [go_sem], hP.call (by go_grown), h1, h2⟩
 ·obtain rfl : i = 1 := by simp at hi; omega
  exact ⟨w.heap.size, 0, rfl, by simp, us, uc, gs, gc, by simp [go_sem], hQ.call (by go_grown), h3, h4⟩
theorem checkAllP_any (V F : Int) (s : Option Addr) (c : List Ins) (cap : Nat) (ls : Option Addr) (L : List Pic) (lc : Nat) (w : World) (hc : CodeAt w s c) (hL : XsAt w ls L) (hl : L.length ≤ 9223372036854775807) :
  Calls Tryz.prog 43 #[pv V F s c cap, .slice ls L.length lc] w fun e w' => e = .returned (.int .i64 (ckPics V F c L)) ∧ Below w.heap.size w w' := by
 have P0 := PrAt.new w V F s c cap
 have B0 : Below w.heap.size w (w.alloc (.cells #[.int .i64 V, .int .i64 F, .slice s c.length cap] 24)) := by go_grown
 have C0 := hc.below B0 (Nat.le_refl _)
 have L0 := hL.below B0 (Nat.le_refl _)
 have HC := hideH (codeCheck_any V F s cap c _ C0)
 clear hc hL
 by_cases h0 : ckProg V F c = 0
 ·have er : ckPics V F c L = ckPicL V F c L := by unfold ckPics; rw [if_pos h0]
  obtain ⟨res, HR, hres⟩ : ∃ r, Hid (r = ckPicL V F c L) ∧ ckPics V F c L = r := ⟨_, rfl, er⟩
  rw [hres]
  rw [h0] at HC
  have H0 := hideH h0
  clear er hres h0
  go_enter Tryz.func43, Tryz.ntmps43
  go_wp2_with (go_at_call 64; fail)
  refine HC.out.mono ?_
  rintro e w1 ⟨rfl, hb1⟩
  have P1 := P0.call hb1
  have C1 := C0.call hb1
  have L1 := L0.below hb1 (Nat.le_refl _)
  have B1 := B0.trans (hb1.mono B0.size)
  clear hb1 P0 C0 L0 B0 HC
  go_wp2
  go_loopw [16] (fun i wr => ∃ k : Nat, k ≤ L.length ∧ i = .int .i64 k ∧ Below w1.heap.size w1 wr ∧ Hid (res = ckPicL V F c (L.drop k))) (fun i _ => L.length - (intOf i).toNat)
  case atStart => exact ⟨0, Nat.zero_le _, rfl, Below.refl _ _, HR⟩
  case round =>
   obtain ⟨k, hk, rfl, hbr, HK⟩ := hrel
   by_cases hlt : k < L.length
   ·have n0 : (0 : Int) ≤ (k : Int) := by omega
    have n1 : (k : Int) < (L.length : Int) := by omega
    have HS := hideH (ckPicL_drop V F c L k hlt)
    obtain ⟨b, off, rfl, zb, vs, vc, fs, fc, ⟨g0, g1, g2⟩, hP, hv, hf⟩ := (L1.below hbr (Nat.le_refl _)) k hlt
    have X2 := XAt.new wr L[k] vs vc fs fc
    have hb2 : Below wr.heap.size wr (wr.alloc (.cells #[.bool L[k].none, .slice vs L[k].vars.length vc, .slice fs L[k].flds.length fc] 28)) := by go_grown
    have hb12 := hbr.trans (hb2.mono hbr.size)
    have P2 := P1.call hb12
    have hP2 := hP.call hb2
    go_upto_region 7 with fail
    generalize wr.alloc (.cells #[.bool L[k].none, .slice vs L[k].vars.length vc, .slice fs L[k].flds.length fc] 28) = w2 at *
    clear g0 g1 g2
    obtain ⟨⟨p0, p1, p2⟩, pz⟩ := id P2
    obtain ⟨⟨x0, x1, x2⟩, xz, -⟩ := id X2
    go_wp2_with (go_at_call 78; fail)
    refine (checkPartsP_any V F s c cap L[k] vs vc fs fc _ (C1.call hb12) hP2 hv.1 hv.2 H0.out).mono ?_
    rintro e w3 ⟨rfl, hb3⟩
    have hb13 := hb12.trans (hb3.mono hb12.size)
    clear p0 p1 p2 pz x0 x1 x2 xz
    generalize ckPic V F c L[k] = ce at *
    by_cases hz : ce = 0
    ·have e1 : (ce != 0) = false := by simpa using hz
     go_wp2
     go_roundw
     case rel => exact ⟨k + 1, by omega, by go_num, hb13, by show _ = _; rw [HK.out, HS.out, if_pos hz]⟩
     case measure => simp [intOf]; omega
    ·have e1 : (ce != 0) = true := by simpa using hz
     go_wp2
     go_ret
     exact ⟨ret_int (by rw [HK.out, HS.out, if_neg hz]), B1.trans (hb13.mono B1.size)⟩
   ·have n1 : ¬ (k : Int) < (L.length : Int) := by omega
    go_wp2
    go_ret
    refine ⟨ret_int ?_, B1.trans (hbr.mono B1.size)⟩
    rw [HK.out, List.drop_eq_nil_of_le (by omega)]
    rfl
 ·have er : ckPics V F c L = ckProg V F c := by unfold ckPics; rw [if_neg h0]
  rw [er]
  have e1 : (ckProg V F c != 0) = true := by simpa using h0
  generalize ckProg V F c = ce at *
  clear er h0
  go_enter Tryz.func43, Tryz.ntmps43
  go_wp2_with (go_at_call 64; fail)
  refine HC.out.mono ?_
  rintro e w1 ⟨rfl, hb1⟩
  go_wp2
  go_ret
  exact ⟨rfl, B0.trans (hb1.mono B0.size)⟩

theorem checkP_any (V F : Int) (s : Option Addr) (c : List Ins) (cap : Nat) (x : Pic) (vs : Option Addr) (vc : Nat) (fs : Option Addr) (fc : Nat) (w : World) (hc : CodeAt w s c) (hP : PicAt w x vs fs) (h1 : x.vars.length ≤ vc ∧ vc ≤ maxLen) (h2 : x.flds.length ≤ fc ∧ fc ≤ maxLen) :
  Calls Tryz.prog 17 #[pv V F s c cap, xv x vs vc fs fc] w fun e w' => e = .returned (.int .i64 (ckPics V F c [x])) ∧ Below w.heap.size w w' := by
 have B1 : Below w.heap.size w (((w.alloc (.cells #[.int .i64 V, .int .i64 F, .slice s c.length cap] 24)).alloc (.cells #[.bool x.none, .slice vs x.vars.length vc, .slice fs x.flds.length fc] 28)).alloc (.cells #[.bool x.none, .slice vs x.vars.length vc, .slice fs x.flds.length fc] 28)) := by go_grown
 have HC := hideH (checkAllP_any V F s c cap (some ⟨((w.alloc (.cells #[.int .i64 V, .int .i64 F, .slice s c.length cap] 24)).alloc (.cells #[.bool x.none, .slice vs x.vars.length vc, .slice fs x.flds.length fc] 28)).heap.size, 0, none⟩) [x] 1 (((w.alloc (.cells #[.int .i64 V, .int .i64 F, .slice s c.length cap] 24)).alloc (.cells #[.bool x.none, .slice vs x.vars.length vc, .slice fs x.flds.length fc] 28)).alloc (.cells #[.bool x.none, .slice vs x.vars.length vc, .slice fs x.flds.length fc] 28)) (hc.below B1 (Nat.le_refl _)) (XsAt.new1 ((w.alloc (.cells #[.int .i64 V, .int .i64 F, .slice s c.length cap] 24)).alloc (.cells #[.bool x.none, .slice vs x.vars.length vc, .slice fs x.flds.length fc] 28)) x vs vc fs fc (hP.below (B := w.heap.size) (by go_grown) (Nat.le_refl _)) h1 h2) (by simp))
 simp only [World.size_alloc] at HC
 go_enter Tryz.func17, Tryz.ntmps17
 go_wp2_with (go_at_call 43; fail)
 refine HC.out.mono ?_
 rintro e w1 ⟨rfl, hb1⟩
 go_wp2
 go_ret
 exact ⟨rfl, B1.trans (hb1.mono (by first | omega | exact B1.size))⟩
end
section
open Go.RowKit
attribute [local go_sem ↓] Go.wp_at_zero Go.wp_at_succ
end
section
open Go.RowKit
attribute [local go_sem ↓] Go.wp_at_zero Go.wp_at_succ

theorem rising_pair : ∀ {l : List Int}, rising l = true → l.Pairwise (· < ·)
 | [], _ => List.Pairwise.nil
 | [a], _ => List.pairwise_singleton _ _
 | a :: b :: r, h => by
  unfold rising at h
  simp only [Bool.and_eq_true, decide_eq_true_eq] at h
  have ih := rising_pair h.2
  rw [List.pairwise_cons]
  refine ⟨fun x hx => ?_, ih⟩
  rw [List.pairwise_cons] at ih
  rcases List.mem_cons.1 hx with rfl | hx
  ·exact h.1
  ·have := ih.1 x hx
   omega
theorem sites_self {c : List Ins} {g : Gs} (h60 : c.length ≤ 60) (h : ckGs c g = 0) : sitesOf [g, g] = g.s := by
 obtain ⟨h1, h2⟩ := ckGs_sites h60 h
 rw [sitesOf_eq g g h1 h1]
 refine rising_ext _ _ (siteTo_rises _ _ _) (rising_pair h2) fun x => ?_
 rw [siteTo_mem]
 constructor
 ·rintro ⟨-, h | h⟩ <;> exact h
 ·intro hx
  exact ⟨h1 x hx, .inl hx⟩
theorem tog_self {c : List Ins} {g : Gs} {op : Sp → Sp → Sp} (hop : ∀ s, op s s = s) (h60 : c.length ≤ 60) (h : ckGs c g = 0) : togGs op g g = g := by
 unfold togGs
 rw [sites_self h60 h, hop]
 simp
theorem joinSp_self (s : Sp) : joinSp s s = s := by
 obtain ⟨n, lo, hi⟩ := s
 unfold joinSp
 cases n <;> simp
theorem ints_keep {w w' : World} {js : Option Addr} {l : List Int} {N : Nat} (h : IntsAt w js l) (hf : ∀ a, js = some a → N ≤ a.block) (hs : ∀ b, N ≤ b → w'.heap[b]? = w.heap[b]?) (hz : w.heap.size ≤ w'.heap.size) : IntsAt w' js l := by
 rcases h with h | ⟨b, off, e, hb, hc⟩
 ·exact .inl h
 ·have hn := hf _ e
  exact .inr ⟨b, off, e, Nat.lt_of_lt_of_le hb hz, fun k hk => by rw [World.cell?_of_block (a := ⟨b, off + k, none⟩) (hs b hn)]; exact hc k hk⟩
theorem GuAt.put6 {w : World} {b : Nat} {g : Gs} {ss js : Option Addr} {gc jc : Nat} (h : GuAt w b 0 g ss gc) : GuAt (w.setCell ⟨b, 6, none⟩ (.slice js g.s.length jc)) b 0 g js jc := by
 obtain ⟨⟨h0, h1, h2, h3, h4, h5, h6⟩, hz⟩ := h
 simp only [Nat.zero_add] at h0 h1 h2 h3 h4 h5 h6
 have ne : ∀ i, i ≠ 6 → (w.setCell ⟨b, 6, none⟩ (.slice js g.s.length jc)).cell? ⟨b, i, none⟩ = w.cell? ⟨b, i, none⟩ := fun i hi => World.cell?_setCell_other _ _ _ _ (by intro e; cases e; exact hi rfl)
 simp only [GuAt, Nat.zero_add]
 exact ⟨⟨(ne _ (by omega)).trans h0, (ne _ (by omega)).trans h1, (ne _ (by omega)).trans h2, (ne _ (by omega)).trans h3, (ne _ (by omega)).trans h4, (ne _ (by omega)).trans h5, World.cell?_setCell_same _ _ _ h6⟩, by simpa [World.setCell] using hz⟩
theorem cloneP_any (ss : Option Addr) (cap : Nat) (l : List Int) (w : World) (hl : l.length ≤ 1000000) (hs : IntsAt w ss l) :
  Calls Tryz.prog 125 #[.slice ss l.length cap] w fun e w' => (∃ js jc, e = .returned (.slice js l.length jc) ∧ IntsAt w' js l ∧ l.length ≤ jc ∧ jc ≤ maxLen ∧ ∀ a, js = some a → w.heap.size ≤ a.block) ∧ Below w.heap.size w w' := by
 have key : Calls Tryz.prog 125 #[.slice ss l.length cap] w fun e w' => ∃ v, e = .returned v ∧ w'.ownsRow w.heap.size 3 1 v l.length (l.map (.int .i64)) ∧ Below w.heap.size w w' := by
  cases ss with
  | none =>
   have h0 : l = [] := by
    rcases hs with h | ⟨_, _, h, _⟩
    ·exact h
    ·cases h
   subst h0
   refine (Tryz.slices_Clone_int_nil _ _ _).mono ?_
   rintro e w' ⟨rfl, rfl⟩
   exact ⟨_, rfl, ⟨rfl, .inl ⟨rfl, rfl⟩⟩, Below.refl _ _⟩
  | some a =>
   by_cases h0 : l = []
   ·subst h0
    refine (Tryz.slices_Clone_int_zero a cap w).mono ?_
    rintro e w' ⟨v, rfl, ho, -, hb⟩
    exact ⟨_, rfl, ho, hb⟩
   ·obtain ⟨b, off, e, hb, hc⟩ := hs.get 0 (List.length_pos_iff.2 h0)
    cases e
    refine (Tryz.slices_Clone_int b off l.length cap l w (Nat.le_refl _) (by omega) (fun j hj => ?_)).mono ?_
    ·rw [hc j hj]
     simp [List.getD, List.getElem?_eq_getElem hj]
    ·rintro e w' ⟨v, rfl, ho, -, hb'⟩
     rw [List.take_length] at ho
     exact ⟨_, rfl, ho, hb'⟩
 refine key.mono ?_
 rintro e w' ⟨v, rfl, ho, hb⟩
 obtain ⟨js, jc, rfl, hi, k1, k2, hf⟩ := IntsAt.own ho
 exact ⟨⟨js, jc, rfl, hi, k1, k2, hf⟩, hb⟩
end
end Go.Proofs.YtmapdpcfanecdabGreat
