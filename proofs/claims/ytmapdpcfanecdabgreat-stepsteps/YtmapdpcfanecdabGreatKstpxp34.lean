/- The document's step up to its switch, told once. -/
import Derived.Test.YtmapdpcfanecdabGreatKstpxp33
import Derived.Test.YtmapdpcfanecdabGreatKstpxp01
import Derived.Deep.RegionHeld
import Derived.WalkKit
import Derived.WalkSpells
import Derived.WalkLawsBesides
import Derived.Handy
import Derived.Test.YtmapdpcfanecdabGreatKstpxp28
import Derived.Deep.DeepCutAuto
import Derived.Test.YtmapdpcfanecdabGreatShelf
import Derived.Lib.AppendZeros
import Derived.Laws.AppendOwn
import Derived.Laws.EntriesVeiled
import Derived.Test.YtmapdpcfanecdabGreatKstpxp27
import Derived.Deep.RegionHeldLaw
import Derived.Test.YtmapdpcfanecdabGreatKstpxp32
import Derived.Test.YtmapdpcfanecdabGreatKstpxp31
import Derived.Test.YtmapdpcfanecdabGreatKstpxp09
set_option linter.unusedSimpArgs false
set_option linter.unusedVariables false
namespace Go.Proofs.YtmapdpcfanecdabGreat
section
open Go.RowKit
attribute [local go_sem ↓] Go.wp_at_zero Go.wp_at_succ

/-- Two pictures that are right, and not none: as many guesses, each of them right. -/
theorem ckPic_form {V F : Int} {c : List Ins} {x : Pic} (h : ckPic V F c x = 0) (hn : x.none = false) : (x.vars.length : Int) = V ∧ x.flds.length = c.length ∧ (∀ r ∈ x.flds, (r.length : Int) = F) ∧ (∀ g ∈ x.vars, ckGs c g = 0) ∧ ∀ r ∈ x.flds, ∀ g ∈ r, ckGs c g = 0 := by
 unfold ckPic at h
 split at h
 ·cases h
 ·rename_i h1
  split at h
  ·contradiction
  ·rename_i h2
   have h2' : ckGss c (allPic x) = 0 := by simpa using h2
   have hall := ckGss_all h2'
   have hf : formedPic V F c x = true := by simpa using h1
   unfold formedPic at hf
   rw [hn] at hf
   simp only [Bool.false_eq_true, if_false, Bool.and_eq_true, decide_eq_true_eq, Bool.not_eq_true', List.any_eq_false] at hf
   refine ⟨hf.1, hf.2.1, fun r hr => by have := hf.2.2 r hr; simpa using this, fun g hg => hall g ?_, fun r hr g hg => hall g ?_⟩
   ·unfold allPic; exact List.mem_append_left _ hg
   ·unfold allPic; exact List.mem_append_right _ (List.mem_flatten.2 ⟨r, hr, hg⟩)
theorem ckAllG_pair {V F : Int} {c : List Ins} {g h : Gs} (h0 : ckProg V F c = 0) (hg : ckGs c g = 0) (hh : ckGs c h = 0) : ckAllG V F c [g, h] = 0 := by
 unfold ckAllG
 rw [if_pos h0]
 unfold ckGss
 rw [if_pos hg]
 unfold ckGss
 rw [if_pos hh]
 rfl
def RightG (c : List Ins) (g h : Gs) : Prop := ckGs c g = 0 ∧ ckGs c h = 0
theorem joinC_of {V F : Int} {c : List Ins} (h0 : ckProg V F c = 0) : JoinC false (togGs joinSp) (RightG c) := by
 intro g ss gc h st hc wx hs ht hR
 have hck := ckAllG_pair h0 hR.1 hR.2
 obtain ⟨hg, hh⟩ := ckAllG_sites hck
 have l1 := rising_len hg.2 hg.1
 have l2 := rising_len hh.2 hh.1
 refine (joinGuess_join g ss gc h st hc wx hs (by omega) ht (by omega)).mono ?_
 rintro e w' ⟨v, rfl, hown, hb⟩
 obtain ⟨js, jc, rfl, hi, k1, k2, hf⟩ := IntsAt.own hown
 rw [← sitesOf_eq g h hg.1 hh.1] at hi k1 ⊢
 exact ⟨js, jc, rfl, hi, k1, k2, hf, hb⟩
end
section
set_option maxHeartbeats 4000000
set_option maxRecDepth 10000
open Go.RowKit
attribute [local go_sem ↓] Go.wp_at_zero Go.wp_at_succ

theorem nothingP_any (w : World) : Calls Tryz.prog 65 #[] w fun e w' => e = .returned (.agg #[.bool false, .bool true, .int .i64 0, .int .i64 0, .bool false, .bool false, .slice none 0 0]) ∧ Below w.heap.size w w' := by
 go_enter Tryz.func65, Tryz.ntmps65
 go_wp2
 refine bodyPost_ret (v := .agg #[.bool false, .bool true, .int .i64 0, .int .i64 0, .bool false, .bool false, .slice none 0 0]) (by simp [results, Tryz.results65, go_sem]) rfl ⟨rfl, by go_grown⟩
/-- Two lists of numbers, held against each other. -/
theorem equalI_any (a b : List Int) (ss : Option Addr) (gc : Nat) (st : Option Addr) (hc : Nat) (w : World) (ha : a.length ≤ maxLen) (hb : b.length ≤ maxLen) (h1 : IntsAt w ss a) (h2 : IntsAt w st b) :
  Calls Tryz.prog 157 #[.slice ss a.length gc, .slice st b.length hc] w fun e w' => e = .returned (.bool (decide (a = b))) ∧ Below w.heap.size w w' := by
 have hm : maxLen ≤ 9223372036854775807 := by decide
 rcases h1 with rfl | ⟨b1, o1, rfl, hb1, hc1⟩
 ·refine (Tryz.slices_Equal_int_empty ss st gc b.length hc w (by omega)).mono ?_
  rintro e w' ⟨rfl, rfl⟩
  refine ⟨ret_bool ?_, Below.refl _ _⟩
  cases b <;> simp
 ·rcases h2 with rfl | ⟨b2, o2, rfl, hb2, hc2⟩
  ·by_cases h0 : a.length = 0
   ·have e0 : a = [] := List.eq_nil_of_length_eq_zero h0
    subst e0
    refine (Tryz.slices_Equal_int_empty (some ⟨b1, o1, none⟩) st gc 0 hc w (by omega)).mono ?_
    rintro e w' ⟨rfl, rfl⟩
    exact ⟨rfl, Below.refl _ _⟩
   ·have e1 : decide (a = []) = false := by
     have : a ≠ [] := fun e => h0 (by rw [e]; rfl)
     simpa using this
    rw [e1]
    have e2 : ((a.length : Int) != 0) = true := by simp; exact fun e => h0 (by rw [e]; rfl)
    clear e1 h0 hc1 hb1
    go_enter Tryz.func157, Tryz.ntmps157
    go_wp2
    go_ret
    exact ⟨rfl, Below.refl _ _⟩
  ·refine (Tryz.slices_Equal_int b1 o1 a.length gc b2 o2 b.length hc a b w (Nat.le_refl _) (Nat.le_refl _) (by omega) (by omega) (fun j hj => by rw [hc1 j hj]; simp [List.getD, hj]) (fun j hj => by rw [hc2 j hj]; simp [List.getD, hj])).mono ?_
   rintro e w' ⟨rfl, q, rfl⟩
   refine ⟨ret_bool ?_, below_drewN (Below.refl _ _) q⟩
   rw [List.take_length, List.take_length]
   by_cases h : a = b
   ·simp [h]
   ·simp [h]
theorem isSame_any (g : Gs) (ss : Option Addr) (gc : Nat) (h : Gs) (st : Option Addr) (hc : Nat) (w : World) (hs : IntsAt w ss g.s) (ht : IntsAt w st h.s) (h1 : g.s.length ≤ maxLen) (h2 : h.s.length ≤ maxLen) :
  Calls Tryz.prog 132 #[gv g ss gc, gv h st hc] w fun e w' => e = .returned (.bool (sameGs g h)) ∧ Below w.heap.size w w' := by
 have B0 : Below w.heap.size w ((w.alloc (.cells #[.bool g.n, .bool g.sp.n, .int .i64 g.sp.lo, .int .i64 g.sp.hi, .bool g.t, .bool g.f, .slice ss g.s.length gc] 61)).alloc (.cells #[.bool h.n, .bool h.sp.n, .int .i64 h.sp.lo, .int .i64 h.sp.hi, .bool h.t, .bool h.f, .slice st h.s.length hc] 61)) := by go_grown
 have HE := hideH (equalI_any g.s h.s ss gc st hc ((w.alloc (.cells #[.bool g.n, .bool g.sp.n, .int .i64 g.sp.lo, .int .i64 g.sp.hi, .bool g.t, .bool g.f, .slice ss g.s.length gc] 61)).alloc (.cells #[.bool h.n, .bool h.sp.n, .int .i64 h.sp.lo, .int .i64 h.sp.hi, .bool h.t, .bool h.f, .slice st h.s.length hc] 61)) h1 h2 (hs.below B0 (Nat.le_refl _)) (ht.below B0 (Nat.le_refl _)))
 have HR : Hid (sameGs g h = (g.n == h.n && (@decide _ (g.sp.dq h.sp) && (g.t == h.t && (g.f == h.f && decide (g.s = h.s)))))) := rfl
 generalize sameGs g h = r at HR ⊢
 generalize decide (g.s = h.s) = q at HR HE
 clear hs ht
 by_cases e1 : g.n = h.n
 ·by_cases e2 : g.sp = h.sp
  ·by_cases e3 : g.t = h.t
   ·by_cases e4 : g.f = h.f
    ·have HQ : Hid (r = q) := by show _ = _; rw [HR.out, e1, e2, e3, e4]; simp
     clear HR
     obtain ⟨n, sp, t, f, sl⟩ := g
     obtain ⟨n', sp', t', f', sl'⟩ := h
     simp only at e1 e2 e3 e4 HE h1 h2
     subst e1 e2 e3 e4
     go_enter Tryz.func132, Tryz.ntmps132
     go_wp2_with (go_at_call 157; fail)
     refine HE.out.mono ?_
     rintro e w1 ⟨rfl, hb1⟩
     go_wp2
     go_ret
     exact ⟨ret_bool HQ.out.symm, Below.trans (by go_grown) (hb1.mono (by simp; omega))⟩
    ·have HQ : Hid (r = false) := by show _ = _; rw [HR.out, e1, e2, e3]; simp [e4]
     have d4 : (g.f == h.f) = false := by simpa using e4
     clear HR HE e4
     obtain ⟨n, sp, t, f, sl⟩ := g
     obtain ⟨n', sp', t', f', sl'⟩ := h
     simp only at e1 e2 e3 d4 h1 h2
     subst e1 e2 e3
     go_enter Tryz.func132, Tryz.ntmps132
     go_wp2
     go_ret
     exact ⟨ret_bool HQ.out.symm, by go_grown⟩
   ·have HQ : Hid (r = false) := by show _ = _; rw [HR.out, e1, e2]; simp [e3]
    have d3 : (g.t == h.t) = false := by simpa using e3
    clear HR HE e3
    obtain ⟨n, sp, t, f, sl⟩ := g
    obtain ⟨n', sp', t', f', sl'⟩ := h
    simp only at e1 e2 d3 h1 h2
    subst e1 e2
    go_enter Tryz.func132, Tryz.ntmps132
    go_wp2
    go_ret
    exact ⟨ret_bool HQ.out.symm, by go_grown⟩
  ·have HQ : Hid (r = false) := by show _ = _; rw [HR.out, e1]; simp [e2]
   clear HR HE
   obtain ⟨n, ⟨sn, lo, hi⟩, t, f, sl⟩ := g
   obtain ⟨n', ⟨sn', lo', hi'⟩, t', f', sl'⟩ := h
   simp only at e1 e2 h1 h2
   subst e1
   by_cases a1 : sn = sn'
   ·subst a1
    by_cases a2 : lo = lo'
    ·subst a2
     have a3 : ¬ hi = hi' := fun e => e2 (by rw [e])
     clear e2
     go_enter Tryz.func132, Tryz.ntmps132
     go_wp2
     go_ret
     exact ⟨ret_bool HQ.out.symm, by go_grown⟩
    ·clear e2
     go_enter Tryz.func132, Tryz.ntmps132
     go_wp2
     go_ret
     exact ⟨ret_bool HQ.out.symm, by go_grown⟩
   ·clear e2
    go_enter Tryz.func132, Tryz.ntmps132
    go_wp2
    go_ret
    exact ⟨ret_bool HQ.out.symm, by go_grown⟩
 ·have HQ : Hid (r = false) := by show _ = _; rw [HR.out]; simp [e1]
  have d1 : (g.n == h.n) = false := by simpa using e1
  clear HR HE e1
  obtain ⟨n, sp, t, f, sl⟩ := g
  obtain ⟨n', sp', t', f', sl'⟩ := h
  simp only at d1 h1 h2
  go_enter Tryz.func132, Tryz.ntmps132
  go_wp2
  go_ret
  exact ⟨ret_bool HQ.out.symm, by go_grown⟩

theorem isSomething_any (g : Gs) (ss : Option Addr) (gc : Nat) (w : World) (hs : IntsAt w ss g.s) (h1 : g.s.length ≤ maxLen) :
  Calls Tryz.prog 106 #[gv g ss gc] w fun e w' => e = .returned (.bool (someGs g)) ∧ Below w.heap.size w w' := by
 have B0 : Below w.heap.size w (w.alloc (.cells #[.bool g.n, .bool g.sp.n, .int .i64 g.sp.lo, .int .i64 g.sp.hi, .bool g.t, .bool g.f, .slice ss g.s.length gc] 61)) := by go_grown
 have G0 := GuAt.new w g ss gc
 have I0 := hs.below B0 (Nat.le_refl _)
 have HN := hideH nothingP_any
 have HI : Hid (∀ wx, IntsAt wx ss g.s → Calls Tryz.prog 132 #[gv g ss gc, .agg #[.bool false, .bool true, .int .i64 0, .int .i64 0, .bool false, .bool false, .slice none 0 0]] wx fun e w' => e = .returned (.bool (sameGs g noneG)) ∧ Below wx.heap.size wx w') := fun wx hx => isSame_any g ss gc noneG none 0 wx hx (.inl rfl) h1 (Nat.zero_le _)
 have HR : Hid (someGs g = !sameGs g noneG) := rfl
 generalize someGs g = r at HR ⊢
 generalize sameGs g noneG = q at HR HI
 clear hs
 go_enter Tryz.func106, Tryz.ntmps106
 go_upto_region 1 with fail
 generalize w.alloc (.cells #[.bool g.n, .bool g.sp.n, .int .i64 g.sp.lo, .int .i64 g.sp.hi, .bool g.t, .bool g.f, .slice ss g.s.length gc] 61) = w1 at *
 have HKZ : Hid (∀ wx, Below w1.heap.size w1 wx → (wx.cell? ⟨w.heap.size, 0, none⟩ = some (.bool g.n) ∧ wx.cell? ⟨w.heap.size, 0 + 1, none⟩ = some (.bool g.sp.n) ∧ wx.cell? ⟨w.heap.size, 0 + 2, none⟩ = some (.int .i64 g.sp.lo) ∧ wx.cell? ⟨w.heap.size, 0 + 3, none⟩ = some (.int .i64 g.sp.hi) ∧ wx.cell? ⟨w.heap.size, 0 + 4, none⟩ = some (.bool g.t) ∧ wx.cell? ⟨w.heap.size, 0 + 5, none⟩ = some (.bool g.f) ∧ wx.cell? ⟨w.heap.size, 0 + 6, none⟩ = some (.slice ss g.s.length gc))) := fun wx hx => (G0.call hx).1
 have HD : Below w1.heap.size w1 w1.drew := (Below.refl _ _).drew
 refine wp_region_z (S := (fun wx => (wx.cell? ⟨w.heap.size, 0, none⟩ = some (.bool g.n) ∧ wx.cell? ⟨w.heap.size, 0 + 1, none⟩ = some (.bool g.sp.n) ∧ wx.cell? ⟨w.heap.size, 0 + 2, none⟩ = some (.int .i64 g.sp.lo) ∧ wx.cell? ⟨w.heap.size, 0 + 3, none⟩ = some (.int .i64 g.sp.hi) ∧ wx.cell? ⟨w.heap.size, 0 + 4, none⟩ = some (.bool g.t) ∧ wx.cell? ⟨w.heap.size, 0 + 5, none⟩ = some (.bool g.f) ∧ wx.cell? ⟨w.heap.size, 0 + 6, none⟩ = some (.slice ss g.s.length gc)))) [] (by kernel_rfl) (HKZ.out _ HD) (fun hHeld => ?_)
 refine tZ 0 ?_ ?_;refine sm ?_
 refine wpAnyZ_one (i := 1) rfl (by kernel_rfl) (fun K hK => ?_)
 go_simp
 go_at_call 65
 refine (HN.out _).mono ?_
 rintro e w2 ⟨rfl, hb2⟩
 have HB2 : Below w1.heap.size w1 w2 := HD.trans (hb2.mono HD.size)
 go_wp2_with fail
 refine hK.out _ _ (HKZ.out _ HB2) (fun hHeld => ?_)
 clear hK K
 refine sm ?_
 refine wpAnyZ_one (i := 2) rfl (by kernel_rfl) (fun K hK => ?_)
 go_simp
 go_at_call 132
 refine (HI.out _ (I0.below HB2 (Nat.le_refl _))).mono ?_
 rintro e w3 ⟨rfl, hb3⟩
 have HB3 : Below w1.heap.size w1 w3 := HB2.trans (hb3.mono HB2.size)
 go_wp2_with fail
 refine hK.out _ _ (HKZ.out _ HB3) (fun hHeld => ?_)
 clear hK K
 refine sm ?_
 refine tZ 3 ?_ ?_;refine sm ?_
 refine tZ 4 ?_ ?_;refine sm ?_
 refine wpAnyZ_done (by kernel_rfl) ?_ _
 go_wp2
 go_ret
 exact ⟨ret_bool HR.out.symm, B0.trans (HB3.mono B0.size)⟩
end
section
set_option maxHeartbeats 4000000
set_option maxRecDepth 10000
open Go.RowKit
attribute [local go_sem ↓] Go.wp_at_zero Go.wp_at_succ

theorem grow_any (n : Nat) (w : World) (hn : n ≤ 1000) :
  Calls Tryz.prog 156 #[.slice none 0 0, .int .i64 (n : Int)] w fun e w' => (∃ rs rc, e = .returned (.slice rs 0 rc) ∧ w'.ownsRow w.heap.size 61 7 (.slice rs 0 rc) 0 []) ∧ Below w.heap.size w w' := by
 obtain ⟨ti, hi, hz0, hz1, hz2⟩ := info_parts Tryz.info_guess
 cases n with
 | zero =>
  go_enter Tryz.func156, Tryz.ntmps156
  go_wp2
  go_ret
  exact ⟨⟨none, 0, rfl, rfl, .inl ⟨rfl, rfl⟩⟩, Below.refl _ _⟩
 | succ m =>
  have happ := Lib.run_append_nil_zeros (P := Tryz.prog) w 25 3 25 61 ti (.agg #[.bool false, .bool false, .int .i64 0, .int .i64 0, .bool false, .bool false, .slice none 0 0]) .i64 .i64 Tryz.underlying25 Tryz.underlying3 hi hz0 (m + 1) (by omega) (by rw [hz1]; omega) (by omega) (by rw [hz2]; omega)
  have hge := grownCap_ge w (m + 1) 0 61
  have hle := grownCap_le_maxLen w (m + 1) 0 61 (by unfold maxLen; omega)
  have HA := hideH happ
  have HO : Hid (∀ cap, m + 1 ≤ cap → cap ≤ maxLen → (w.drew.alloc (.cells (Builtin.zeroCells (Value.cells (.agg #[.bool false, .bool false, .int .i64 0, .int .i64 0, .bool false, .bool false, .slice none 0 0])) (m + 1) ++ Builtin.zeroCells (Value.cells (.agg #[.bool false, .bool false, .int .i64 0, .int .i64 0, .bool false, .bool false, .slice none 0 0])) (cap - (m + 1))) 61)).ownsRow w.heap.size 61 7 (.slice (some ⟨w.heap.size, 0, none⟩) 0 cap) 0 []) := fun cap h1 h2 => by
   refine World.ownsRow_made w.drew _ cap (Nat.le_refl _) h2 ?_
   rw [Array.size_append, size_zeroCells, size_zeroCells]
   have : (Value.cells (.agg #[.bool false, .bool false, .int .i64 0, .int .i64 0, .bool false, .bool false, .slice none 0 0])).size = 7 := rfl
   rw [this, ← Nat.add_mul]
   congr 1
   omega
  have hnp : (0 : Int) < ((m + 1 : Nat) : Int) := by omega
  have hnn : ¬ ((m + 1 : Nat) : Int) < 0 := by omega
  generalize grownCap w (m + 1) 0 61 = cp at *
  clear happ
  generalize hN : m + 1 = N at *
  clear hN
  go_enter Tryz.func156, Tryz.ntmps156
  go_wp2_with (at_builtin; refine Lib.wpList_append_run _ rfl _ _ _ _ rfl _ _ rfl rfl _ _ HA.out ?_)
  have h0c : (0 : Int) ≤ (cp : Int) := by omega
  go_wp2
  go_ret
  refine ⟨⟨_, _, rfl, HO.out cp hge hle⟩, ?_⟩
  exact ((Below.refl _ w).drew).alloc (by simp) _

/-- What is returned is a row of guesses. -/
def RowR (w' : World) (e : Ending) (l : List Gs) : Prop := ∃ rs rc, e = .returned (.slice rs l.length rc) ∧ GsAt w' rs l ∧ l.length ≤ rc ∧ rc ≤ maxLen
theorem concat_any (ls : Option Addr) (lc : Nat) (L : List (List Gs)) (w : World) (h : RowsAt w ls L) (hl : L.length ≤ 1000) (ht : L.flatten.length ≤ 1000) :
  Calls Tryz.prog 131 #[.slice ls L.length lc] w fun e w' => RowR w' e L.flatten ∧ Below w.heap.size w w' := by
 obtain ⟨ti, hi, hz0, hz1, hz2⟩ := info_parts Tryz.info_guess
 have HG := hideH grow_any
 obtain ⟨N, eN⟩ : ∃ N, N = L.flatten.length := ⟨_, rfl⟩
 have HLE : Hid (∀ k, (L.take k).flatten.length ≤ 1000) := fun k => by
  have h1 : L.flatten = (L.take k).flatten ++ (L.drop k).flatten := by rw [← List.flatten_append, List.take_append_drop]
  have h2 := congrArg List.length h1
  rw [List.length_append] at h2
  omega
 rw [← eN] at ht
 have EN := hideH eN
 clear eN
 go_enter Tryz.func131, Tryz.ntmps131
 go_wp2
 go_loopw [3, 11] (fun z i wr => ∃ k : Nat, k ≤ L.length ∧ i = .int .i64 k ∧ z = .int .i64 ((L.take k).flatten.length : Int) ∧ wr = w) (fun _ i _ => L.length - (intOf i).toNat)
 case atStart => exact ⟨0, Nat.zero_le _, rfl, by simp, rfl⟩
 case round =>
  obtain ⟨k, hk, rfl, rfl, hwr⟩ := hrel
  rw [hwr]
  clear hwr
  by_cases hlt : k < L.length
  ·have n0 : (0 : Int) ≤ (k : Int) := by omega
   have n1 : (k : Int) < (L.length : Int) := by omega
   obtain ⟨b, off, rfl, zb, rs, rc, C1, k1, m1, J1⟩ := h k hlt
   have HF := hideH (flat_take L k hlt)
   have hle := HLE.out (k + 1)
   rw [HF.out, List.length_append] at hle
   obtain ⟨z0, e0⟩ : ∃ z0, z0 = (L.take k).flatten.length := ⟨_, rfl⟩
   obtain ⟨z1, e1⟩ : ∃ z1, z1 = L[k].length := ⟨_, rfl⟩
   rw [← e0, ← e1] at hle
   rw [← e1] at C1
   rw [← e0]
   have E0 := hideH e0
   have E1 := hideH e1
   clear e0 e1 J1 k1
   have hnn : ¬ ((z0 : Int) + (z1 : Int)) < 0 := by omega
   go_wp2
   go_roundw
   case rel => exact ⟨k + 1, by omega, by go_num, by rw [HF.out, List.length_append, ← E0.out, ← E1.out]; first | rfl | go_num | (simp; omega), by first | rfl | trivial⟩
   case measure => simp [intOf]; omega
  ·have n1 : ¬ (k : Int) < (L.length : Int) := by omega
   have et : L.take k = L := List.take_of_length_le (by omega)
   rw [et, ← EN.out]
   go_wp2_with (go_at_call 156; fail)
   refine (HG.out _ w ht).mono ?_
   rintro e w1 ⟨⟨rs0, rc0, rfl, O1⟩, hb1⟩
   have C1 : CRow w1 w.heap.size (.slice rs0 0 rc0) [] := ⟨O1, fun x hx => by simp at hx⟩
   clear O1 HG et
   go_wp2
   go_loopw [6, 27] (fun v i wy => ∃ (k : Nat) (rs : Option Addr) (rc : Nat) (l : List Gc), k ≤ L.length ∧ i = .int .i64 k ∧ v = .slice rs l.length rc ∧ Below w.heap.size w wy ∧ Hid (l.map Gc.g = (L.take k).flatten) ∧ CRow wy w.heap.size (.slice rs l.length rc) l) (fun _ i _ => L.length - (intOf i).toNat)
   case atStart => exact ⟨0, rs0, rc0, [], Nat.zero_le _, rfl, rfl, hb1, rfl, C1⟩
   case round =>
    clear C1 hb1
    obtain ⟨k2, rs, rc, l, hk2, rfl, rfl, hby, HE, CL⟩ := hrel
    have LL : Hid (l.length = (L.take k2).flatten.length) := by show _ = _; rw [← HE.out, List.length_map]
    by_cases hlt2 : k2 < L.length
    ·have n0 : (0 : Int) ≤ (k2 : Int) := by omega
     have n2 : (k2 : Int) < (L.length : Int) := by omega
     obtain ⟨b, off, rfl, zb, r1, rc1, D1, k1, m1, J1⟩ := h k2 hlt2
     obtain ⟨lr, elr, hnr, hnnr, hgr, hlr⟩ := J1.gcsTo hby
     have D1' : wr.cell? ⟨b, off + k2, none⟩ = some (.slice r1 L[k2].length rc1) := by rw [hby.cell (by simp only; exact zb)]; exact D1
     have hsum : l.length + L[k2].length ≤ 1000 := by have h1 := HLE.out (k2 + 1); rw [flat_take L k2 hlt2, List.length_append] at h1; have := LL.out; omega
     have HLL : Hid (lr.length = L[k2].length) := by show _ = _; rw [← elr, List.length_map]
     have HNR := hideH hnr
     have HLR := hideH elr
     clear D1 J1 hnr elr
     go_wp2_with (at_builtin; refine wpList_append_any _ rfl _ _ 25 rfl w.heap.size 61 ti (.agg #[.bool false, .bool false, .int .i64 0, .int .i64 0, .bool false, .bool false, .slice none 0 0]) 7 64 Tryz.underlying25 hi hz0 hz1 hz2 rfl (by decide) _ _ _ rfl CL.1 r1 L[k2].length rc1 (rowCells lr) rfl hlr hnnr ?qb2 (rowCells_one _) ?qb4 ?qb5 ?qb6 ?_)
     (try (case qb2 => exact HNR.out))
     case qb4 => unfold maxLen; omega
     case qb5 => omega
     (try (case qb6 => exact hby.size))
     intro v1 w5 hown5 hgrow5 hat5
     have hb5 : Below w.heap.size w w5 := hby.grown hgrow5 hby.size (fun k hk => (ownsI_lt CL.1 hk).2)
     have CR5 : CRow w5 w.heap.size v1 (l ++ lr) := CL.grown hgr (by rw [HLL.out]; exact hown5) hgrow5
     obtain ⟨rs', rc', rfl, -, -, -, -⟩ := CR5.at
     clear hown5 hgrow5 hat5 HNR hnnr hgr hlr D1' CL
     go_wp2
     go_roundw
     case rel => exact ⟨k2 + 1, rs', rc', l ++ lr, by omega, by go_num, by first | rfl | (rw [List.length_append]), hb5, by show _ = _; rw [List.map_append, HE.out, HLR.out, flat_take _ _ hlt2], CR5⟩
     case measure => simp [intOf]; omega
    ·have n2 : ¬ (k2 : Int) < (L.length : Int) := by omega
     have et : L.take k2 = L := List.take_of_length_le (by omega)
     obtain ⟨ra, rb, e0, kv1, kv2, GA, -⟩ := CL.at
     cases e0
     rw [HE.out, et] at GA
     have LF : Hid (l.length = L.flatten.length) := by show _ = _; rw [LL.out, et]
     go_wp2
     go_ret
     refine ⟨⟨rs, rc, by show Ending.returned (.slice rs l.length rc) = _; rw [LF.out], GA, by rw [← LF.out]; exact kv1, kv2⟩, hby⟩

theorem rows_two (w : World) {vs rs : Option Addr} {vc rc : Nat} {a b : List Gs} (h1 : GsAt w vs a) (k1 : a.length ≤ vc) (m1 : vc ≤ maxLen) (h2 : GsAt w rs b) (k2 : b.length ≤ rc) (m2 : rc ≤ maxLen) :
  RowsAt (w.alloc (.cells #[.slice vs a.length vc, .slice rs b.length rc] 25)) (some ⟨w.heap.size, 0, none⟩) [a, b] := by
 intro i hi
 match i, hi with
 | 0, _ => exact ⟨w.heap.size, 0, rfl, by simp, vs, vc, by simp [go_sem], k1, m1, h1.alloc _⟩
 | 1, _ => exact ⟨w.heap.size, 0, rfl, by simp, rs, rc, by simp [go_sem], k2, m2, h2.alloc _⟩
 | i + 2, h => simp at h; omega
theorem allP_any (x : Pic) (vs : Option Addr) (vc : Nat) (fs : Option Addr) (fc : Nat) (w : World) (h : PicAt w x vs fs) (hvc : x.vars.length ≤ vc) (hvm : vc ≤ maxLen) (hl : x.flds.length ≤ 1000) (ha : (allPic x).length ≤ 1000) :
  Calls Tryz.prog 102 #[xv x vs vc fs fc] w fun e w' => RowR w' e (allPic x) ∧ Below w.heap.size w w' := by
 have B0 : Below w.heap.size w (w.alloc (.cells #[.bool x.none, .slice vs x.vars.length vc, .slice fs x.flds.length fc] 28)) := by go_grown
 have A0 := XAt.new w x vs vc fs fc
 have PV := h.1.below B0 (Nat.le_refl _)
 have PF := h.2.below B0 (Nat.le_refl _)
 have hf : x.flds.flatten.length ≤ 1000 := by unfold allPic at ha; rw [List.length_append] at ha; omega
 obtain ⟨fl, efl⟩ : ∃ fl, fl = x.flds.flatten := ⟨_, rfl⟩
 have HC1 : Hid (∀ wx, RowsAt wx fs x.flds → Calls Tryz.prog 131 #[.slice fs x.flds.length fc] wx fun e w' => RowR w' e fl ∧ Below wx.heap.size wx w') := fun wx hx => by rw [efl]; exact concat_any fs fc x.flds wx hx hl hf
 have EA : [x.vars, fl].flatten = allPic x := by unfold allPic; rw [efl]; simp
 have HC2 : Hid (∀ wx a, RowsAt wx (some a) [x.vars, fl] → Calls Tryz.prog 131 #[.slice (some a) 2 2] wx fun e w' => RowR w' e (allPic x) ∧ Below wx.heap.size wx w') := fun wx a hx => by rw [← EA]; exact concat_any (some a) 2 [x.vars, fl] wx hx (by simp) (by rw [EA]; exact ha)
 clear efl EA hf
 clear h ha
 go_enter Tryz.func102, Tryz.ntmps102
 go_upto_region 1 with fail
 generalize w.alloc (.cells #[.bool x.none, .slice vs x.vars.length vc, .slice fs x.flds.length fc] 28) = w1 at *
 obtain ⟨⟨a0, a1, a2⟩, az, -⟩ := id A0
 have HKZ : Hid (∀ wx, Below w1.heap.size w1 wx → wx.cell? ⟨w.heap.size, 1, none⟩ = some (.slice vs x.vars.length vc) ∧ wx.cell? ⟨w.heap.size, 2, none⟩ = some (.slice fs x.flds.length fc)) := fun wx hx => ⟨by rw [hx.cell (by simp only; exact az)]; exact a1, by rw [hx.cell (by simp only; exact az)]; exact a2⟩
 have HD : Below w1.heap.size w1 w1.drew := (Below.refl _ _).drew
 clear a0 a1 a2 az
 refine wp_region_z (S := (fun wx => wx.cell? ⟨w.heap.size, 1, none⟩ = some (.slice vs x.vars.length vc) ∧ wx.cell? ⟨w.heap.size, 2, none⟩ = some (.slice fs x.flds.length fc))) [] (by kernel_rfl) (HKZ.out _ HD) (fun hHeld => ?_)
 refine tZ 0 ?_ ?_;refine sm ?_
 refine tZ 1 ?_ ?_;refine sm ?_
 refine tZ 2 ?_ ?_;refine sm ?_
 refine tZ 3 ?_ ?_;refine sm ?_
 refine wpAnyZ_one (i := 4) rfl (by kernel_rfl) (fun K hK => ?_)
 go_simp
 go_at_call 131
 refine (HC1.out _ (PF.below HD (Nat.le_refl _))).mono ?_
 rintro e w2 ⟨⟨rs, rc, rfl, GF, k1, k2⟩, hb2⟩
 have HB2 : Below w1.heap.size w1 w2 := HD.trans (hb2.mono HD.size)
 go_wp2_with fail
 refine hK.out _ _ (HKZ.out _ HB2) (fun hHeld => ?_)
 clear hK K
 refine sm ?_
 refine wpAnyZ_one (i := 5) rfl (by kernel_rfl) (fun K hK => ?_)
 go_simp
 have hba : Below w2.heap.size w2 (w2.alloc (.cells #[.slice vs x.vars.length vc, .slice rs fl.length rc] 25)) := by go_grown
 have HB3 : Below w1.heap.size w1 (w2.alloc (.cells #[.slice vs x.vars.length vc, .slice rs fl.length rc] 25)) := HB2.trans (hba.mono HB2.size)
 refine hK.out _ _ (HKZ.out _ HB3) (fun hHeld => ?_)
 clear hK K
 refine sm ?_
 have RR : RowsAt (w2.alloc (.cells #[.slice vs x.vars.length vc, .slice rs fl.length rc] 25)) (some ⟨w2.heap.size, 0, none⟩) [x.vars, fl] := rows_two w2 (PV.below HB2 (Nat.le_refl _)) hvc hvm GF k1 k2
 refine wpAnyZ_one (i := 6) rfl (by kernel_rfl) (fun K hK => ?_)
 go_simp
 go_at_call 131
 refine (HC2.out _ _ RR).mono ?_
 rintro e w4 ⟨⟨ra, rb, rfl, GA, j1, j2⟩, hb4⟩
 have HB4 : Below w1.heap.size w1 w4 := HB3.trans (hb4.mono HB3.size)
 go_wp2_with fail
 refine hK.out _ _ (HKZ.out _ HB4) (fun hHeld => ?_)
 clear hK K
 refine sm ?_
 refine tZ 7 ?_ ?_;refine sm ?_
 refine wpAnyZ_done (by kernel_rfl) ?_ _
 go_wp2
 go_ret
 exact ⟨⟨ra, rb, rfl, GA, j1, j2⟩, B0.trans (HB4.mono B0.size)⟩
end
section
set_option maxHeartbeats 4000000
set_option maxRecDepth 10000
open Go.RowKit
attribute [local go_sem ↓] Go.wp_at_zero Go.wp_at_succ

theorem formed1_any (l : List Gs) (rs : Option Addr) (rc q : Nat) (V F : Int) (s : Option Addr) (c : List Ins) (cap : Nat) (w : World) (hp : PrAt w q V F s c cap) :
  Calls Tryz.prog 133 #[.slice rs l.length rc, .pointer (some ⟨q, 0, none⟩)] w fun e w' => e = .returned (.bool ((fun r : List Gs => !decide ((r.length : Int) = F)) l)) ∧ Below w.heap.size w w' := by
 obtain ⟨⟨p0, p1, p2⟩, pz⟩ := id hp
 by_cases h : (l.length : Int) = F
 ·have e1 : ((l.length : Int) != F) = false := by simpa using h
  have er : (fun r : List Gs => !decide ((r.length : Int) = F)) l = false := by simp [h]
  rw [er]
  clear er h
  go_enter Tryz.func133, Tryz.ntmps133
  go_wp2
  go_ret
  exact ⟨rfl, by go_grown⟩
 ·have e1 : ((l.length : Int) != F) = true := by simpa using h
  have er : (fun r : List Gs => !decide ((r.length : Int) = F)) l = true := by simp [h]
  rw [er]
  clear er h
  go_enter Tryz.func133, Tryz.ntmps133
  go_wp2
  go_ret
  exact ⟨rfl, by go_grown⟩
theorem indexRows_any (q : Nat) (V F : Int) (s : Option Addr) (c : List Ins) (cap : Nat) (fs : Option Addr) (fc : Nat) (L : List (List Gs)) (w : World) (hl : L.length ≤ 9223372036854775807) (h : RowsAt w fs L) (hp : PrAt w q V F s c cap) :
  Calls Tryz.prog 158 #[.slice fs L.length fc, .func (.func 133) #[] #[.pointer (some ⟨q, 0, none⟩)]] w fun e w' => ∃ n : Int, e = .returned (.int .i64 n) ∧ decide (0 ≤ n) = L.any (fun r : List Gs => !decide ((r.length : Int) = F)) ∧ Below w.heap.size w w' := by
 have HF : Hid (∀ (l : List Gs) (rs : Option Addr) (rc : Nat) (wx : World), PrAt wx q V F s c cap → Calls Tryz.prog 133 #[.slice rs l.length rc, .pointer (some ⟨q, 0, none⟩)] wx fun e w' => e = .returned (.bool ((fun r : List Gs => !decide ((r.length : Int) = F)) l)) ∧ Below wx.heap.size wx w') := fun l rs rc wx hx => formed1_any l rs rc q V F s c cap wx hx
 generalize hpp : (fun r : List Gs => !decide ((r.length : Int) = F)) = pp at *
 clear hpp
 go_enter Tryz.func158, Tryz.ntmps158
 go_wp2
 go_loopw [8] (fun i wr => ∃ k : Nat, k ≤ L.length ∧ i = .int .i64 k ∧ Below w.heap.size w wr ∧ Hid (L.any pp = (L.drop k).any pp)) (fun i _ => L.length - (intOf i).toNat)
 case atStart => exact ⟨0, Nat.zero_le _, rfl, Below.refl _ _, rfl⟩
 case round =>
  obtain ⟨k, hk, rfl, hbr, HA⟩ := hrel
  by_cases hlt : k < L.length
  ·obtain ⟨b, off, rfl, zb, rs, rc, C1, k1, m1, -⟩ := h k hlt
   have n0 : (0 : Int) ≤ (k : Int) := by omega
   have n1 : (k : Int) < (L.length : Int) := by omega
   have s0 := hbr.size
   have c0 : wr.cell? ⟨b, off + k, none⟩ = some (.slice rs L[k].length rc) := by rw [hbr.cell (by simp only; exact zb)]; exact C1
   have HN : Hid ((L.drop k).any pp = (pp L[k] || (L.drop (k + 1)).any pp)) := any_drop_stepJ L pp k hlt
   clear C1 h
   go_wp2_with (go_at_call 133; fail)
   refine (HF.out L[k] _ _ _ (hp.call hbr)).mono ?_
   rintro e w1 ⟨rfl, hb1⟩
   cases hpk : pp L[k] with
   | true =>
    have HT : Hid (L.any pp = true) := by show _ = _; rw [HA.out, HN.out, hpk]; rfl
    clear HN HA
    go_wp2
    go_ret
    exact ⟨_, rfl, by rw [HT.out]; simp, hbr.trans (hb1.mono s0)⟩
   | false =>
    have HT : Hid (L.any pp = (L.drop (k + 1)).any pp) := by show _ = _; rw [HA.out, HN.out, hpk]; rfl
    clear HN HA
    go_wp2
    go_roundw
    case rel => exact ⟨k + 1, by omega, by go_num, hbr.trans (hb1.mono s0), HT⟩
    case measure => simp [intOf]; omega
  ·go_wp2
   go_ret
   exact ⟨_, rfl, by rw [HA.out, List.drop_eq_nil_of_le (by omega)]; rfl, hbr⟩
theorem containsRows_any (q : Nat) (V F : Int) (s : Option Addr) (c : List Ins) (cap : Nat) (fs : Option Addr) (fc : Nat) (L : List (List Gs)) (w : World) (hl : L.length ≤ 9223372036854775807) (h : RowsAt w fs L) (hp : PrAt w q V F s c cap) :
  Calls Tryz.prog 134 #[.slice fs L.length fc, .func (.func 133) #[] #[.pointer (some ⟨q, 0, none⟩)]] w fun e w' => e = .returned (.bool (L.any (fun r : List Gs => !decide ((r.length : Int) = F)))) ∧ Below w.heap.size w w' := by
 have HI := hideH (indexRows_any q V F s c cap fs fc L w hl h hp)
 generalize L.any (fun r : List Gs => !decide ((r.length : Int) = F)) = res at *
 go_enter Tryz.func134, Tryz.ntmps134
 go_wp2_with (go_at_call 158; fail)
 refine HI.out.mono ?_
 rintro e w1 ⟨n, rfl, hn, hb1⟩
 subst hn
 go_wp2
 go_ret
 exact ⟨rfl, hb1⟩
theorem isFormed_none (V F : Int) (s : Option Addr) (c : List Ins) (cap : Nat) (vars : List Gs) (flds : List (List Gs)) (vs : Option Addr) (vc : Nat) (fs : Option Addr) (fc : Nat) (w : World) :
  Calls Tryz.prog 105 #[pv V F s c cap, xv ⟨true, vars, flds⟩ vs vc fs fc] w fun e w' => e = .returned (.bool (decide (vars.length = 0) && decide (flds.length = 0))) ∧ Below w.heap.size w w' := by
 cases vars with
 | nil =>
  cases flds with
  | nil =>
   go_enter Tryz.func105, Tryz.ntmps105
   go_wp2
   go_ret
   exact ⟨rfl, by go_grown⟩
  | cons r flds =>
   go_enter Tryz.func105, Tryz.ntmps105
   go_wp2
   go_ret
   exact ⟨rfl, by go_grown⟩
 | cons g vars =>
  go_enter Tryz.func105, Tryz.ntmps105
  go_wp2
  go_ret
  exact ⟨rfl, by go_grown⟩
theorem isFormed_vars (V F : Int) (s : Option Addr) (c : List Ins) (cap : Nat) (vars : List Gs) (flds : List (List Gs)) (vs : Option Addr) (vc : Nat) (fs : Option Addr) (fc : Nat) (w : World) (h : ¬ (vars.length : Int) = V) :
  Calls Tryz.prog 105 #[pv V F s c cap, xv ⟨false, vars, flds⟩ vs vc fs fc] w fun e w' => e = .returned (.bool false) ∧ Below w.heap.size w w' := by
 have hmf : ∀ (fn : Fn) (first cp : Array Value) (w : World), (Instr.makeFunc fn first cp).run Tryz.prog w = .ok (.func fn first cp) w := fun _ _ _ _ => rfl
 have n1 : ((vars.length : Int) == V) = false := by simpa using h
 clear h
 go_enter Tryz.func105, Tryz.ntmps105
 go_wp2
 go_ret
 exact ⟨rfl, by go_grown⟩
theorem isFormed_flds (V F : Int) (s : Option Addr) (c : List Ins) (cap : Nat) (vars : List Gs) (flds : List (List Gs)) (vs : Option Addr) (vc : Nat) (fs : Option Addr) (fc : Nat) (w : World) (h : ¬ flds.length = c.length) :
  Calls Tryz.prog 105 #[pv (vars.length : Int) F s c cap, xv ⟨false, vars, flds⟩ vs vc fs fc] w fun e w' => e = .returned (.bool false) ∧ Below w.heap.size w w' := by
 have hmf : ∀ (fn : Fn) (first cp : Array Value) (w : World), (Instr.makeFunc fn first cp).run Tryz.prog w = .ok (.func fn first cp) w := fun _ _ _ _ => rfl
 have n1 : ((flds.length : Int) == (c.length : Int)) = false := by simp; omega
 clear h
 go_enter Tryz.func105, Tryz.ntmps105
 go_wp2
 go_ret
 exact ⟨rfl, by go_grown⟩
theorem isFormed_rows (V F : Int) (s : Option Addr) (c : List Ins) (cap : Nat) (vars : List Gs) (flds : List (List Gs)) (vs : Option Addr) (vc : Nat) (fs : Option Addr) (fc : Nat) (w : World) (hR : RowsAt w fs flds) (h : flds.length = c.length) (h60 : c.length ≤ 60) :
  Calls Tryz.prog 105 #[pv (vars.length : Int) F s c cap, xv ⟨false, vars, flds⟩ vs vc fs fc] w fun e w' => e = .returned (.bool (!(flds.any (fun r : List Gs => !decide ((r.length : Int) = F))))) ∧ Below w.heap.size w w' := by
 have hmf : ∀ (fn : Fn) (first cp : Array Value) (w : World), (Instr.makeFunc fn first cp).run Tryz.prog w = .ok (.func fn first cp) w := fun _ _ _ _ => rfl
 have n1 : ((flds.length : Int) == (c.length : Int)) = true := by simp; omega
 have hl : flds.length ≤ 9223372036854775807 := by omega
 have B0 : Below w.heap.size w ((w.alloc (.cells #[.int .i64 (vars.length : Int), .int .i64 F, .slice s c.length cap] 24)).alloc (.cells #[.bool false, .slice vs vars.length vc, .slice fs flds.length fc] 28)) := by go_grown
 have P0 := (PrAt.new w (vars.length : Int) F s c cap).call (w' := ((w.alloc (.cells #[.int .i64 (vars.length : Int), .int .i64 F, .slice s c.length cap] 24)).alloc (.cells #[.bool false, .slice vs vars.length vc, .slice fs flds.length fc] 28))) (by go_grown)
 have HC := hideH (containsRows_any w.heap.size (vars.length : Int) F s c cap fs fc flds ((w.alloc (.cells #[.int .i64 (vars.length : Int), .int .i64 F, .slice s c.length cap] 24)).alloc (.cells #[.bool false, .slice vs vars.length vc, .slice fs flds.length fc] 28)) hl (hR.below B0 (Nat.le_refl _)) P0)
 generalize flds.any (fun r : List Gs => !decide ((r.length : Int) = F)) = q at *
 clear hR h P0
 go_enter Tryz.func105, Tryz.ntmps105
 go_wp2_with (go_at_call 134; fail)
 refine HC.out.mono ?_
 rintro e w1 ⟨rfl, hb1⟩
 go_wp2
 go_ret
 exact ⟨rfl, B0.trans (hb1.mono B0.size)⟩

theorem isFormed_any (V F : Int) (s : Option Addr) (c : List Ins) (cap : Nat) (x : Pic) (vs : Option Addr) (vc : Nat) (fs : Option Addr) (fc : Nat) (w : World) (hP : PicAt w x vs fs) (h60 : c.length ≤ 60) :
  Calls Tryz.prog 105 #[pv V F s c cap, xv x vs vc fs fc] w fun e w' => e = .returned (.bool (formedPic V F c x)) ∧ Below w.heap.size w w' := by
 obtain ⟨n, vars, flds⟩ := x
 cases n with
 | true => exact isFormed_none V F s c cap vars flds vs vc fs fc w
 | false =>
  by_cases h1 : (vars.length : Int) = V
  ·by_cases h2 : flds.length = c.length
   ·have e1 : formedPic V F c ⟨false, vars, flds⟩ = !(flds.any (fun r : List Gs => !decide ((r.length : Int) = F))) := by
     unfold formedPic
     simp [h1, h2]
    rw [e1]
    have h := isFormed_rows V F s c cap vars flds vs vc fs fc w hP.2 h2 h60
    rw [h1] at h
    exact h
   ·have e1 : formedPic V F c ⟨false, vars, flds⟩ = false := by
     unfold formedPic
     simp [h2]
    rw [e1]
    have h := isFormed_flds V F s c cap vars flds vs vc fs fc w h2
    rw [h1] at h
    exact h
  ·have e1 : formedPic V F c ⟨false, vars, flds⟩ = false := by
    unfold formedPic
    simp [h1]
   rw [e1]
   exact isFormed_vars V F s c cap vars flds vs vc fs fc w h1
theorem indexSome_any (ls : Option Addr) (L : List Gs) (lc : Nat) (w : World) (hl : L.length ≤ 9223372036854775807) (hL : GsAt w ls L) :
  Calls Tryz.prog 135 #[.slice ls L.length lc, .func (.func 106) #[] #[]] w fun e w' => ∃ n : Int, e = .returned (.int .i64 n) ∧ decide (0 ≤ n) = L.any someGs ∧ Below w.heap.size w w' := by
 have HF := hideH isSomething_any
 generalize someGs = p at *
 go_enter Tryz.func135, Tryz.ntmps135
 go_wp2
 go_loopw [8] (fun i wr => ∃ k : Nat, k ≤ L.length ∧ i = .int .i64 k ∧ GsAt wr ls L ∧ Below w.heap.size w wr ∧ Hid (L.any p = (L.drop k).any p)) (fun i _ => L.length - (intOf i).toNat)
 case atStart => exact ⟨0, Nat.zero_le _, rfl, hL, Below.refl _ _, rfl⟩
 case round =>
  obtain ⟨k, hk, rfl, hR, hbr, HA⟩ := hrel
  by_cases hlt : k < L.length
  ·obtain ⟨b, off, rfl, ss, gc, hG, hI, l1, l2⟩ := hR k hlt
   obtain ⟨⟨g0, g1, g2, g3, g4, g5, g6⟩, gz⟩ := id hG
   have n0 : (0 : Int) ≤ (k : Int) := by omega
   have n1 : (k : Int) < (L.length : Int) := by omega
   have s0 := hbr.size
   have HN : Hid ((L.drop k).any p = (p L[k] || (L.drop (k + 1)).any p)) := any_drop_stepJ L p k hlt
   go_wp2_with (go_at_call 106; fail)
   refine (HF.out L[k] ss gc _ hI (Nat.le_trans l1 l2)).mono ?_
   rintro e w1 ⟨rfl, hb1⟩
   cases hp : p L[k] with
   | true =>
    have HT : Hid (L.any p = true) := by show _ = _; rw [HA.out, HN.out, hp]; rfl
    clear HN HA
    go_wp2
    go_ret
    exact ⟨_, rfl, by rw [HT.out]; simp, hbr.trans (hb1.mono s0)⟩
   | false =>
    have HT : Hid (L.any p = (L.drop (k + 1)).any p) := by show _ = _; rw [HA.out, HN.out, hp]; rfl
    have hR' := hR.call hb1
    clear HN HA
    go_wp2
    go_roundw
    case rel => exact ⟨k + 1, by omega, by go_num, hR', hbr.trans (hb1.mono s0), HT⟩
    case measure => simp [intOf]; omega
  ·go_wp2
   go_ret
   exact ⟨_, rfl, by rw [HA.out, List.drop_eq_nil_of_le (by omega)]; rfl, hbr⟩
theorem containsSome_any (ls : Option Addr) (L : List Gs) (lc : Nat) (w : World) (hl : L.length ≤ 9223372036854775807) (hL : GsAt w ls L) :
  Calls Tryz.prog 108 #[.slice ls L.length lc, .func (.func 106) #[] #[]] w fun e w' => e = .returned (.bool (L.any someGs)) ∧ Below w.heap.size w w' := by
 have HI := hideH (indexSome_any ls L lc w hl hL)
 generalize L.any someGs = res at *
 go_enter Tryz.func108, Tryz.ntmps108
 go_wp2_with (go_at_call 135; fail)
 refine HI.out.mono ?_
 rintro e w1 ⟨n, rfl, hn, hb1⟩
 subst hn
 go_wp2
 go_ret
 exact ⟨rfl, hb1⟩
end
section
set_option maxHeartbeats 8000000
set_option maxRecDepth 20000
open Go.RowKit
attribute [local go_sem ↓] Go.wp_at_zero Go.wp_at_succ

theorem formedPic_len {V F : Int} {c : List Ins} {x : Pic} (h0 : ckProg V F c = 0) (h : formedPic V F c x = true) : (allPic x).length ≤ 1000 ∧ x.flds.length ≤ c.length := by
 obtain ⟨⟨hV1, hV8⟩, ⟨hF0, hF3⟩, h60⟩ := ckProg_lim h0
 unfold formedPic at h
 unfold allPic
 cases hn : x.none with
 | true =>
  rw [hn] at h
  simp only [if_true, Bool.and_eq_true, decide_eq_true_eq] at h
  have e1 : x.vars = [] := List.eq_nil_of_length_eq_zero h.1
  have e2 : x.flds = [] := List.eq_nil_of_length_eq_zero h.2
  rw [e1, e2]
  simp
 | false =>
  rw [hn] at h
  simp only [Bool.false_eq_true, if_false, Bool.and_eq_true, decide_eq_true_eq, Bool.not_eq_true', List.any_eq_false] at h
  obtain ⟨f, rfl⟩ := Int.eq_ofNat_of_zero_le hF0
  have hr : ∀ r ∈ x.flds, r.length = f := fun r hr => by have := h.2.2 r hr; simp at this; omega
  rw [List.length_append, flat_len hr]
  have h2 := h.2.1
  have : x.flds.length * f ≤ 60 * 3 := Nat.mul_le_mul (by omega) (by omega)
  omega
theorem ckAllG_uno {V F : Int} {c : List Ins} {g : Gs} (h0 : ckProg V F c = 0) : ckAllG V F c [g] = ckGs c g := by
 unfold ckAllG
 rw [if_pos h0]
 unfold ckGss
 split
 ·rename_i h; rw [h]; rfl
 ·rfl
theorem isSite_at {c : List Ins} {k : Nat} (h : k < c.length) : isSite c (k : Int) = decide (c[k].k = 11) := by
 unfold isSite
 simp [h, List.getD]
theorem checkPartsP_bad (V F : Int) (s : Option Addr) (c : List Ins) (cap : Nat) (x : Pic) (vs : Option Addr) (vc : Nat) (fs : Option Addr) (fc : Nat) (w : World) (hc : CodeAt w s c) (hP : PicAt w x vs fs) (hvc : x.vars.length ≤ vc) (hvm : vc ≤ maxLen) (h0 : ckProg V F c = 0) (hf : formedPic V F c x = false) :
  Calls Tryz.prog 78 #[pv V F s c cap, xv x vs vc fs fc] w fun e w' => e = .returned (.int .i64 (ckPic V F c x)) ∧ Below w.heap.size w w' := by
 obtain ⟨-, -, h60⟩ := ckProg_lim h0
 have B0 : Below w.heap.size w ((w.alloc (.cells #[.int .i64 V, .int .i64 F, .slice s c.length cap] 24)).alloc (.cells #[.bool x.none, .slice vs x.vars.length vc, .slice fs x.flds.length fc] 28)) := by go_grown
 have HI := hideH (isFormed_any V F s c cap x vs vc fs fc ((w.alloc (.cells #[.int .i64 V, .int .i64 F, .slice s c.length cap] 24)).alloc (.cells #[.bool x.none, .slice vs x.vars.length vc, .slice fs x.flds.length fc] 28)) (hP.below B0 (Nat.le_refl _)) h60)
 have er : ckPic V F c x = 1 := by unfold ckPic; rw [if_pos hf]
 rw [er]
 rw [hf] at HI
 clear hP hc er hf
 go_enter Tryz.func78, Tryz.ntmps78
 go_wp2_with (go_at_call 105; fail)
 refine HI.out.mono ?_
 rintro e w1 ⟨rfl, hb1⟩
 go_wp2
 go_ret
 exact ⟨rfl, B0.trans (hb1.mono B0.size)⟩

theorem checkPartsP_ok (V F : Int) (s : Option Addr) (c : List Ins) (cap : Nat) (x : Pic) (vs : Option Addr) (vc : Nat) (fs : Option Addr) (fc : Nat) (w : World) (hc : CodeAt w s c) (hP : PicAt w x vs fs) (hvc : x.vars.length ≤ vc) (hvm : vc ≤ maxLen) (h0 : ckProg V F c = 0) (hf : formedPic V F c x = true) :
  Calls Tryz.prog 78 #[pv V F s c cap, xv x vs vc fs fc] w fun e w' => e = .returned (.int .i64 (ckPic V F c x)) ∧ Below w.heap.size w w' := by
 obtain ⟨-, -, h60⟩ := ckProg_lim h0
 obtain ⟨hal, hfl⟩ := formedPic_len h0 hf
 have B0 : Below w.heap.size w ((w.alloc (.cells #[.int .i64 V, .int .i64 F, .slice s c.length cap] 24)).alloc (.cells #[.bool x.none, .slice vs x.vars.length vc, .slice fs x.flds.length fc] 28)) := by go_grown
 have P0 := (PrAt.new w V F s c cap).call (w' := ((w.alloc (.cells #[.int .i64 V, .int .i64 F, .slice s c.length cap] 24)).alloc (.cells #[.bool x.none, .slice vs x.vars.length vc, .slice fs x.flds.length fc] 28))) (by go_grown)
 have A0 := XAt.new (w.alloc (.cells #[.int .i64 V, .int .i64 F, .slice s c.length cap] 24)) x vs vc fs fc
 rw [World.size_alloc] at A0
 have PX := hP.below B0 (Nat.le_refl _)
 have HI := hideH (isFormed_any V F s c cap x vs vc fs fc ((w.alloc (.cells #[.int .i64 V, .int .i64 F, .slice s c.length cap] 24)).alloc (.cells #[.bool x.none, .slice vs x.vars.length vc, .slice fs x.flds.length fc] 28)) PX h60)
 rw [hf] at HI
 have HA : Hid (∀ wx, PicAt wx x vs fs → Calls Tryz.prog 102 #[xv x vs vc fs fc] wx fun e w' => RowR w' e (allPic x) ∧ Below wx.heap.size wx w') := fun wx hx => allP_any x vs vc fs fc wx hx hvc hvm (by omega) hal
 have HS := hideH isSomething_any
 have HG : Hid (∀ g ss gc wx, CodeAt wx s c → IntsAt wx ss g.s → g.s.length ≤ gc → gc ≤ maxLen → Calls Tryz.prog 107 #[pv V F s c cap, gv g ss gc] wx fun e w' => e = .returned (.int .i64 (ckGs c g)) ∧ Below wx.heap.size wx w') := fun g ss gc wx h1 h2 h3 h4 => by rw [← ckAllG_uno (V := V) (F := F) h0]; exact checkG_any V F s c cap g ss gc wx h1 h2 h3 h4
 have HCS := hideH containsSome_any
 obtain ⟨res, HR, hres⟩ : ∃ r, Hid (r = if ckGss c (allPic x) ≠ 0 then ckGss c (allPic x) else if strayAt c someGs 0 x.flds then 4 else 0) ∧ ckPic V F c x = r := ⟨_, rfl, by rw [ckPic_some, hf]; rfl⟩
 rw [hres]
 have HC := hideH (hc.below B0 (Nat.le_refl _))
 clear hres hP hc hf hvc hvm
 obtain ⟨all, eall⟩ : ∃ all, all = allPic x := ⟨_, rfl⟩
 rw [← eall] at HR HA hal
 clear eall
 go_enter Tryz.func78, Tryz.ntmps78
 go_wp2_with (go_at_call 105; fail)
 generalize ((w.alloc (.cells #[.int .i64 V, .int .i64 F, .slice s c.length cap] 24)).alloc (.cells #[.bool x.none, .slice vs x.vars.length vc, .slice fs x.flds.length fc] 28)) = w1 at *
 refine HI.out.mono ?_
 rintro e w2 ⟨rfl, hb2⟩
 clear HI
 obtain ⟨⟨a0, a1, a2⟩, az, -⟩ := id (A0.call hb2)
 go_wp2_with (go_at_call 102; fail)
 refine (HA.out _ (PX.call hb2)).mono ?_
 rintro e w3 ⟨⟨rs, rc, rfl, GA, k1, k2⟩, hb3⟩
 clear HA a0 a1 a2 az
 have hb13 := hb2.trans (hb3.mono hb2.size)
 have P3 := P0.call hb13
 have A3 := A0.call hb13
 have C3 := HC.out.call hb13
 have R3 := PX.2.below hb13 (Nat.le_refl _)
 have B3 := B0.trans (hb13.mono B0.size)
 clear P0 A0 PX HC hb13 hb2 hb3 B0
 go_wp2
 go_loopw [17] (fun i wr => ∃ k : Nat, k ≤ all.length ∧ i = .int .i64 k ∧ Below w3.heap.size w3 wr ∧ Hid (ckGss c all = ckGss c (all.drop k))) (fun i _ => all.length - (intOf i).toNat)
 case atStart => exact ⟨0, Nat.zero_le _, rfl, Below.refl _ _, rfl⟩
 case round =>
  obtain ⟨k, hk, rfl, hbr, HK⟩ := hrel
  by_cases hlt : k < all.length
  ·have n0 : (0 : Int) ≤ (k : Int) := by omega
   have n1 : (k : Int) < (all.length : Int) := by omega
   obtain ⟨b, off, rfl, ss, gc, GR, IR, g1, g2⟩ := GA.below hbr (Nat.le_refl _) k hlt
   have HD := hideH (ckGss_drop c all k hlt)
   obtain ⟨⟨q0, q1, q2, q3, q4, q5, q6⟩, qz⟩ := id GR
   have G4 := GuAt.new wr all[k] ss gc
   have hb4 : Below wr.heap.size wr (wr.alloc (.cells #[.bool all[k].n, .bool all[k].sp.n, .int .i64 all[k].sp.lo, .int .i64 all[k].sp.hi, .bool all[k].t, .bool all[k].f, .slice ss all[k].s.length gc] 61)) := by go_grown
   have I4 := IR.call hb4
   go_wp2_with (go_at_call 106; fail)
   generalize wr.alloc (.cells #[.bool all[k].n, .bool all[k].sp.n, .int .i64 all[k].sp.lo, .int .i64 all[k].sp.hi, .bool all[k].t, .bool all[k].f, .slice ss all[k].s.length gc] 61) = w4 at *
   refine (HS.out all[k] ss gc _ I4 (Nat.le_trans g1 g2)).mono ?_
   rintro e w5 ⟨rfl, hb5⟩
   clear q0 q1 q2 q3 q4 q5 q6 qz GR IR
   have G5 := G4.call hb5
   have I5 := I4.call hb5
   have hb45 : Below wr.heap.size wr w5 := hb4.trans (hb5.mono hb4.size)
   have hb35 := hbr.trans (hb45.mono hbr.size)
   clear hb4 hb5 G4 I4
   rcases (show someGs all[k] = false ∨ someGs all[k] = true by cases someGs all[k] <;> simp) with hs | hs <;> have HSG := hideH hs <;> rw [hs] <;> clear hs
   ·have HZ : Hid (ckGs c all[k] = 0) := by
     show _ = _
     have h1 := HSG.out
     unfold someGs at h1
     have h2 : sameGs all[k] noneG = true := by simpa using h1
     rw [sameGs_iff.1 h2]
     rfl
    go_wp2
    go_roundw
    case rel => exact ⟨k + 1, by omega, by go_num, hb35, by show _ = _; rw [HK.out, HD.out, if_pos HZ.out]⟩
    case measure => simp [intOf]; omega
   ·obtain ⟨⟨p0, p1, p2⟩, pz⟩ := id (P3.call hb35)
    obtain ⟨⟨q0, q1, q2, q3, q4, q5, q6⟩, qz⟩ := id G5
    simp only [Nat.zero_add] at q0 q1 q2 q3 q4 q5 q6
    go_wp2_with (go_at_call 107; fail)
    refine (HG.out all[k] ss gc _ (C3.call hb35) I5 g1 g2).mono ?_
    rintro e w6 ⟨rfl, hb6⟩
    have hb36 := hb35.trans (hb6.mono hb35.size)
    clear p0 p1 p2 pz q0 q1 q2 q3 q4 q5 q6 qz
    generalize ckGs c all[k] = ce at *
    by_cases hz : ce = 0
    ·have e1 : (ce != 0) = false := by simpa using hz
     go_wp2
     go_roundw
     case rel => exact ⟨k + 1, by omega, by go_num, hb36, by show _ = _; rw [HK.out, HD.out, if_pos hz]⟩
     case measure => simp [intOf]; omega
    ·have e1 : (ce != 0) = true := by simpa using hz
     go_wp2
     go_ret
     refine ⟨ret_int ?_, B3.trans (hb36.mono B3.size)⟩
     rw [HR.out, HK.out, HD.out, if_neg hz, if_pos hz]
  ·have n1 : ¬ (k : Int) < (all.length : Int) := by omega
   have HZ : Hid (ckGss c all = 0) := by show _ = _; rw [HK.out, List.drop_eq_nil_of_le (by omega)]; rfl
   have HR2 : Hid (res = if strayAt c someGs 0 x.flds then 4 else 0) := by show _ = _; rw [HR.out, HZ.out]; rfl
   have P4 := P3.call hbr
   have A4 := A3.call hbr
   have C4 := C3.call hbr
   have R4 := R3.below hbr (Nat.le_refl _)
   have B4 := B3.trans (hbr.mono B3.size)
   generalize wr = w4 at *
   clear wr P3 A3 C3 R3 B3 HK HR HZ GA hbr
   obtain ⟨⟨a0, a1, a2⟩, az, -⟩ := id A4
   go_wp2
   clear a0 a1 a2 az
   go_loopw [34] (fun i wr => ∃ k : Nat, k ≤ x.flds.length ∧ i = .int .i64 k ∧ Below w4.heap.size w4 wr ∧ Hid (strayAt c someGs 0 x.flds = strayAt c someGs k (x.flds.drop k))) (fun i _ => x.flds.length - (intOf i).toNat)
   case atStart => exact ⟨0, Nat.zero_le _, rfl, Below.refl _ _, rfl⟩
   case round =>
    obtain ⟨k2, hk2, rfl, hbq, HT⟩ := hrel
    by_cases hlt2 : k2 < x.flds.length
    ·have n0 : (0 : Int) ≤ (k2 : Int) := by omega
     have n2 : (k2 : Int) < (x.flds.length : Int) := by omega
     have hkc : k2 < c.length := by omega
     have n3 : (k2 : Int) < (c.length : Int) := by omega
     have HU := hideH (strayAt_step c someGs x.flds k2 hlt2)
     obtain ⟨⟨p0, p1', p2⟩, pz⟩ := id (P4.call hbq)
     obtain ⟨p1, q1, e1, zp1, r1, rc1, D1, l1, l2, J1⟩ := (R4.below hbq (Nat.le_refl _)) k2 hlt2
     obtain ⟨cb, co, e2, zc, hcc⟩ := (C4.call hbq).get k2 hkc
     subst e1 e2
     obtain ⟨i0, -⟩ := hcc k2 hkc
     have HST := hideH (isSite_at hkc)
     have hrl : x.flds[k2].length ≤ 9223372036854775807 := by unfold maxLen at l2; omega
     clear hcc
     by_cases h11 : c[k2].k = 11
     ·have e11 : (c[k2].k != 11) = false := by simpa using h11
      go_wp2
      go_roundw
      case rel => exact ⟨k2 + 1, by omega, by go_num, hbq, by show _ = _; rw [HT.out, HU.out, HST.out, decide_eq_true h11]; rfl⟩
      case measure => simp [intOf]; omega
     ·have e11 : (c[k2].k != 11) = true := by simpa using h11
      go_wp2_with (go_at_call 108; fail)
      refine (HCS.out r1 x.flds[k2] rc1 _ hrl J1).mono ?_
      rintro e w5 ⟨rfl, hb5⟩
      have hb45 := hbq.trans (hb5.mono hbq.size)
      rcases (show x.flds[k2].any someGs = false ∨ x.flds[k2].any someGs = true by cases x.flds[k2].any someGs <;> simp) with hs | hs <;> have HSG := hideH hs <;> rw [hs] <;> clear hs
      ·go_wp2
       go_roundw
       case rel => exact ⟨k2 + 1, by omega, by go_num, hb45, by show _ = _; rw [HT.out, HU.out, HSG.out]; simp⟩
       case measure => simp [intOf]; omega
      ·go_wp2
       go_ret
       refine ⟨ret_int ?_, B4.trans (hb45.mono B4.size)⟩
       rw [HR2.out, HT.out, HU.out, HSG.out, HST.out, decide_eq_false h11]
       rfl
    ·have n2 : ¬ (k2 : Int) < (x.flds.length : Int) := by omega
     go_wp2
     go_ret
     refine ⟨ret_int ?_, B4.trans (hbq.mono B4.size)⟩
     rw [HR2.out, HT.out, List.drop_eq_nil_of_le (by omega)]
     rfl

theorem checkPartsP_any (V F : Int) (s : Option Addr) (c : List Ins) (cap : Nat) (x : Pic) (vs : Option Addr) (vc : Nat) (fs : Option Addr) (fc : Nat) (w : World) (hc : CodeAt w s c) (hP : PicAt w x vs fs) (hvc : x.vars.length ≤ vc) (hvm : vc ≤ maxLen) (h0 : ckProg V F c = 0) :
  Calls Tryz.prog 78 #[pv V F s c cap, xv x vs vc fs fc] w fun e w' => e = .returned (.int .i64 (ckPic V F c x)) ∧ Below w.heap.size w w' := by
 rcases (show formedPic V F c x = false ∨ formedPic V F c x = true by cases formedPic V F c x <;> simp) with hf | hf
 ·exact checkPartsP_bad V F s c cap x vs vc fs fc w hc hP hvc hvm h0 hf
 ·exact checkPartsP_ok V F s c cap x vs vc fs fc w hc hP hvc hvm h0 hf
end
section
set_option maxHeartbeats 16000000
set_option maxRecDepth 20000
open Go.RowKit
attribute [local go_sem ↓] Go.wp_at_zero Go.wp_at_succ

/-- What is answered is a picture that may be changed, in new memory. -/
def PicC (B : Nat) (w' : World) (e : Ending) (x : Pic) : Prop := ∃ v gs gc L, x = picOf x.none v L ∧ e = .returned (.agg #[.bool x.none, .slice v.rs v.l.length v.rc, .slice gs L.length gc]) ∧ PicG (fun b => B ≤ b) B w' v gs gc L
theorem copyPicture_main (xn : Bool) (vx : List Gs) (fx : List (List Gs)) (vs1 : Option Addr) (vc1 : Nat) (fs1 : Option Addr) (fc1 : Nat) (w : World) (hx : PicAt w ⟨xn, vx, fx⟩ vs1 fs1) (hv8 : vx.length ≤ 1000000) (h60 : fx.length ≤ 1000000) (hr : ∀ i (h : i < fx.length), fx[i].length ≤ 1000000) (hR1 : ∀ g ∈ vx, g.s.length ≤ 1000000) (hR2 : ∀ i (h : i < fx.length), ∀ g ∈ fx[i], g.s.length ≤ 1000000) :
  Calls Tryz.prog 20 #[xv ⟨xn, vx, fx⟩ vs1 vc1 fs1 fc1] w fun e w' => PicC w.heap.size w' e ⟨xn, vx, fx⟩ ∧ Below w.heap.size w w' := by
 obtain ⟨ti, hi, hz0, hz1, hz2⟩ := info_parts Tryz.info_guess
 obtain ⟨tk, hk, hx0, hx1, hx2⟩ := info_parts Tryz.info_row
 have HO : Hid (∀ (g : Gs) (ss : Option Addr) (gc : Nat) (wx : World), IntsAt wx ss g.s → g.s.length ≤ 1000000 → Calls Tryz.prog 57 #[gv g ss gc] wx fun e w' => (∃ js jc, e = .returned (gv g js jc) ∧ IntsAt w' js g.s ∧ g.s.length ≤ jc ∧ jc ≤ maxLen ∧ ∀ a, js = some a → wx.heap.size ≤ a.block) ∧ Below wx.heap.size wx w') := fun g ss gc wx h1 h2 => copyOne_any g ss gc wx h1 h2
 have HR := hideH hr
 have HR1 := hideH hR1
 have HR2 := hideH hR2
 have HX := hideH hx
 clear hr hR1 hR2 hx
 have hb0 : Below w.heap.size w (((w.alloc (.cells #[.bool xn, .slice vs1 vx.length vc1, .slice fs1 fx.length fc1] 28)).alloc (.cells #[.bool false, .slice none 0 0, .slice none 0 0] 28)).alloc (.cells #[.bool xn, .slice none 0 0, .slice none 0 0] 28)) := by go_grown
 have A0 := (XAt.new w ⟨xn, vx, fx⟩ vs1 vc1 fs1 fc1).call (w' := (((w.alloc (.cells #[.bool xn, .slice vs1 vx.length vc1, .slice fs1 fx.length fc1] 28)).alloc (.cells #[.bool false, .slice none 0 0, .slice none 0 0] 28)).alloc (.cells #[.bool xn, .slice none 0 0, .slice none 0 0] 28))) (by go_grown)
 have C0 := (X3.new (w.alloc (.cells #[.bool xn, .slice vs1 vx.length vc1, .slice fs1 fx.length fc1] 28)) 28 (.bool false) (.slice none 0 0) (.slice none 0 0)).call (w' := (((w.alloc (.cells #[.bool xn, .slice vs1 vx.length vc1, .slice fs1 fx.length fc1] 28)).alloc (.cells #[.bool false, .slice none 0 0, .slice none 0 0] 28)).alloc (.cells #[.bool xn, .slice none 0 0, .slice none 0 0] 28))) (by go_grown)
 have D0 := X3.new ((w.alloc (.cells #[.bool xn, .slice vs1 vx.length vc1, .slice fs1 fx.length fc1] 28)).alloc (.cells #[.bool false, .slice none 0 0, .slice none 0 0] 28)) 28 (.bool xn) (.slice none 0 0) (.slice none 0 0)
 have z0 : w.heap.size + 1 + 1 + 1 ≤ (((w.alloc (.cells #[.bool xn, .slice vs1 vx.length vc1, .slice fs1 fx.length fc1] 28)).alloc (.cells #[.bool false, .slice none 0 0, .slice none 0 0] 28)).alloc (.cells #[.bool xn, .slice none 0 0, .slice none 0 0] 28)).heap.size := by simp
 rw [World.size_alloc] at C0
 rw [World.size_alloc, World.size_alloc] at D0
 (try simp only at A0)
 go_enter Tryz.func20, Tryz.ntmps20
 go_upto_region 3 with fail
 generalize (((w.alloc (.cells #[.bool xn, .slice vs1 vx.length vc1, .slice fs1 fx.length fc1] 28)).alloc (.cells #[.bool false, .slice none 0 0, .slice none 0 0] 28)).alloc (.cells #[.bool xn, .slice none 0 0, .slice none 0 0] 28)) = w1 at *
 go_wp2
 go_loopw [5] (fun i wr => ∃ (k : Nat) (vs : Option Addr) (vc : Nat) (l : List Gc), k ≤ vx.length ∧ i = .int .i64 k ∧ XAt wr w.heap.size ⟨xn, vx, fx⟩ vs1 vc1 fs1 fc1 ∧ X3 wr (w.heap.size + 1) (.bool false) (.slice none 0 0) (.slice none 0 0) ∧ X3 wr (w.heap.size + 1 + 1) (.bool xn) (.slice vs l.length vc) (.slice none 0 0) ∧ SRow wr (w.heap.size + 1 + 1 + 1) (.slice vs l.length vc) l ∧ Hid (l.map Gc.g = vx.take k) ∧ Below w.heap.size w wr ∧ w.heap.size + 1 + 1 + 1 ≤ wr.heap.size) (fun i _ => vx.length - (intOf i).toNat)
 case atStart => exact ⟨0, none, 0, [], Nat.zero_le _, rfl, A0, C0, D0, SRow.nil _ _, rfl, hb0, z0⟩
 case round =>
  obtain ⟨k, vs, vc, l, hk1, rfl, AR, CR, ZR, SR, HL, LR, zr⟩ := hrel
  clear A0 C0 D0 hb0 z0
  have LL : Hid (l.length = k) := by
   show _ = _
   have h1 := congrArg List.length HL.out
   rw [List.length_map, List.length_take] at h1
   omega
  by_cases hlt : k < vx.length
  ·have n0 : (0 : Int) ≤ (k : Int) := by omega
   have n1 : (k : Int) < (vx.length : Int) := by omega
   obtain ⟨b1, o1, e1, ss1, g1, G1, I1, k1, m1⟩ := (HX.out.1.below LR (Nat.le_refl _)) k hlt
   subst e1
   have hlk := HR1.out _ (List.getElem_mem hlt)
   (try simp only at G1 I1)
   have zb1 : b1 < w.heap.size := gs_low (HX.out.1) k hlt
   obtain ⟨⟨a0, a1, a2⟩, az, -⟩ := id AR
   obtain ⟨⟨y0, y1, y2⟩, yz, -⟩ := id ZR
   have HKZ : Hid (∀ wx, Below (w.heap.size + 1 + 1 + 1) wr wx → wx.cell? ⟨w.heap.size + 1 + 1, 1, none⟩ = some (.slice vs l.length vc) ∧ (wx.cell? ⟨w.heap.size, 1, none⟩ = some (.slice (some ⟨b1, o1, none⟩) vx.length vc1) ∧ (wx.cell? ⟨b1, o1 + k * 7, none⟩ = some (.bool vx[k].n) ∧ wx.cell? ⟨b1, o1 + k * 7 + 1, none⟩ = some (.bool vx[k].sp.n) ∧ wx.cell? ⟨b1, o1 + k * 7 + 2, none⟩ = some (.int .i64 vx[k].sp.lo) ∧ wx.cell? ⟨b1, o1 + k * 7 + 3, none⟩ = some (.int .i64 vx[k].sp.hi) ∧ wx.cell? ⟨b1, o1 + k * 7 + 4, none⟩ = some (.bool vx[k].t) ∧ wx.cell? ⟨b1, o1 + k * 7 + 5, none⟩ = some (.bool vx[k].f) ∧ wx.cell? ⟨b1, o1 + k * 7 + 6, none⟩ = some (.slice ss1 vx[k].s.length g1)))) := fun wx hx => ⟨by rw [hx.cell (by simp only; omega)]; exact y1, ⟨by rw [hx.cell (by simp only; omega)]; exact a1, (G1.low hx (by omega)).1⟩⟩
   have HD : Below wr.heap.size wr wr.drew := (Below.refl _ _).drew
   go_wp2
   clear a0 a1 a2 az y0 y1 y2 yz
   refine wp_region_z (S := (fun wx => wx.cell? ⟨w.heap.size + 1 + 1, 1, none⟩ = some (.slice vs l.length vc) ∧ (wx.cell? ⟨w.heap.size, 1, none⟩ = some (.slice (some ⟨b1, o1, none⟩) vx.length vc1) ∧ (wx.cell? ⟨b1, o1 + k * 7, none⟩ = some (.bool vx[k].n) ∧ wx.cell? ⟨b1, o1 + k * 7 + 1, none⟩ = some (.bool vx[k].sp.n) ∧ wx.cell? ⟨b1, o1 + k * 7 + 2, none⟩ = some (.int .i64 vx[k].sp.lo) ∧ wx.cell? ⟨b1, o1 + k * 7 + 3, none⟩ = some (.int .i64 vx[k].sp.hi) ∧ wx.cell? ⟨b1, o1 + k * 7 + 4, none⟩ = some (.bool vx[k].t) ∧ wx.cell? ⟨b1, o1 + k * 7 + 5, none⟩ = some (.bool vx[k].f) ∧ wx.cell? ⟨b1, o1 + k * 7 + 6, none⟩ = some (.slice ss1 vx[k].s.length g1))))) [12] (by kernel_rfl) (HKZ.out _ (HD.mono zr)) (fun hHeld => ?_)
   refine tZ 0 ?_ ?_;refine sm ?_
   refine tZ 1 ?_ ?_;refine sm ?_
   refine tZ 2 ?_ ?_;refine sm ?_
   refine tZ 3 ?_ ?_;refine sm ?_
   refine tZ 4 ?_ ?_;refine sm ?_
   refine tZ 5 ?_ ?_;refine sm ?_
   refine tZ 6 ?_ ?_;refine sm ?_
   refine tZ 7 ?_ ?_;refine sm ?_
   refine wpAnyZ_one (i := 8) rfl (by kernel_rfl) (fun K hK => ?_)
   go_simp
   go_at_call 57
   refine (HO.out vx[k] ss1 g1 _ (I1.call HD) hlk).mono ?_
   rintro e w5 ⟨⟨js, jc, rfl, HI5, HJ1, HJ2, HF5⟩, hb5⟩
   have HW5 : Below wr.heap.size wr w5 := HD.trans (hb5.mono HD.size)
   have HB5 : Below (w.heap.size + 1 + 1 + 1) wr w5 := HW5.mono zr
   go_wp2_with fail
   refine hK.out _ _ (HKZ.out _ HB5) (fun hHeld => ?_)
   clear hK K
   refine sm ?_
   refine wpAnyZ_one (i := 9) rfl (by kernel_rfl) (fun K hK => ?_)
   go_simp
   have HW6 : Below wr.heap.size wr (w5.alloc (.cells #[.bool vx[k].n, .bool vx[k].sp.n, .int .i64 vx[k].sp.lo, .int .i64 vx[k].sp.hi, .bool vx[k].t, .bool vx[k].f, .slice js vx[k].s.length jc] 61)) := HW5.alloc HW5.size _
   have HB6 : Below (w.heap.size + 1 + 1 + 1) wr (w5.alloc (.cells #[.bool vx[k].n, .bool vx[k].sp.n, .int .i64 vx[k].sp.lo, .int .i64 vx[k].sp.hi, .bool vx[k].t, .bool vx[k].f, .slice js vx[k].s.length jc] 61)) := HW6.mono zr
   refine hK.out _ _ (HKZ.out _ HB6) (fun hHeld => ?_)
   clear hK K
   refine sm ?_
   refine wpAnyZ_one (i := 10) rfl (by kernel_rfl) (fun K hK => ?_)
   have S6 := SR.call HW6
   have GX : GcIn (fun b => w.heap.size + 1 + 1 + 1 ≤ b ∧ (Value.slice vs l.length vc).ownBlock ≠ some b) (w5.alloc (.cells #[.bool vx[k].n, .bool vx[k].sp.n, .int .i64 vx[k].sp.lo, .int .i64 vx[k].sp.hi, .bool vx[k].t, .bool vx[k].f, .slice js vx[k].s.length jc] 61)) ⟨vx[k], js, jc⟩ := joined_in HI5 HJ1 HJ2 HF5 zr (fun e => (ownsI_lt SR.1 e).1) (by go_grown) (HD.size)
   refine step_append_any _ rfl _ _ 25 rfl (w.heap.size + 1 + 1 + 1) 61 ti (.agg #[.bool false, .bool false, .int .i64 0, .int .i64 0, .bool false, .bool false, .slice none 0 0]) 7 64 Tryz.underlying25 hi hz0 hz1 hz2 rfl (by decide) _ _ _ rfl S6.1 (some ⟨w5.heap.size, 0, none⟩) 1 1 (gcCells ⟨vx[k], js, jc⟩) rfl rfl (fun h => by cases h) (news7 w5 ⟨vx[k], js, jc⟩ #[.bool vx[k].n, .bool vx[k].sp.n, .int .i64 vx[k].sp.lo, .int .i64 vx[k].sp.hi, .bool vx[k].t, .bool vx[k].f, .slice js vx[k].s.length jc] _ rfl) (gcCells_one _) (by unfold maxLen; have := LL.out; omega) (by have := LL.out; omega) (by rw [World.size_alloc]; have := HW5.size; omega) ?_
   intro v' w7 hown hgrow hat
   have S7 := S6.grown (x := ⟨vx[k], js, jc⟩) GX hown hgrow hat
   have HB7 : Below (w.heap.size + 1 + 1 + 1) wr w7 := HB6.grown hgrow (by rw [World.size_alloc]; have := HW5.size; omega) (fun k hk => (ownsI_lt S6.1 hk).2)
   obtain ⟨vs', vc', rfl, -, -, -⟩ := S7.in
   refine hK.out _ _ (HKZ.out _ HB7) (fun hHeld => ?_)
   clear hK K hown hgrow hat S6 GX HB6 HW6 HB5 HW5 HI5 HF5
   refine sm ?_
   refine tZ 11 ?_ ?_;refine sm ?_
   refine wpAnyZ_last (i := 12) rfl (by kernel_rfl) (by kernel_rfl) (fun K hK => ?_)
   have Z7 : X3 w7 (w.heap.size + 1 + 1) (.bool xn) (.slice vs l.length vc) (.slice none 0 0) := ZR.same (HB7.block _ (by omega)) HB7.size
   obtain ⟨⟨y0, y1, y2⟩, yz, yf⟩ := id Z7
   have yf1 := yf 1
   clear yf
   go_simp
   refine hK.out _ _ ?_
   clear hK K
   refine sm ?_
   refine wpAnyZ_done (by kernel_rfl) ?_ _
   clear y0 y1 y2 yz yf1
   have A7 : XAt w7 w.heap.size ⟨xn, vx, fx⟩ _ vc1 fs1 fc1 := AR.same (HB7.block _ (by omega)) HB7.size
   have C7 : X3 w7 (w.heap.size + 1) (.bool false) (.slice none 0 0) (.slice none 0 0) := CR.same (HB7.block _ (by omega)) HB7.size
   have L7 := LR.trans (HB7.mono (by omega))
   have z7 : w.heap.size + 1 + 1 + 1 ≤ w7.heap.size := Nat.le_trans zr HB7.size
   have e7 : ∀ b, b ≠ w.heap.size + 1 + 1 → (w7.setCell ⟨w.heap.size + 1 + 1, 1, none⟩ (.slice vs' (l ++ [(⟨vx[k], js, jc⟩ : Gc)]).length vc')).heap[b]? = w7.heap[b]? := fun b hb => Below.heap_setCell _ _ _ _ hb
   have s7 : w7.heap.size ≤ (w7.setCell ⟨w.heap.size + 1 + 1, 1, none⟩ (.slice vs' (l ++ [(⟨vx[k], js, jc⟩ : Gc)]).length vc')).heap.size := by simp [World.setCell]
   clear AR CR ZR SR LR zr HKZ
   go_wp2
   go_roundw
   case rel => exact ⟨k + 1, vs', vc', l ++ [⟨vx[k], js, jc⟩], by omega, by go_num, by first | exact A7.same (e7 _ (by omega)) s7 | (simpa using A7.same (e7 _ (by omega)) s7), by first | exact C7.same (e7 _ (by omega)) s7 | (simpa using C7.same (e7 _ (by omega)) s7), by first | exact Z7.put1 _ | (simpa using Z7.put1 (.slice vs' (l ++ [(⟨vx[k], js, jc⟩ : Gc)]).length vc')), by first | exact S7.old (fun b hb => e7 b (by omega)) s7 | (simpa using S7.old (fun b hb => e7 b (by omega)) s7), by show _ = _; rw [List.map_append, HL.out, List.take_succ_eq_append_getElem hlt]; rfl, by first | exact L7.setCell (by simp only; omega) _ | (simpa using L7.setCell (p := ⟨w.heap.size + 1 + 1, 1, none⟩) (by simp only; omega) (.slice vs' (l ++ [(⟨vx[k], js, jc⟩ : Gc)]).length vc')), by simpa [World.setCell] using z7⟩
   case measure => simp [intOf]; omega
  ·have n1' : ¬ (k : Int) < (vx.length : Int) := by omega
   have et1 : vx.take k = vx := List.take_of_length_le (by omega)
   have HLV : Hid (l.map Gc.g = vx) := by show _ = _; rw [HL.out, et1]
   have GV : VRow (fun b => w.heap.size + 1 + 1 + 1 ≤ b ∧ b < wr.heap.size) wr (w.heap.size + 1 + 1 + 1) (.slice vs l.length vc) l := SR.vrow.mono fun b h1 h2 => ⟨h1, h2⟩
   clear SR LL HL et1
   have zn : w.heap.size + 1 + 1 + 1 ≤ wr.heap.size := zr
   obtain ⟨⟨a0, a1, a2⟩, az, -⟩ := id AR
   generalize hN : wr.heap.size = N at *
   have HNN := hideH hN
   clear hN
   go_wp2
   clear a0 a1 a2 az
   go_loopw [6] (fun i wr => ∃ (k : Nat) (fs : Option Addr) (fc : Nat) (L : List Ro), k ≤ fx.length ∧ i = .int .i64 k ∧ XAt wr w.heap.size ⟨xn, vx, fx⟩ vs1 vc1 fs1 fc1 ∧ X3 wr (w.heap.size + 1) (.bool false) (.slice none 0 0) (.slice none 0 0) ∧ X3 wr (w.heap.size + 1 + 1) (.bool xn) (.slice vs l.length vc) (.slice fs L.length fc) ∧ FRowS wr N (.slice fs L.length fc) L ∧ Hid (L.map roG = fx.take k) ∧ VRow (fun b => w.heap.size + 1 + 1 + 1 ≤ b ∧ b < N) wr (w.heap.size + 1 + 1 + 1) (.slice vs l.length vc) l ∧ Below w.heap.size w wr ∧ N ≤ wr.heap.size) (fun i _ => fx.length - (intOf i).toNat)
   case atStart => exact ⟨0, none, 0, [], Nat.zero_le _, rfl, AR, CR, ZR, FRowS.nil _ _, rfl, GV, LR, by rw [HNN.out]; exact Nat.le_refl _⟩
   case round =>
    clear AR CR ZR GV LR zr HNN
    obtain ⟨k2, fs, fc, L, hk2, rfl, AR, CR, ZR, FR, HL, GV, LR, zr⟩ := hrel
    generalize wr = w6 at *
    clear wr
    have LL : Hid (L.length = k2) := by
     show _ = _
     have h1 := congrArg List.length HL.out
     rw [List.length_map, List.length_take] at h1
     omega
    obtain ⟨⟨a0, a1, a2⟩, az, -⟩ := id AR
    by_cases hlt2 : k2 < fx.length
    ·have n0 : (0 : Int) ≤ (k2 : Int) := by omega
     have n2' : (k2 : Int) < (fx.length : Int) := by omega
     go_wp2
     clear a0 a1 a2 az
     go_loopw [7, 8] (fun r i2 wo => ∃ (m : Nat) (rs : Option Addr) (rc : Nat) (lr : List Gc), m ≤ fx[k2].length ∧ r = .slice rs lr.length rc ∧ i2 = .int .i64 m ∧ Below w6.heap.size w6 wo ∧ SRow wo w6.heap.size (.slice rs lr.length rc) lr ∧ Hid (lr.map Gc.g = fx[k2].take m)) (fun _ i2 _ => fx[k2].length - (intOf i2).toNat)
     case atStart => exact ⟨0, none, 0, [], Nat.zero_le _, rfl, rfl, Below.refl _ _, SRow.nil _ _, rfl⟩
     case round =>
      obtain ⟨m, rs, rc, lr, hm, rfl, rfl, hbo, SR, HM⟩ := hrel
      have h3 := HR.out k2 hlt2
      have LM : Hid (lr.length = m) := by
       show _ = _
       have h1 := congrArg List.length HM.out
       rw [List.length_map, List.length_take] at h1
       omega
      obtain ⟨⟨a0, a1, a2⟩, az, -⟩ := id (AR.call hbo)
      obtain ⟨p1, q1, e1, zp1, r1, rc1, C1, k1, m1, J1⟩ := HX.out.2 k2 hlt2
      have hwo := LR.trans (hbo.mono LR.size)
      have D1 : wr.cell? ⟨p1, q1 + k2, none⟩ = some (.slice r1 fx[k2].length rc1) := by rw [hwo.cell (by simp only; exact zp1)]; exact C1
      subst e1
      clear C1
      by_cases hltm : m < fx[k2].length
      ·have m0 : (0 : Int) ≤ (m : Int) := by omega
       have m1' : (m : Int) < (fx[k2].length : Int) := by omega
       obtain ⟨b1, o1, e1, ss1, g1, G1, I1, l1, l2⟩ := (J1.below hwo (Nat.le_refl _)) m hltm
       subst e1
       have hlk := HR2.out k2 hlt2 _ (List.getElem_mem hltm)
       obtain ⟨⟨q0', q1', q2', q3', q4', q5', q6'⟩, qz'⟩ := id G1
       go_wp2_with (go_at_call 57; fail)
       refine (HO.out fx[k2][m] ss1 g1 _ I1 hlk).mono ?_
       rintro e w7 ⟨⟨js, jc, rfl, HI5, HJ1, HJ2, HF5⟩, hb7⟩
       clear q0' q1' q2' q3' q4' q5' q6' qz' G1 a0 a1 a2 az D1
       have HW8 : Below wr.heap.size wr (w7.alloc (.cells #[.bool fx[k2][m].n, .bool fx[k2][m].sp.n, .int .i64 fx[k2][m].sp.lo, .int .i64 fx[k2][m].sp.hi, .bool fx[k2][m].t, .bool fx[k2][m].f, .slice js fx[k2][m].s.length jc] 61)) := hb7.alloc hb7.size _
       have S8 := SR.call HW8
       have z67 : w6.heap.size ≤ wr.heap.size := hbo.size
       have GX : GcIn (fun b => w6.heap.size ≤ b ∧ (Value.slice rs lr.length rc).ownBlock ≠ some b) (w7.alloc (.cells #[.bool fx[k2][m].n, .bool fx[k2][m].sp.n, .int .i64 fx[k2][m].sp.lo, .int .i64 fx[k2][m].sp.hi, .bool fx[k2][m].t, .bool fx[k2][m].f, .slice js fx[k2][m].s.length jc] 61)) ⟨fx[k2][m], js, jc⟩ := joined_in HI5 HJ1 HJ2 HF5 z67 (fun e => (ownsI_lt SR.1 e).1) (by go_grown) (Nat.le_refl _)
       go_wp2_with (at_builtin; refine wpList_append_any _ rfl _ _ 25 rfl w6.heap.size 61 ti (.agg #[.bool false, .bool false, .int .i64 0, .int .i64 0, .bool false, .bool false, .slice none 0 0]) 7 64 Tryz.underlying25 hi hz0 hz1 hz2 rfl (by decide) _ _ _ rfl S8.1 (some ⟨w7.heap.size, 0, none⟩) 1 1 (gcCells ⟨fx[k2][m], js, jc⟩) rfl rfl (fun h => by cases h) ?qc2 (gcCells_one _) ?qc4 ?qc5 ?qc6 ?_)
       (try (case qc2 => exact news7 w7 ⟨fx[k2][m], js, jc⟩ #[.bool fx[k2][m].n, .bool fx[k2][m].sp.n, .int .i64 fx[k2][m].sp.lo, .int .i64 fx[k2][m].sp.hi, .bool fx[k2][m].t, .bool fx[k2][m].f, .slice js fx[k2][m].s.length jc] _ rfl))
       case qc4 => unfold maxLen; have := LM.out; omega
       case qc5 => have := LM.out; omega
       (try (case qc6 => have := hb7.size; first | omega | (rw [World.size_alloc]; omega) | (simp; omega) | simp))
       intro v' w9 hown hgrow hat
       have S9 := S8.grown (x := ⟨fx[k2][m], js, jc⟩) GX hown hgrow (by rw [World.size_alloc]; exact hat)
       have hb9 : Below w6.heap.size w6 w9 := (hbo.trans (HW8.mono hbo.size)).grown hgrow (by rw [World.size_alloc]; have := hb7.size; omega) (fun k hk => (ownsI_lt S8.1 hk).2)
       obtain ⟨rs', rc', rfl, -, -, -⟩ := S9.in
       clear SR hbo hown hgrow hat S8 GX HW8 HI5 HF5
       go_wp2
       go_roundw
       case rel => exact ⟨m + 1, rs', rc', lr ++ [⟨fx[k2][m], js, jc⟩], by omega, by first | rfl | (rw [List.length_append]; rfl), by go_num, hb9, S9, by show _ = _; rw [List.map_append, HM.out, List.take_succ_eq_append_getElem hltm]; rfl⟩
       case measure => simp [intOf]; omega
      ·have m1' : ¬ (m : Int) < (fx[k2].length : Int) := by omega
       have et1 : fx[k2].take m = fx[k2] := List.take_of_length_le (by omega)
       have HRL : Hid (roG ⟨rs, rc, lr⟩ = fx[k2]) := by show lr.map Gc.g = _; rw [HM.out, et1]
       have A9 := AR.call hbo
       have C9 := CR.call hbo
       have Z9 := ZR.call hbo
       have F9 := FR.call hbo
       have V9 := GV.call hbo
       have L9 := hwo
       have z9 : N ≤ wr.heap.size := Nat.le_trans zr hbo.size
       have z69 := zr
       clear AR CR ZR GV LR zr LM HM hwo et1
       generalize wr = w9 at *
       clear wr
       obtain ⟨⟨y0, y1, y2⟩, yz, yf⟩ := id Z9
       have hba : Below w6.heap.size w6 (w9.alloc (.cells #[.slice rs lr.length rc] 25)) := hbo.alloc hbo.size _
       have F10 := FR.call hba
       have VX : VRow (fun b => w6.heap.size ≤ b) (w9.alloc (.cells #[.slice rs lr.length rc] 25)) w6.heap.size (roV ⟨rs, rc, lr⟩) lr := SR.vrow.call (by go_grown)
       go_wp2_with (at_builtin; refine wpList_append_any _ rfl _ _ 26 rfl N 25 tk (.slice none 0 0) 1 24 Tryz.underlying26 hk hx0 hx1 hx2 rfl (by decide) _ _ _ rfl F10.own (some ⟨w9.heap.size, 0, none⟩) 1 1 [.slice rs lr.length rc] rfl rfl (fun h => by cases h) ?qc2 (by intro u hu; rw [List.mem_singleton.1 hu]; rfl) ?qc4 ?qc5 ?qc6 ?_)
       (try (case qc2 => exact news1 w9 _ _))
       case qc4 => unfold maxLen; have := LL.out; omega
       case qc5 => have := LL.out; omega
       (try (case qc6 => first | omega | (rw [World.size_alloc]; omega) | (simp; omega) | simp))
       intro v' w10 hown hgrow hat
       have F11 := FR.grown hba z69 (x := ⟨rs, rc, lr⟩) VX hown hgrow (by rw [World.size_alloc]; exact hat)
       have hb10 : Below N w9 w10 := ((Below.refl _ w9).alloc z9 _).grown hgrow (by simp; omega) (fun k hk => (ownsI_lt F10.own hk).2)
       obtain ⟨fs', fc', rfl⟩ := F11.form
       clear hown hgrow hat F10 F9 FR SR hbo hba VX y0 y1 y2 yz yf a0 a1 a2 az D1
       have A4 : XAt w10 w.heap.size ⟨xn, vx, fx⟩ _ vc1 _ fc1 := A9.same (hb10.block _ (by omega)) hb10.size
       have C4 : X3 w10 (w.heap.size + 1) (.bool false) (.slice none 0 0) (.slice none 0 0) := C9.same (hb10.block _ (by omega)) hb10.size
       have Z4 : X3 w10 (w.heap.size + 1 + 1) (.bool xn) (.slice vs l.length vc) (.slice fs L.length fc) := Z9.same (hb10.block _ (by omega)) hb10.size
       have V4 : VRow (fun b => w.heap.size + 1 + 1 + 1 ≤ b ∧ b < N) w10 (w.heap.size + 1 + 1 + 1) (.slice vs l.length vc) l := V9.same (fun b hS _ => hb10.block b hS.2) hb10.size
       have L4 := L9.trans (hb10.mono (by omega))
       have z4 : N ≤ w10.heap.size := Nat.le_trans z9 hb10.size
       clear A9 C9 Z9 V9 L9 z9 hb10
       obtain ⟨⟨y0, y1, y2⟩, yz, yf⟩ := id Z4
       have yf2 := yf 2
       clear yf
       have e7 : ∀ (x : Value) b, b ≠ w.heap.size + 1 + 1 → (w10.setCell ⟨w.heap.size + 1 + 1, 2, none⟩ x).heap[b]? = w10.heap[b]? := fun x b hb => Below.heap_setCell _ _ _ _ hb
       have s7 : ∀ (x : Value), w10.heap.size ≤ (w10.setCell ⟨w.heap.size + 1 + 1, 2, none⟩ x).heap.size := fun x => by simp [World.setCell]
       have E7 := hideH e7
       have S7 := hideH s7
       clear e7 s7
       go_wp2
       go_roundw
       case rel => exact ⟨k2 + 1, fs', fc', L ++ [⟨rs, rc, lr⟩], by omega, by go_num, A4.same (E7.out _ _ (by omega)) (S7.out _), C4.same (E7.out _ _ (by omega)) (S7.out _), by first | exact Z4.put2 _ | (rw [List.length_append]; exact Z4.put2 _), F11.olden (fun b hb _ => E7.out _ b (by omega)) (S7.out _), by show _ = _; rw [List.map_append, HL.out, List.take_succ_eq_append_getElem hlt2, List.map_cons, HRL.out]; rfl, V4.same (fun b hS _ => E7.out _ b (by omega)) (S7.out _), L4.setCell (by simp only; omega) _, by simpa [World.setCell] using z4⟩
       case measure => simp [intOf]; omega
    ·have n2' : ¬ (k2 : Int) < (fx.length : Int) := by omega
     have et1 : fx.take k2 = fx := List.take_of_length_le (by omega)
     have hch : ∀ b, b ≠ w.heap.size + 1 → (((w6.setCell ⟨w.heap.size + 1, 0, none⟩ (.bool xn)).setCell ⟨w.heap.size + 1, 1, none⟩ (.slice vs l.length vc)).setCell ⟨w.heap.size + 1, 2, none⟩ (.slice fs L.length fc)).heap[b]? = w6.heap[b]? := fun b hb => by rw [Below.heap_setCell _ _ _ _ hb, Below.heap_setCell _ _ _ _ hb, Below.heap_setCell _ _ _ _ hb]
     have hcz : w6.heap.size ≤ (((w6.setCell ⟨w.heap.size + 1, 0, none⟩ (.bool xn)).setCell ⟨w.heap.size + 1, 1, none⟩ (.slice vs l.length vc)).setCell ⟨w.heap.size + 1, 2, none⟩ (.slice fs L.length fc)).heap.size := by simp [World.setCell]
     have FX := FR.olden (w' := (((w6.setCell ⟨w.heap.size + 1, 0, none⟩ (.bool xn)).setCell ⟨w.heap.size + 1, 1, none⟩ (.slice vs l.length vc)).setCell ⟨w.heap.size + 1, 2, none⟩ (.slice fs L.length fc))) (fun b hb _ => hch b (by omega)) hcz
     have GX := GV.same (w' := (((w6.setCell ⟨w.heap.size + 1, 0, none⟩ (.bool xn)).setCell ⟨w.heap.size + 1, 1, none⟩ (.slice vs l.length vc)).setCell ⟨w.heap.size + 1, 2, none⟩ (.slice fs L.length fc))) (fun b hS _ => hch b (by omega)) hcz
     have BX : Below w.heap.size w (((w6.setCell ⟨w.heap.size + 1, 0, none⟩ (.bool xn)).setCell ⟨w.heap.size + 1, 1, none⟩ (.slice vs l.length vc)).setCell ⟨w.heap.size + 1, 2, none⟩ (.slice fs L.length fc)) := ((LR.setCell (by simp only; omega) _).setCell (by simp only; omega) _).setCell (by simp only; omega) _
     have PX := ((FX.pic GX (fun b h => h) zn).mono (T' := fun b => w.heap.size ≤ b) fun b hb _ => by omega).down (C := w.heap.size) (by omega)
     have HPX : Hid (PicC w.heap.size (((w6.setCell ⟨w.heap.size + 1, 0, none⟩ (.bool xn)).setCell ⟨w.heap.size + 1, 1, none⟩ (.slice vs l.length vc)).setCell ⟨w.heap.size + 1, 2, none⟩ (.slice fs L.length fc)) (.returned (.agg #[.bool xn, .slice vs l.length vc, .slice fs L.length fc])) ⟨xn, vx, fx⟩) := ⟨⟨vs, vc, l⟩, fs, fc, L, by unfold picOf; rw [show roG ⟨vs, vc, l⟩ = vx from HLV.out, HL.out, et1], rfl, PX⟩
     obtain ⟨⟨y0, y1, y2⟩, yz, yf⟩ := id ZR
     obtain ⟨⟨d0, d1, d2⟩, dz, df⟩ := id CR
     have f0 := df 0
     have f1 := df 1
     have f2 := df 2
     clear df yf hch hcz FX GX et1 PX
     go_wp2
     refine bodyPost_ret (v := .agg #[.bool xn, .slice vs l.length vc, .slice fs L.length fc]) (by simp [results, Tryz.results20, go_sem, d0, d1, d2]) rfl ⟨HPX.out, BX⟩
end
section
open Go.RowKit
attribute [local go_sem ↓] Go.wp_at_zero Go.wp_at_succ

theorem copyPicture_any {V F : Int} {c : List Ins} {i : Ins} {at_ : Int} (x : Pic) (vs : Option Addr) (vc : Nat) (fs : Option Addr) (fc : Nat) (w : World) (hx : PicAt w x vs fs) (K : SCtx V F c x vc fc i at_) :
  Calls Tryz.prog 20 #[xv x vs vc fs fc] w fun e w' => PicC w.heap.size w' e x ∧ Below w.heap.size w w' := by
 have h := K.lens
 have kx := K.kx
 have hs : ∀ {g : Gs}, ckGs c g = 0 → g.s.length ≤ 1000000 := fun hg => by
  have := rising_len (ckGs_iff.1 hg).2.2 (ckGs_sites h.2.1 hg).1
  omega
 obtain ⟨xn, vx, fx⟩ := x
 exact copyPicture_main xn vx fx vs vc fs fc w hx (by simp only at h; omega) (by simp only at h; omega) (fun k hk => by have := kx.row k hk; simp only at this; omega) (fun g hg => hs (kx.gv g hg)) (fun k hk g hg => hs (kx.gf k hk g hg))
/-- What the document's step holds ahead of its switch. -/
structure SPre (T : Nat → Prop) (V F : Int) (s : Option Addr) (c : List Ins) (cap : Nat) (at_ : Int) (i : Ins) (x : Pic) (vs : Option Addr) (vc : Nat) (fs : Option Addr) (fc : Nat) (w wp : World) (ib yb ob ab bb tb : Nat) (wY : World) (v : Ro) (gs : Option Addr) (gc : Nat) (L : List Ro) (ga : Gs) (sa : Option Addr) (ca : Nat) (gb : Gs) (sb : Option Addr) (cb : Nat) : Prop where
 low : Below w.heap.size w wp
 prg : Cells wp w.heap.size [.int .i64 V, .int .i64 F, .slice s c.length cap]
 pic : Cells wp (w.heap.size + 1) [.bool false, .slice vs x.vars.length vc, .slice fs x.flds.length fc]
 ins : Cells wp ib [.int .i64 i.k, .int .i64 i.tgt, .int .i64 i.a, .int .i64 i.b, .int .i64 i.n, .int .i64 i.g]
 y : Cells wp yb [.bool false, .slice v.rs v.l.length v.rc, .slice gs L.length gc]
 on : Cells wp ob [.int .i64 (at_ + 1), .bool false, .slice v.rs v.l.length v.rc, .slice gs L.length gc]
 va : Cells wp ab [.bool ga.n, .bool ga.sp.n, .int .i64 ga.sp.lo, .int .i64 ga.sp.hi, .bool ga.t, .bool ga.f, .slice sa ga.s.length ca]
 vb : Cells wp bb [.bool gb.n, .bool gb.sp.n, .int .i64 gb.sp.lo, .int .i64 gb.sp.hi, .bool gb.t, .bool gb.f, .slice sb gb.s.length cb]
 tg : Cells wp tb [.bool false, .bool true, .int .i64 0, .int .i64 0, .bool false, .bool false, .slice none 0 0]
 ga : IntsIn T w sa ga.s ∧ ga.s.length ≤ ca ∧ ca ≤ maxLen
 gb : IntsIn T w sb gb.s ∧ gb.s.length ≤ cb ∧ cb ≤ maxLen
 own : PicG (fun b => w.heap.size ≤ b) (w.heap.size + 1 + 1 + 1) wY v gs gc L
 yw : Below wY.heap.size wY wp
 yb : yb = wY.heap.size
 pv : x = picOf false v L
 ord : ib = w.heap.size + 1 + 1 ∧ w.heap.size + 1 + 1 + 1 ≤ wY.heap.size ∧ wY.heap.size < ob ∧ ob < ab ∧ ab < bb ∧ bb < tb
section
variable {S T' : Nat → Prop} {w : World} {ob B : Nat} {to_ : Int} {v : Ro} {gs : Option Addr} {gc : Nat} {L : List Ro} {x' : Pic}
theorem eds_one (hO : Cells w ob [.int .i64 to_, .bool false, .slice v.rs v.l.length v.rc, .slice gs L.length gc]) (hS : S ob) (hP : PicG T' B w v gs gc L) (hT : ∀ b, T' b → S b) (hB : ∀ b, B ≤ b → S b) (hx : x' = picOf false v L) : EdsOn S w (some ⟨ob, 0, none⟩) [⟨to_, x'⟩] := by
 intro i hi
 have h0 : i = 0 := by simp at hi; omega
 subst h0
 subst hx
 have l1 : (picOf false v L).vars.length = v.l.length := by simp [picOf, roG]
 have l2 : (picOf false v L).flds.length = L.length := by simp [picOf]
 refine ⟨ob, 0, rfl, hS, hO.2.1, v.rs, v.rc, gs, gc, ?_, (hP.on false).mono fun b hb _ => hb.elim (hT b) (hB b), hP.vcap false, hP.fcap' false⟩
 simp only [List.getElem_cons_zero, l1, l2, Nat.zero_mul, Nat.add_zero, Nat.zero_add]
 exact ⟨hO.1 0 _ rfl, hO.1 1 _ rfl, hO.1 2 _ rfl, hO.1 3 _ rfl⟩
end
/-- Sites that lie in older memory, or behind the copy's, lie away from its rows. -/
theorem gc_away {T : Nat → Prop} {n B : Nat} {wY wx : World} {v : Ro} {gs : Option Addr} {gc : Nat} {L : List Ro} {y : Gc} (G : PicG (fun b => n ≤ b) B wY v gs gc L) (hB : n ≤ B) (hN : n ≤ wY.heap.size) (h : IntsIn (fun b => (T b ∧ b < n) ∨ wY.heap.size ≤ b) wx y.ss y.g.s) (h1 : y.g.s.length ≤ y.cap) (h2 : y.cap ≤ maxLen) : GcIn (fun b => (T b ∨ n ≤ b) ∧ Off v (Value.slice gs L.length gc).ownBlock L b) wx y := by
 have hz := G.vars
 refine ⟨h.mono fun b hb _ => ?_, h1, h2⟩
 have rowlt : ∀ q, roB v = some q → q < wY.heap.size ∧ B ≤ q := fun q hq => G.vars.lt hq
 have fldlt : ∀ q, (Value.slice gs L.length gc).ownBlock = some q → q < wY.heap.size ∧ B ≤ q := fun q hq => ownsI_lt G.flds hq
 have reslt : ∀ r ∈ L, ∀ q, roB r = some q → q < wY.heap.size ∧ B ≤ q := fun r hr q hq => (G.rows r hr).lt hq
 rcases hb with ⟨hb, hlt⟩ | hb
 ·exact ⟨.inl hb, fun e => by have := rowlt b e; omega, fun e => by have := fldlt b e; omega, fun r hr e => by have := reslt r hr b e; omega⟩
 ·exact ⟨.inr (Nat.le_trans hN hb), fun e => by have := rowlt b e; omega, fun e => by have := fldlt b e; omega, fun r hr e => by have := reslt r hr b e; omega⟩
end
section
set_option maxHeartbeats 8000000
set_option maxRecDepth 20000
open Go.RowKit
attribute [local go_sem ↓] Go.wp_at_zero Go.wp_at_succ

/-- The text behind n statements. -/
def dropO : Nat → Option Code → Option Code
 | 0, o => o
 | n + 1, some (.seq _ b) => dropO n (some b)
 | _ + 1, _ => none
/-- The document's step from its switch on. -/
def SwT (R : Ending → World → Prop) (m : Nat) (w w3 w4 w7 w11 wp : World) : Prop := ∀ (z0 z2 z4 : Value) (tl : List Value), tl.length = 322 → ∃ c, dropO 10 Tryz.f7.body = some c ∧ c.wp Tryz.prog (bodyPost Tryz.prog Tryz.f7 R) ⟨(z0 :: .int .i64 (m : Int) :: z2 :: .pointer (some ⟨w.heap.size, 0, none⟩) :: z4 :: .pointer (some ⟨w.heap.size + 1, 0, none⟩) :: .slice none 0 0 :: .bool false :: .bool false :: .pointer (some ⟨w.heap.size + 1 + 1, 0, none⟩) :: .pointer (some ⟨w3.heap.size, 0, none⟩) :: .slice (some ⟨w4.heap.size, 0, none⟩) 1 1 :: .pointer (some ⟨w7.heap.size, 0, none⟩) :: .pointer (some ⟨w7.heap.size + 1, 0, none⟩) :: .pointer (some ⟨w11.heap.size, 0, none⟩) :: .bool false :: tl).toArray, []⟩ wp
theorem list_u (l : List Value) (n : Nat) (h : l.length = n) : ∃ u : Nat → Value, l = (List.range n).map u := ⟨fun k => l.getD k (.bool false), by
 refine List.ext_getElem (by simp [h]) fun k h1 h2 => ?_
 simp [List.getD, h1]⟩
theorem sw_of {R : Ending → World → Prop} {m : Nat} {w w3 w4 w7 w11 wp : World} {c : Code} (hc : dropO 10 Tryz.f7.body = some c) (h : ∀ (z0 z2 z4 : Value) (u : Nat → Value), c.wp Tryz.prog (bodyPost Tryz.prog Tryz.f7 R) ⟨(z0 :: .int .i64 (m : Int) :: z2 :: .pointer (some ⟨w.heap.size, 0, none⟩) :: z4 :: .pointer (some ⟨w.heap.size + 1, 0, none⟩) :: .slice none 0 0 :: .bool false :: .bool false :: .pointer (some ⟨w.heap.size + 1 + 1, 0, none⟩) :: .pointer (some ⟨w3.heap.size, 0, none⟩) :: .slice (some ⟨w4.heap.size, 0, none⟩) 1 1 :: .pointer (some ⟨w7.heap.size, 0, none⟩) :: .pointer (some ⟨w7.heap.size + 1, 0, none⟩) :: .pointer (some ⟨w11.heap.size, 0, none⟩) :: .bool false :: (List.range 322).map u).toArray, []⟩ wp) : SwT R m w w3 w4 w7 w11 wp := fun z0 z2 z4 tl hl => by
 obtain ⟨u, rfl⟩ := list_u tl _ hl
 exact ⟨c, hc, h z0 z2 z4 u⟩
section
variable {P : Program} {Q : Exit → Act → World → Prop} {a : Act} {w : World}
theorem drop_wp {o : Option Code} {c : Code} (h : o = some c) (hw : ∃ c, o = some c ∧ c.wp P Q a w) : c.wp P Q a w := by
 obtain ⟨d, hd, hw⟩ := hw
 cases h.symm.trans hd
 exact hw
end
theorem stepPre_ff {T : Nat → Prop} {V F : Int} {s : Option Addr} {c : List Ins} {cap m : Nat} {i : Ins} {x : Pic} {vs : Option Addr} {vc : Nat} {fs : Option Addr} {fc : Nat} {w : World} (hc : CodeAt w s c) (hx : PicOn T w x vs fs) (K : SCtx V F c x vc fc i (m : Int)) (hnA : nA i.k = false) (hnB : nB i.k = false) (H : ∀ (w3 w4 w7 w11 wp : World) (v : Ro) (gs : Option Addr) (gc : Nat) (L : List Ro) , Hid (SPre T V F s c cap (m : Int) i x vs vc fs fc w wp (w.heap.size + 1 + 1) w3.heap.size w4.heap.size w7.heap.size (w7.heap.size + 1) w11.heap.size w3 v gs gc L noneG none 0 noneG none 0) → SwT (fun e w' => StpAns (fun b => T b ∨ w.heap.size ≤ b) w' e (stepPic i (m : Int) x) ∧ Below w.heap.size w w') m w w3 w4 w7 w11 wp) :
  Calls Tryz.prog 7 #[pv V F s c cap, .int .i64 (m : Int), xv x vs vc fs fc] w fun e w' => StpAns (fun b => T b ∨ w.heap.size ≤ b) w' e (stepPic i (m : Int) x) ∧ Below w.heap.size w w' := by
 have HH := hideH H
 clear H
 have hn := K.kx.none
 have ha1 := K.a1
 have hm : m < c.length := by omega
 have hcm : c[m] = i := by rw [K.hi]; unfold insAt; simp [List.getD, hm]
 have h60 := K.lens.2.1
 have HIN := hideH hx.in
 have exv : xv x vs vc fs fc = .agg #[.bool false, .slice vs x.vars.length vc, .slice fs x.flds.length fc] := by unfold xv; rw [hn]
 rw [exv]
 have HCP : Hid (∀ wx, Below w.heap.size w wx → Calls Tryz.prog 20 #[.agg #[.bool false, .slice vs x.vars.length vc, .slice fs x.flds.length fc]] wx fun e w' => (∃ v gs gc L, x = picOf false v L ∧ e = .returned (.agg #[.bool false, .slice v.rs v.l.length v.rc, .slice gs L.length gc]) ∧ PicG (fun b => wx.heap.size ≤ b) wx.heap.size w' v gs gc L) ∧ Below wx.heap.size wx w') := fun wx hb => by
  have h := copyPicture_any x vs vc fs fc wx ((hx.at).below hb (Nat.le_refl _)) K
  rw [exv] at h
  refine h.mono ?_
  rintro e w' ⟨⟨v, gs, gc, L, h1, h2, h3⟩, h4⟩
  rw [hn] at h1 h2
  exact ⟨⟨v, gs, gc, L, h1, h2, h3⟩, h4⟩
 have hb1 : Below w.heap.size w ((w.alloc (.cells #[.int .i64 V, .int .i64 F, .slice s c.length cap] 24)).alloc (.cells #[.bool false, .slice vs x.vars.length vc, .slice fs x.flds.length fc] 28)) := by go_grown
 have P1 : Cells ((w.alloc (.cells #[.int .i64 V, .int .i64 F, .slice s c.length cap] 24)).alloc (.cells #[.bool false, .slice vs x.vars.length vc, .slice fs x.flds.length fc] 28)) w.heap.size [.int .i64 V, .int .i64 F, .slice s c.length cap] := (Cells.new w 24 [.int .i64 V, .int .i64 F, .slice s c.length cap]).call (by go_grown)
 have X1 : Cells ((w.alloc (.cells #[.int .i64 V, .int .i64 F, .slice s c.length cap] 24)).alloc (.cells #[.bool false, .slice vs x.vars.length vc, .slice fs x.flds.length fc] 28)) (w.heap.size + 1) [.bool false, .slice vs x.vars.length vc, .slice fs x.flds.length fc] := by
  have h := Cells.new (w.alloc (.cells #[.int .i64 V, .int .i64 F, .slice s c.length cap] 24)) 28 [.bool false, .slice vs x.vars.length vc, .slice fs x.flds.length fc]
  rw [World.size_alloc] at h
  exact h
 have HZ1 : Hid (((w.alloc (.cells #[.int .i64 V, .int .i64 F, .slice s c.length cap] 24)).alloc (.cells #[.bool false, .slice vs x.vars.length vc, .slice fs x.flds.length fc] 28)).heap.size = w.heap.size + 1 + 1) := by show _ = _; simp
 obtain ⟨cb0, co, es, hcb, hci⟩ := (hc.below hb1 (Nat.le_refl _)).get m hm
 obtain ⟨j0, j1, j2, j3, j4, j5⟩ := hci m hm
 rw [hcm] at j0 j1 j2 j3 j4 j5
 have HES : Hid (s = some ⟨cb0, co, none⟩) := es
 clear es
 have n0 : (0 : Int) ≤ (m : Int) := by omega
 have n1 : (m : Int) < (c.length : Int) := by omega
 have HNA : Hid (∀ wx, Calls Tryz.prog 22 #[.int .i64 i.k] wx fun e w' => e = .returned (.bool false) ∧ w' = wx) := fun wx => by have h := namesA_any i.k wx; rw [hnA] at h; exact h
 have HNB : Hid (∀ wx, Calls Tryz.prog 23 #[.int .i64 i.k] wx fun e w' => e = .returned (.bool false) ∧ w' = wx) := fun wx => by have h := namesB_any i.k wx; rw [hnB] at h; exact h
 skip
 skip
 skip
 skip
 skip
 skip
 have HK := hideH K
 have HX := hideH hx
 have HCM := hideH hcm
 clear hc hx K hn exv hci hcm
 clear hnA hnB
 have w61 : (m : Int) ≤ 60 := by omega
 go_enter Tryz.func7, Tryz.ntmps7
 go_upto_region 3 with fail
 generalize ((w.alloc (.cells #[.int .i64 V, .int .i64 F, .slice s c.length cap] 24)).alloc (.cells #[.bool false, .slice vs x.vars.length vc, .slice fs x.flds.length fc] 28)) = w1 at *
 have p2 := P1.1 2 _ rfl
 rw [HES.out] at p2
 go_upto_region 4 with fail
 clear p2 j0 j1 j2 j3 j4 j5
 have hb2 : Below w1.heap.size w1 (w1.alloc (.cells #[.int .i64 i.k, .int .i64 i.tgt, .int .i64 i.a, .int .i64 i.b, .int .i64 i.n, .int .i64 i.g] 51)) := by go_grown
 have I2 : Cells (w1.alloc (.cells #[.int .i64 i.k, .int .i64 i.tgt, .int .i64 i.a, .int .i64 i.b, .int .i64 i.n, .int .i64 i.g] 51)) w1.heap.size [.int .i64 i.k, .int .i64 i.tgt, .int .i64 i.a, .int .i64 i.b, .int .i64 i.n, .int .i64 i.g] := Cells.new w1 51 [.int .i64 i.k, .int .i64 i.tgt, .int .i64 i.a, .int .i64 i.b, .int .i64 i.n, .int .i64 i.g]
 have HZ2 : Hid ((w1.alloc (.cells #[.int .i64 i.k, .int .i64 i.tgt, .int .i64 i.a, .int .i64 i.b, .int .i64 i.n, .int .i64 i.g] 51)).heap.size = w.heap.size + 1 + 1 + 1) := by show _ = _; rw [World.size_alloc, HZ1.out]
 rw [HZ1.out] at I2
 rw [HZ1.out]
 generalize w1.alloc (.cells #[.int .i64 i.k, .int .i64 i.tgt, .int .i64 i.a, .int .i64 i.b, .int .i64 i.n, .int .i64 i.g] 51) = w2 at *
 have P2 := P1.call hb2
 have X2 := X1.call hb2
 have B2 := hb1.trans (hb2.mono hb1.size)
 have x0 := X2.1 0 _ rfl
 have x1 := X2.1 1 _ rfl
 have x2 := X2.1 2 _ rfl
 clear P1 X1 hb1 hb2 HZ1
 go_wp2_with (go_at_call 20; fail)
 refine (HCP.out w2 B2).mono ?_
 rintro e w3 ⟨⟨v, gs, gc, L, EX0, rfl, PG⟩, hb3⟩
 have EX := hideH EX0
 clear EX0 x0 x1 x2 HCP
 have HNO : Hid (∀ wx, Calls Tryz.prog 21 #[] wx fun e w' => e = .returned (.agg #[.bool false, .bool true, .int .i64 0, .int .i64 0, .bool false, .bool false, .slice none 0 0]) ∧ Below wx.heap.size wx w') := fun wx => nothingR_any wx
 go_upto_region 5 with fail
 have hb4 : Below w3.heap.size w3 (w3.alloc (.cells #[.bool false, .slice v.rs v.l.length v.rc, .slice gs L.length gc] 28)) := by go_grown
 have Y4 : Cells (w3.alloc (.cells #[.bool false, .slice v.rs v.l.length v.rc, .slice gs L.length gc] 28)) w3.heap.size [.bool false, .slice v.rs v.l.length v.rc, .slice gs L.length gc] := Cells.new w3 28 [.bool false, .slice v.rs v.l.length v.rc, .slice gs L.length gc]
 have Z4 : Hid ((w3.alloc (.cells #[.bool false, .slice v.rs v.l.length v.rc, .slice gs L.length gc] 28)).heap.size = w3.heap.size + 1) := by show _ = _; simp
 generalize w3.alloc (.cells #[.bool false, .slice v.rs v.l.length v.rc, .slice gs L.length gc] 28) = w4 at *
 have y0 := Y4.1 0 _ rfl
 have y1 := Y4.1 1 _ rfl
 have y2 := Y4.1 2 _ rfl
 go_upto_region 6 with fail
 clear y0 y1 y2
 have hb5 : Below w4.heap.size w4 (w4.alloc (.cells #[.int .i64 ((m : Int) + 1), .bool false, .slice v.rs v.l.length v.rc, .slice gs L.length gc] 56)) := by go_grown
 have O5 : Cells (w4.alloc (.cells #[.int .i64 ((m : Int) + 1), .bool false, .slice v.rs v.l.length v.rc, .slice gs L.length gc] 56)) w4.heap.size [.int .i64 ((m : Int) + 1), .bool false, .slice v.rs v.l.length v.rc, .slice gs L.length gc] := Cells.new w4 56 [.int .i64 ((m : Int) + 1), .bool false, .slice v.rs v.l.length v.rc, .slice gs L.length gc]
 generalize w4.alloc (.cells #[.int .i64 ((m : Int) + 1), .bool false, .slice v.rs v.l.length v.rc, .slice gs L.length gc] 56) = w5 at *
 go_wp2_with (go_at_call 21; fail)
 refine (HNO.out w5).mono ?_
 rintro e w6 ⟨rfl, hb6⟩
 go_wp2_with (go_at_call 21; fail)
 refine (HNO.out w6).mono ?_
 rintro e w7 ⟨rfl, hb7⟩
 go_upto_region 7 with fail
 have hb8 : Below w7.heap.size w7 ((w7.alloc (.cells #[.bool false, .bool true, .int .i64 0, .int .i64 0, .bool false, .bool false, .slice none 0 0] 61)).alloc (.cells #[.bool false, .bool true, .int .i64 0, .int .i64 0, .bool false, .bool false, .slice none 0 0] 61)) := by go_grown
 have A8 : Cells ((w7.alloc (.cells #[.bool false, .bool true, .int .i64 0, .int .i64 0, .bool false, .bool false, .slice none 0 0] 61)).alloc (.cells #[.bool false, .bool true, .int .i64 0, .int .i64 0, .bool false, .bool false, .slice none 0 0] 61)) w7.heap.size [.bool false, .bool true, .int .i64 0, .int .i64 0, .bool false, .bool false, .slice none 0 0] := (Cells.new w7 61 [.bool false, .bool true, .int .i64 0, .int .i64 0, .bool false, .bool false, .slice none 0 0]).call (by go_grown)
 have E8 : Cells ((w7.alloc (.cells #[.bool false, .bool true, .int .i64 0, .int .i64 0, .bool false, .bool false, .slice none 0 0] 61)).alloc (.cells #[.bool false, .bool true, .int .i64 0, .int .i64 0, .bool false, .bool false, .slice none 0 0] 61)) (w7.heap.size + 1) [.bool false, .bool true, .int .i64 0, .int .i64 0, .bool false, .bool false, .slice none 0 0] := by
  have h := Cells.new (w7.alloc (.cells #[.bool false, .bool true, .int .i64 0, .int .i64 0, .bool false, .bool false, .slice none 0 0] 61)) 61 [.bool false, .bool true, .int .i64 0, .int .i64 0, .bool false, .bool false, .slice none 0 0]
  rw [World.size_alloc] at h
  exact h
 generalize (w7.alloc (.cells #[.bool false, .bool true, .int .i64 0, .int .i64 0, .bool false, .bool false, .slice none 0 0] 61)).alloc (.cells #[.bool false, .bool true, .int .i64 0, .int .i64 0, .bool false, .bool false, .slice none 0 0] 61) = w8 at *
 have hb48 : Below w4.heap.size w4 w8 := hb5.trans (((hb6.trans (hb7.mono hb6.size)).trans (hb8.mono (hb6.trans (hb7.mono hb6.size)).size)).mono hb5.size)
 have hb28 : Below w2.heap.size w2 w8 := (hb3.trans (hb4.mono hb3.size)).trans (hb48.mono (hb3.trans (hb4.mono hb3.size)).size)
 have hb38 : Below w3.heap.size w3 w8 := hb4.trans (hb48.mono hb4.size)
 have O8 := O5.call ((hb6.trans (hb7.mono hb6.size)).trans (hb8.mono (hb6.trans (hb7.mono hb6.size)).size))
 have P8 := P2.call hb28
 have X8 := X2.call hb28
 have I8 := I2.call hb28
 have Y8 := Y4.call hb48
 have B8 := B2.trans (hb28.mono B2.size)
 have HORD : Hid (w.heap.size + 1 + 1 + 1 ≤ w3.heap.size ∧ w3.heap.size < w4.heap.size ∧ w4.heap.size < w7.heap.size) := by
  have h1 := hb3.size
  have h2 := HZ2.out
  have h3 := Z4.out
  have h4 := hb6.size
  have h5 := hb7.size
  have h6 := O5.2.1
  exact ⟨by omega, by omega, by omega⟩
 have HPG : Hid (PicG (fun b => w.heap.size ≤ b) (w.heap.size + 1 + 1 + 1) w3 v gs gc L) := by
  show PicG _ _ _ _ _ _ _
  rw [← HZ2.out]
  exact PG.mono fun b hb _ => by have := HZ2.out; omega
 have HB8 := hideH hb38
 clear PG hb3 hb4 hb5 hb6 hb7 hb8 hb48 hb28 hb38 P2 X2 I2 Y4 O5 B2 Z4 HZ2
 have i0 := I8.1 0 _ rfl
 go_wp2_with (go_at_call 22; fail)
 refine (HNA.out w8).mono ?_
 rintro e wz ⟨rfl, ew⟩
 rw [ew]
 clear ew wz
 have A9 := A8
 have E9 := E8
 have P9 := P8
 have X9 := X8
 have I9 := I8
 have Y9 := Y8
 have O9 := O8
 have B9 := B8
 have HB9 := HB8
 clear A8 E8 P8 X8 I8 Y8 O8 B8 HB8
 generalize w8 = w9 at *
 go_wp2_with (go_at_call 23; fail)
 refine (HNB.out w9).mono ?_
 rintro e wz ⟨rfl, ew⟩
 rw [ew]
 clear ew wz
 have A10 := A9
 have E10 := E9
 have P10 := P9
 have X10 := X9
 have I10 := I9
 have Y10 := Y9
 have O10 := O9
 have B10 := B9
 have HB10 := HB9
 clear A9 E9 P9 X9 I9 Y9 O9 B9 HB9
 generalize w9 = w10 at *
 go_wp2_with (go_at_call 21; fail)
 refine (HNO.out w10).mono ?_
 rintro e w11 ⟨rfl, hb11⟩
 clear i0
 go_upto_region 12 with fail
 have hb12 : Below w11.heap.size w11 (w11.alloc (.cells #[.bool false, .bool true, .int .i64 0, .int .i64 0, .bool false, .bool false, .slice none 0 0] 61)) := by go_grown
 have T12 : Cells (w11.alloc (.cells #[.bool false, .bool true, .int .i64 0, .int .i64 0, .bool false, .bool false, .slice none 0 0] 61)) w11.heap.size [.bool false, .bool true, .int .i64 0, .int .i64 0, .bool false, .bool false, .slice none 0 0] := Cells.new w11 61 [.bool false, .bool true, .int .i64 0, .int .i64 0, .bool false, .bool false, .slice none 0 0]
 have hb1012 : Below w10.heap.size w10 (w11.alloc (.cells #[.bool false, .bool true, .int .i64 0, .int .i64 0, .bool false, .bool false, .slice none 0 0] 61)) := hb11.trans (hb12.mono hb11.size)
 generalize w11.alloc (.cells #[.bool false, .bool true, .int .i64 0, .int .i64 0, .bool false, .bool false, .slice none 0 0] 61) = wp at *
 have SP : Hid (SPre T V F s c cap (m : Int) i x vs vc fs fc w wp (w.heap.size + 1 + 1) w3.heap.size w4.heap.size w7.heap.size (w7.heap.size + 1) w11.heap.size w3 v gs gc L noneG none 0 noneG none 0) := by
  have o := HORD.out
  have o2 := E10.2.1
  have o3 := hb11.size
  exact ⟨B10.trans (hb1012.mono B10.size), P10.call hb1012, X10.call hb1012, I10.call hb1012, Y10.call hb1012, O10.call hb1012, A10.call hb1012, E10.call hb1012, T12, ⟨.inl rfl, Nat.le_refl _, Nat.zero_le _⟩, ⟨.inl rfl, Nat.le_refl _, Nat.zero_le _⟩, HPG.out, HB10.out.trans (hb1012.mono HB10.out.size), rfl, EX.out, rfl, by omega, by omega, by omega, by omega, by omega⟩
 clear A10 B10 P10 X10 I10 Y10 O10 E10 T12 HPG HB10 hb11 hb12 hb1012 EX HORD HNO HNA HNB HIN
 refine wp_region_lit ?_
 refine tL (.bool false) ?_
 refine sm ?_
 refine wpList_nil ?_
 rename_i K9 hK9
 refine hK9 _ _ (drop_wp rfl (HH.out w3 w4 w7 w11 wp v gs gc L SP _ _ _ _ (by rfl)))
theorem stepPre_tf {T : Nat → Prop} {V F : Int} {s : Option Addr} {c : List Ins} {cap m : Nat} {i : Ins} {x : Pic} {vs : Option Addr} {vc : Nat} {fs : Option Addr} {fc : Nat} {w : World} (hc : CodeAt w s c) (hx : PicOn T w x vs fs) (K : SCtx V F c x vc fc i (m : Int)) (hnA : nA i.k = true) (hnB : nB i.k = false) (H : ∀ (w3 w4 w7 w11 wp : World) (v : Ro) (gs : Option Addr) (gc : Nat) (L : List Ro) (ka : Nat) (sska : Option Addr) (gcka : Nat) (hkax : ka < x.vars.length) (_ : i.a = (ka : Int)) , Hid (SPre T V F s c cap (m : Int) i x vs vc fs fc w wp (w.heap.size + 1 + 1) w3.heap.size w4.heap.size w7.heap.size (w7.heap.size + 1) w11.heap.size w3 v gs gc L x.vars[ka] sska gcka noneG none 0) → SwT (fun e w' => StpAns (fun b => T b ∨ w.heap.size ≤ b) w' e (stepPic i (m : Int) x) ∧ Below w.heap.size w w') m w w3 w4 w7 w11 wp) :
  Calls Tryz.prog 7 #[pv V F s c cap, .int .i64 (m : Int), xv x vs vc fs fc] w fun e w' => StpAns (fun b => T b ∨ w.heap.size ≤ b) w' e (stepPic i (m : Int) x) ∧ Below w.heap.size w w' := by
 have HH := hideH H
 clear H
 have hn := K.kx.none
 have ha1 := K.a1
 have hm : m < c.length := by omega
 have hcm : c[m] = i := by rw [K.hi]; unfold insAt; simp [List.getD, hm]
 have h60 := K.lens.2.1
 have HIN := hideH hx.in
 have exv : xv x vs vc fs fc = .agg #[.bool false, .slice vs x.vars.length vc, .slice fs x.flds.length fc] := by unfold xv; rw [hn]
 rw [exv]
 have HCP : Hid (∀ wx, Below w.heap.size w wx → Calls Tryz.prog 20 #[.agg #[.bool false, .slice vs x.vars.length vc, .slice fs x.flds.length fc]] wx fun e w' => (∃ v gs gc L, x = picOf false v L ∧ e = .returned (.agg #[.bool false, .slice v.rs v.l.length v.rc, .slice gs L.length gc]) ∧ PicG (fun b => wx.heap.size ≤ b) wx.heap.size w' v gs gc L) ∧ Below wx.heap.size wx w') := fun wx hb => by
  have h := copyPicture_any x vs vc fs fc wx ((hx.at).below hb (Nat.le_refl _)) K
  rw [exv] at h
  refine h.mono ?_
  rintro e w' ⟨⟨v, gs, gc, L, h1, h2, h3⟩, h4⟩
  rw [hn] at h1 h2
  exact ⟨⟨v, gs, gc, L, h1, h2, h3⟩, h4⟩
 have hb1 : Below w.heap.size w ((w.alloc (.cells #[.int .i64 V, .int .i64 F, .slice s c.length cap] 24)).alloc (.cells #[.bool false, .slice vs x.vars.length vc, .slice fs x.flds.length fc] 28)) := by go_grown
 have P1 : Cells ((w.alloc (.cells #[.int .i64 V, .int .i64 F, .slice s c.length cap] 24)).alloc (.cells #[.bool false, .slice vs x.vars.length vc, .slice fs x.flds.length fc] 28)) w.heap.size [.int .i64 V, .int .i64 F, .slice s c.length cap] := (Cells.new w 24 [.int .i64 V, .int .i64 F, .slice s c.length cap]).call (by go_grown)
 have X1 : Cells ((w.alloc (.cells #[.int .i64 V, .int .i64 F, .slice s c.length cap] 24)).alloc (.cells #[.bool false, .slice vs x.vars.length vc, .slice fs x.flds.length fc] 28)) (w.heap.size + 1) [.bool false, .slice vs x.vars.length vc, .slice fs x.flds.length fc] := by
  have h := Cells.new (w.alloc (.cells #[.int .i64 V, .int .i64 F, .slice s c.length cap] 24)) 28 [.bool false, .slice vs x.vars.length vc, .slice fs x.flds.length fc]
  rw [World.size_alloc] at h
  exact h
 have HZ1 : Hid (((w.alloc (.cells #[.int .i64 V, .int .i64 F, .slice s c.length cap] 24)).alloc (.cells #[.bool false, .slice vs x.vars.length vc, .slice fs x.flds.length fc] 28)).heap.size = w.heap.size + 1 + 1) := by show _ = _; simp
 obtain ⟨cb0, co, es, hcb, hci⟩ := (hc.below hb1 (Nat.le_refl _)).get m hm
 obtain ⟨j0, j1, j2, j3, j4, j5⟩ := hci m hm
 rw [hcm] at j0 j1 j2 j3 j4 j5
 have HES : Hid (s = some ⟨cb0, co, none⟩) := es
 clear es
 have n0 : (0 : Int) ≤ (m : Int) := by omega
 have n1 : (m : Int) < (c.length : Int) := by omega
 have HNA : Hid (∀ wx, Calls Tryz.prog 22 #[.int .i64 i.k] wx fun e w' => e = .returned (.bool true) ∧ w' = wx) := fun wx => by have h := namesA_any i.k wx; rw [hnA] at h; exact h
 have HNB : Hid (∀ wx, Calls Tryz.prog 23 #[.int .i64 i.k] wx fun e w' => e = .returned (.bool false) ∧ w' = wx) := fun wx => by have h := namesB_any i.k wx; rw [hnB] at h; exact h
 obtain ⟨ka, eka, hkax⟩ := K.varA hnA
 have HKAV := hideH eka
 skip
 skip
 clear eka
 skip
 have HK := hideH K
 have HX := hideH hx
 have HCM := hideH hcm
 clear hc hx K hn exv hci hcm
 clear hnA hnB
 have w61 : (m : Int) ≤ 60 := by omega
 go_enter Tryz.func7, Tryz.ntmps7
 go_upto_region 3 with fail
 generalize ((w.alloc (.cells #[.int .i64 V, .int .i64 F, .slice s c.length cap] 24)).alloc (.cells #[.bool false, .slice vs x.vars.length vc, .slice fs x.flds.length fc] 28)) = w1 at *
 have p2 := P1.1 2 _ rfl
 rw [HES.out] at p2
 go_upto_region 4 with fail
 clear p2 j0 j1 j2 j3 j4 j5
 have hb2 : Below w1.heap.size w1 (w1.alloc (.cells #[.int .i64 i.k, .int .i64 i.tgt, .int .i64 i.a, .int .i64 i.b, .int .i64 i.n, .int .i64 i.g] 51)) := by go_grown
 have I2 : Cells (w1.alloc (.cells #[.int .i64 i.k, .int .i64 i.tgt, .int .i64 i.a, .int .i64 i.b, .int .i64 i.n, .int .i64 i.g] 51)) w1.heap.size [.int .i64 i.k, .int .i64 i.tgt, .int .i64 i.a, .int .i64 i.b, .int .i64 i.n, .int .i64 i.g] := Cells.new w1 51 [.int .i64 i.k, .int .i64 i.tgt, .int .i64 i.a, .int .i64 i.b, .int .i64 i.n, .int .i64 i.g]
 have HZ2 : Hid ((w1.alloc (.cells #[.int .i64 i.k, .int .i64 i.tgt, .int .i64 i.a, .int .i64 i.b, .int .i64 i.n, .int .i64 i.g] 51)).heap.size = w.heap.size + 1 + 1 + 1) := by show _ = _; rw [World.size_alloc, HZ1.out]
 rw [HZ1.out] at I2
 rw [HZ1.out]
 generalize w1.alloc (.cells #[.int .i64 i.k, .int .i64 i.tgt, .int .i64 i.a, .int .i64 i.b, .int .i64 i.n, .int .i64 i.g] 51) = w2 at *
 have P2 := P1.call hb2
 have X2 := X1.call hb2
 have B2 := hb1.trans (hb2.mono hb1.size)
 have x0 := X2.1 0 _ rfl
 have x1 := X2.1 1 _ rfl
 have x2 := X2.1 2 _ rfl
 clear P1 X1 hb1 hb2 HZ1
 go_wp2_with (go_at_call 20; fail)
 refine (HCP.out w2 B2).mono ?_
 rintro e w3 ⟨⟨v, gs, gc, L, EX0, rfl, PG⟩, hb3⟩
 have EX := hideH EX0
 clear EX0 x0 x1 x2 HCP
 have HNO : Hid (∀ wx, Calls Tryz.prog 21 #[] wx fun e w' => e = .returned (.agg #[.bool false, .bool true, .int .i64 0, .int .i64 0, .bool false, .bool false, .slice none 0 0]) ∧ Below wx.heap.size wx w') := fun wx => nothingR_any wx
 go_upto_region 5 with fail
 have hb4 : Below w3.heap.size w3 (w3.alloc (.cells #[.bool false, .slice v.rs v.l.length v.rc, .slice gs L.length gc] 28)) := by go_grown
 have Y4 : Cells (w3.alloc (.cells #[.bool false, .slice v.rs v.l.length v.rc, .slice gs L.length gc] 28)) w3.heap.size [.bool false, .slice v.rs v.l.length v.rc, .slice gs L.length gc] := Cells.new w3 28 [.bool false, .slice v.rs v.l.length v.rc, .slice gs L.length gc]
 have Z4 : Hid ((w3.alloc (.cells #[.bool false, .slice v.rs v.l.length v.rc, .slice gs L.length gc] 28)).heap.size = w3.heap.size + 1) := by show _ = _; simp
 generalize w3.alloc (.cells #[.bool false, .slice v.rs v.l.length v.rc, .slice gs L.length gc] 28) = w4 at *
 have y0 := Y4.1 0 _ rfl
 have y1 := Y4.1 1 _ rfl
 have y2 := Y4.1 2 _ rfl
 go_upto_region 6 with fail
 clear y0 y1 y2
 have hb5 : Below w4.heap.size w4 (w4.alloc (.cells #[.int .i64 ((m : Int) + 1), .bool false, .slice v.rs v.l.length v.rc, .slice gs L.length gc] 56)) := by go_grown
 have O5 : Cells (w4.alloc (.cells #[.int .i64 ((m : Int) + 1), .bool false, .slice v.rs v.l.length v.rc, .slice gs L.length gc] 56)) w4.heap.size [.int .i64 ((m : Int) + 1), .bool false, .slice v.rs v.l.length v.rc, .slice gs L.length gc] := Cells.new w4 56 [.int .i64 ((m : Int) + 1), .bool false, .slice v.rs v.l.length v.rc, .slice gs L.length gc]
 generalize w4.alloc (.cells #[.int .i64 ((m : Int) + 1), .bool false, .slice v.rs v.l.length v.rc, .slice gs L.length gc] 56) = w5 at *
 go_wp2_with (go_at_call 21; fail)
 refine (HNO.out w5).mono ?_
 rintro e w6 ⟨rfl, hb6⟩
 go_wp2_with (go_at_call 21; fail)
 refine (HNO.out w6).mono ?_
 rintro e w7 ⟨rfl, hb7⟩
 go_upto_region 7 with fail
 have hb8 : Below w7.heap.size w7 ((w7.alloc (.cells #[.bool false, .bool true, .int .i64 0, .int .i64 0, .bool false, .bool false, .slice none 0 0] 61)).alloc (.cells #[.bool false, .bool true, .int .i64 0, .int .i64 0, .bool false, .bool false, .slice none 0 0] 61)) := by go_grown
 have A8 : Cells ((w7.alloc (.cells #[.bool false, .bool true, .int .i64 0, .int .i64 0, .bool false, .bool false, .slice none 0 0] 61)).alloc (.cells #[.bool false, .bool true, .int .i64 0, .int .i64 0, .bool false, .bool false, .slice none 0 0] 61)) w7.heap.size [.bool false, .bool true, .int .i64 0, .int .i64 0, .bool false, .bool false, .slice none 0 0] := (Cells.new w7 61 [.bool false, .bool true, .int .i64 0, .int .i64 0, .bool false, .bool false, .slice none 0 0]).call (by go_grown)
 have E8 : Cells ((w7.alloc (.cells #[.bool false, .bool true, .int .i64 0, .int .i64 0, .bool false, .bool false, .slice none 0 0] 61)).alloc (.cells #[.bool false, .bool true, .int .i64 0, .int .i64 0, .bool false, .bool false, .slice none 0 0] 61)) (w7.heap.size + 1) [.bool false, .bool true, .int .i64 0, .int .i64 0, .bool false, .bool false, .slice none 0 0] := by
  have h := Cells.new (w7.alloc (.cells #[.bool false, .bool true, .int .i64 0, .int .i64 0, .bool false, .bool false, .slice none 0 0] 61)) 61 [.bool false, .bool true, .int .i64 0, .int .i64 0, .bool false, .bool false, .slice none 0 0]
  rw [World.size_alloc] at h
  exact h
 generalize (w7.alloc (.cells #[.bool false, .bool true, .int .i64 0, .int .i64 0, .bool false, .bool false, .slice none 0 0] 61)).alloc (.cells #[.bool false, .bool true, .int .i64 0, .int .i64 0, .bool false, .bool false, .slice none 0 0] 61) = w8 at *
 have hb48 : Below w4.heap.size w4 w8 := hb5.trans (((hb6.trans (hb7.mono hb6.size)).trans (hb8.mono (hb6.trans (hb7.mono hb6.size)).size)).mono hb5.size)
 have hb28 : Below w2.heap.size w2 w8 := (hb3.trans (hb4.mono hb3.size)).trans (hb48.mono (hb3.trans (hb4.mono hb3.size)).size)
 have hb38 : Below w3.heap.size w3 w8 := hb4.trans (hb48.mono hb4.size)
 have O8 := O5.call ((hb6.trans (hb7.mono hb6.size)).trans (hb8.mono (hb6.trans (hb7.mono hb6.size)).size))
 have P8 := P2.call hb28
 have X8 := X2.call hb28
 have I8 := I2.call hb28
 have Y8 := Y4.call hb48
 have B8 := B2.trans (hb28.mono B2.size)
 have HORD : Hid (w.heap.size + 1 + 1 + 1 ≤ w3.heap.size ∧ w3.heap.size < w4.heap.size ∧ w4.heap.size < w7.heap.size) := by
  have h1 := hb3.size
  have h2 := HZ2.out
  have h3 := Z4.out
  have h4 := hb6.size
  have h5 := hb7.size
  have h6 := O5.2.1
  exact ⟨by omega, by omega, by omega⟩
 have HPG : Hid (PicG (fun b => w.heap.size ≤ b) (w.heap.size + 1 + 1 + 1) w3 v gs gc L) := by
  show PicG _ _ _ _ _ _ _
  rw [← HZ2.out]
  exact PG.mono fun b hb _ => by have := HZ2.out; omega
 have HB8 := hideH hb38
 clear PG hb3 hb4 hb5 hb6 hb7 hb8 hb48 hb28 hb38 P2 X2 I2 Y4 O5 B2 Z4 HZ2
 have i0 := I8.1 0 _ rfl
 go_wp2_with (go_at_call 22; fail)
 refine (HNA.out w8).mono ?_
 rintro e wz ⟨rfl, ew⟩
 rw [ew]
 clear ew wz i0
 have x1 := X8.1 1 _ rfl
 have i2 := I8.1 2 _ rfl
 rw [HKAV.out] at i2
 obtain ⟨bka, oka, eka, Ska, sska, gcka, Gka, IkaI, kka1, kka2⟩ := HIN.out.1 ka hkax
 rw [eka] at x1
 clear eka
 obtain ⟨⟨u0, u1, u2, u3, u4, u5, u6⟩, uz⟩ := Gka.below B8 (Nat.le_refl _)
 have r0 := A8.1 0 _ rfl
 have fr0 := A8.2.2 0
 have r1 := A8.1 1 _ rfl
 have fr1 := A8.2.2 1
 have r2 := A8.1 2 _ rfl
 have fr2 := A8.2.2 2
 have r3 := A8.1 3 _ rfl
 have fr3 := A8.2.2 3
 have r4 := A8.1 4 _ rfl
 have fr4 := A8.2.2 4
 have r5 := A8.1 5 _ rfl
 have fr5 := A8.2.2 5
 have r6 := A8.1 6 _ rfl
 have fr6 := A8.2.2 6
 have q0 : (0 : Int) ≤ (ka : Int) := by omega
 have q1 : (ka : Int) < (x.vars.length : Int) := by omega
 go_upto_region 9 with fail
 clear r0 fr0 r1 fr1 r2 fr2 r3 fr3 r4 fr4 r5 fr5 r6 fr6
 obtain ⟨w9, ew9⟩ : ∃ q, q = setL w8 (w7.heap.size) 0 [.bool x.vars[ka].n, .bool x.vars[ka].sp.n, .int .i64 x.vars[ka].sp.lo, .int .i64 x.vars[ka].sp.hi, .bool x.vars[ka].t, .bool x.vars[ka].f, .slice sska x.vars[ka].s.length gcka] := ⟨_, rfl⟩
 have PU := put_some A8 0 _ ew9
 simp only [setL] at ew9
 rw [← ew9]
 clear ew9
 have A9 := PU.cells
 have o1 := HORD.out
 have P9 := PU.keep P8
 have X9 := PU.keep X8
 have I9 := PU.keep I8
 have Y9 := PU.keep Y8
 have O9 := PU.keep O8
 have E9 := PU.keep E8
 have B9 := PU.low (by omega) B8
 have HB9 := hideH (PU.low (by omega) HB8.out)
 clear A8 E8 P8 X8 I8 Y8 O8 B8 HB8 o1 x1 i2 u0 u1 u2 u3 u4 u5 u6 uz q0 q1 PU
 have i0 := I9.1 0 _ rfl
 go_wp2_with (go_at_call 23; fail)
 refine (HNB.out w9).mono ?_
 rintro e wz ⟨rfl, ew⟩
 rw [ew]
 clear ew wz
 have A10 := A9
 have E10 := E9
 have P10 := P9
 have X10 := X9
 have I10 := I9
 have Y10 := Y9
 have O10 := O9
 have B10 := B9
 have HB10 := HB9
 clear A9 E9 P9 X9 I9 Y9 O9 B9 HB9
 generalize w9 = w10 at *
 go_wp2_with (go_at_call 21; fail)
 refine (HNO.out w10).mono ?_
 rintro e w11 ⟨rfl, hb11⟩
 clear i0
 go_upto_region 12 with fail
 have hb12 : Below w11.heap.size w11 (w11.alloc (.cells #[.bool false, .bool true, .int .i64 0, .int .i64 0, .bool false, .bool false, .slice none 0 0] 61)) := by go_grown
 have T12 : Cells (w11.alloc (.cells #[.bool false, .bool true, .int .i64 0, .int .i64 0, .bool false, .bool false, .slice none 0 0] 61)) w11.heap.size [.bool false, .bool true, .int .i64 0, .int .i64 0, .bool false, .bool false, .slice none 0 0] := Cells.new w11 61 [.bool false, .bool true, .int .i64 0, .int .i64 0, .bool false, .bool false, .slice none 0 0]
 have hb1012 : Below w10.heap.size w10 (w11.alloc (.cells #[.bool false, .bool true, .int .i64 0, .int .i64 0, .bool false, .bool false, .slice none 0 0] 61)) := hb11.trans (hb12.mono hb11.size)
 generalize w11.alloc (.cells #[.bool false, .bool true, .int .i64 0, .int .i64 0, .bool false, .bool false, .slice none 0 0] 61) = wp at *
 have SP : Hid (SPre T V F s c cap (m : Int) i x vs vc fs fc w wp (w.heap.size + 1 + 1) w3.heap.size w4.heap.size w7.heap.size (w7.heap.size + 1) w11.heap.size w3 v gs gc L x.vars[ka] sska gcka noneG none 0) := by
  have o := HORD.out
  have o2 := E10.2.1
  have o3 := hb11.size
  exact ⟨B10.trans (hb1012.mono B10.size), P10.call hb1012, X10.call hb1012, I10.call hb1012, Y10.call hb1012, O10.call hb1012, A10.call hb1012, E10.call hb1012, T12, ⟨IkaI, kka1, kka2⟩, ⟨.inl rfl, Nat.le_refl _, Nat.zero_le _⟩, HPG.out, HB10.out.trans (hb1012.mono HB10.out.size), rfl, EX.out, rfl, by omega, by omega, by omega, by omega, by omega⟩
 clear A10 B10 P10 X10 I10 Y10 O10 E10 T12 HPG HB10 hb11 hb12 hb1012 EX HORD HNO HNA HNB HIN
 refine wp_region_lit ?_
 refine tL (.bool false) ?_
 refine sm ?_
 refine wpList_nil ?_
 rename_i K9 hK9
 refine hK9 _ _ (drop_wp rfl (HH.out w3 w4 w7 w11 wp v gs gc L ka sska gcka hkax HKAV.out SP _ _ _ _ (by rfl)))
theorem stepPre_tt {T : Nat → Prop} {V F : Int} {s : Option Addr} {c : List Ins} {cap m : Nat} {i : Ins} {x : Pic} {vs : Option Addr} {vc : Nat} {fs : Option Addr} {fc : Nat} {w : World} (hc : CodeAt w s c) (hx : PicOn T w x vs fs) (K : SCtx V F c x vc fc i (m : Int)) (hnA : nA i.k = true) (hnB : nB i.k = true) (H : ∀ (w3 w4 w7 w11 wp : World) (v : Ro) (gs : Option Addr) (gc : Nat) (L : List Ro) (ka : Nat) (sska : Option Addr) (gcka : Nat) (hkax : ka < x.vars.length) (_ : i.a = (ka : Int)) (kb : Nat) (sskb : Option Addr) (gckb : Nat) (hkbx : kb < x.vars.length) (_ : i.b = (kb : Int)) , Hid (SPre T V F s c cap (m : Int) i x vs vc fs fc w wp (w.heap.size + 1 + 1) w3.heap.size w4.heap.size w7.heap.size (w7.heap.size + 1) w11.heap.size w3 v gs gc L x.vars[ka] sska gcka x.vars[kb] sskb gckb) → SwT (fun e w' => StpAns (fun b => T b ∨ w.heap.size ≤ b) w' e (stepPic i (m : Int) x) ∧ Below w.heap.size w w') m w w3 w4 w7 w11 wp) :
  Calls Tryz.prog 7 #[pv V F s c cap, .int .i64 (m : Int), xv x vs vc fs fc] w fun e w' => StpAns (fun b => T b ∨ w.heap.size ≤ b) w' e (stepPic i (m : Int) x) ∧ Below w.heap.size w w' := by
 have HH := hideH H
 clear H
 have hn := K.kx.none
 have ha1 := K.a1
 have hm : m < c.length := by omega
 have hcm : c[m] = i := by rw [K.hi]; unfold insAt; simp [List.getD, hm]
 have h60 := K.lens.2.1
 have HIN := hideH hx.in
 have exv : xv x vs vc fs fc = .agg #[.bool false, .slice vs x.vars.length vc, .slice fs x.flds.length fc] := by unfold xv; rw [hn]
 rw [exv]
 have HCP : Hid (∀ wx, Below w.heap.size w wx → Calls Tryz.prog 20 #[.agg #[.bool false, .slice vs x.vars.length vc, .slice fs x.flds.length fc]] wx fun e w' => (∃ v gs gc L, x = picOf false v L ∧ e = .returned (.agg #[.bool false, .slice v.rs v.l.length v.rc, .slice gs L.length gc]) ∧ PicG (fun b => wx.heap.size ≤ b) wx.heap.size w' v gs gc L) ∧ Below wx.heap.size wx w') := fun wx hb => by
  have h := copyPicture_any x vs vc fs fc wx ((hx.at).below hb (Nat.le_refl _)) K
  rw [exv] at h
  refine h.mono ?_
  rintro e w' ⟨⟨v, gs, gc, L, h1, h2, h3⟩, h4⟩
  rw [hn] at h1 h2
  exact ⟨⟨v, gs, gc, L, h1, h2, h3⟩, h4⟩
 have hb1 : Below w.heap.size w ((w.alloc (.cells #[.int .i64 V, .int .i64 F, .slice s c.length cap] 24)).alloc (.cells #[.bool false, .slice vs x.vars.length vc, .slice fs x.flds.length fc] 28)) := by go_grown
 have P1 : Cells ((w.alloc (.cells #[.int .i64 V, .int .i64 F, .slice s c.length cap] 24)).alloc (.cells #[.bool false, .slice vs x.vars.length vc, .slice fs x.flds.length fc] 28)) w.heap.size [.int .i64 V, .int .i64 F, .slice s c.length cap] := (Cells.new w 24 [.int .i64 V, .int .i64 F, .slice s c.length cap]).call (by go_grown)
 have X1 : Cells ((w.alloc (.cells #[.int .i64 V, .int .i64 F, .slice s c.length cap] 24)).alloc (.cells #[.bool false, .slice vs x.vars.length vc, .slice fs x.flds.length fc] 28)) (w.heap.size + 1) [.bool false, .slice vs x.vars.length vc, .slice fs x.flds.length fc] := by
  have h := Cells.new (w.alloc (.cells #[.int .i64 V, .int .i64 F, .slice s c.length cap] 24)) 28 [.bool false, .slice vs x.vars.length vc, .slice fs x.flds.length fc]
  rw [World.size_alloc] at h
  exact h
 have HZ1 : Hid (((w.alloc (.cells #[.int .i64 V, .int .i64 F, .slice s c.length cap] 24)).alloc (.cells #[.bool false, .slice vs x.vars.length vc, .slice fs x.flds.length fc] 28)).heap.size = w.heap.size + 1 + 1) := by show _ = _; simp
 obtain ⟨cb0, co, es, hcb, hci⟩ := (hc.below hb1 (Nat.le_refl _)).get m hm
 obtain ⟨j0, j1, j2, j3, j4, j5⟩ := hci m hm
 rw [hcm] at j0 j1 j2 j3 j4 j5
 have HES : Hid (s = some ⟨cb0, co, none⟩) := es
 clear es
 have n0 : (0 : Int) ≤ (m : Int) := by omega
 have n1 : (m : Int) < (c.length : Int) := by omega
 have HNA : Hid (∀ wx, Calls Tryz.prog 22 #[.int .i64 i.k] wx fun e w' => e = .returned (.bool true) ∧ w' = wx) := fun wx => by have h := namesA_any i.k wx; rw [hnA] at h; exact h
 have HNB : Hid (∀ wx, Calls Tryz.prog 23 #[.int .i64 i.k] wx fun e w' => e = .returned (.bool true) ∧ w' = wx) := fun wx => by have h := namesB_any i.k wx; rw [hnB] at h; exact h
 obtain ⟨ka, eka, hkax⟩ := K.varA hnA
 have HKAV := hideH eka
 obtain ⟨kb, ekb, hkbx⟩ := K.varB hnB
 have HKBV := hideH ekb
 clear eka
 clear ekb
 have HK := hideH K
 have HX := hideH hx
 have HCM := hideH hcm
 clear hc hx K hn exv hci hcm
 clear hnA hnB
 have w61 : (m : Int) ≤ 60 := by omega
 go_enter Tryz.func7, Tryz.ntmps7
 go_upto_region 3 with fail
 generalize ((w.alloc (.cells #[.int .i64 V, .int .i64 F, .slice s c.length cap] 24)).alloc (.cells #[.bool false, .slice vs x.vars.length vc, .slice fs x.flds.length fc] 28)) = w1 at *
 have p2 := P1.1 2 _ rfl
 rw [HES.out] at p2
 go_upto_region 4 with fail
 clear p2 j0 j1 j2 j3 j4 j5
 have hb2 : Below w1.heap.size w1 (w1.alloc (.cells #[.int .i64 i.k, .int .i64 i.tgt, .int .i64 i.a, .int .i64 i.b, .int .i64 i.n, .int .i64 i.g] 51)) := by go_grown
 have I2 : Cells (w1.alloc (.cells #[.int .i64 i.k, .int .i64 i.tgt, .int .i64 i.a, .int .i64 i.b, .int .i64 i.n, .int .i64 i.g] 51)) w1.heap.size [.int .i64 i.k, .int .i64 i.tgt, .int .i64 i.a, .int .i64 i.b, .int .i64 i.n, .int .i64 i.g] := Cells.new w1 51 [.int .i64 i.k, .int .i64 i.tgt, .int .i64 i.a, .int .i64 i.b, .int .i64 i.n, .int .i64 i.g]
 have HZ2 : Hid ((w1.alloc (.cells #[.int .i64 i.k, .int .i64 i.tgt, .int .i64 i.a, .int .i64 i.b, .int .i64 i.n, .int .i64 i.g] 51)).heap.size = w.heap.size + 1 + 1 + 1) := by show _ = _; rw [World.size_alloc, HZ1.out]
 rw [HZ1.out] at I2
 rw [HZ1.out]
 generalize w1.alloc (.cells #[.int .i64 i.k, .int .i64 i.tgt, .int .i64 i.a, .int .i64 i.b, .int .i64 i.n, .int .i64 i.g] 51) = w2 at *
 have P2 := P1.call hb2
 have X2 := X1.call hb2
 have B2 := hb1.trans (hb2.mono hb1.size)
 have x0 := X2.1 0 _ rfl
 have x1 := X2.1 1 _ rfl
 have x2 := X2.1 2 _ rfl
 clear P1 X1 hb1 hb2 HZ1
 go_wp2_with (go_at_call 20; fail)
 refine (HCP.out w2 B2).mono ?_
 rintro e w3 ⟨⟨v, gs, gc, L, EX0, rfl, PG⟩, hb3⟩
 have EX := hideH EX0
 clear EX0 x0 x1 x2 HCP
 have HNO : Hid (∀ wx, Calls Tryz.prog 21 #[] wx fun e w' => e = .returned (.agg #[.bool false, .bool true, .int .i64 0, .int .i64 0, .bool false, .bool false, .slice none 0 0]) ∧ Below wx.heap.size wx w') := fun wx => nothingR_any wx
 go_upto_region 5 with fail
 have hb4 : Below w3.heap.size w3 (w3.alloc (.cells #[.bool false, .slice v.rs v.l.length v.rc, .slice gs L.length gc] 28)) := by go_grown
 have Y4 : Cells (w3.alloc (.cells #[.bool false, .slice v.rs v.l.length v.rc, .slice gs L.length gc] 28)) w3.heap.size [.bool false, .slice v.rs v.l.length v.rc, .slice gs L.length gc] := Cells.new w3 28 [.bool false, .slice v.rs v.l.length v.rc, .slice gs L.length gc]
 have Z4 : Hid ((w3.alloc (.cells #[.bool false, .slice v.rs v.l.length v.rc, .slice gs L.length gc] 28)).heap.size = w3.heap.size + 1) := by show _ = _; simp
 generalize w3.alloc (.cells #[.bool false, .slice v.rs v.l.length v.rc, .slice gs L.length gc] 28) = w4 at *
 have y0 := Y4.1 0 _ rfl
 have y1 := Y4.1 1 _ rfl
 have y2 := Y4.1 2 _ rfl
 go_upto_region 6 with fail
 clear y0 y1 y2
 have hb5 : Below w4.heap.size w4 (w4.alloc (.cells #[.int .i64 ((m : Int) + 1), .bool false, .slice v.rs v.l.length v.rc, .slice gs L.length gc] 56)) := by go_grown
 have O5 : Cells (w4.alloc (.cells #[.int .i64 ((m : Int) + 1), .bool false, .slice v.rs v.l.length v.rc, .slice gs L.length gc] 56)) w4.heap.size [.int .i64 ((m : Int) + 1), .bool false, .slice v.rs v.l.length v.rc, .slice gs L.length gc] := Cells.new w4 56 [.int .i64 ((m : Int) + 1), .bool false, .slice v.rs v.l.length v.rc, .slice gs L.length gc]
 generalize w4.alloc (.cells #[.int .i64 ((m : Int) + 1), .bool false, .slice v.rs v.l.length v.rc, .slice gs L.length gc] 56) = w5 at *
 go_wp2_with (go_at_call 21; fail)
 refine (HNO.out w5).mono ?_
 rintro e w6 ⟨rfl, hb6⟩
 go_wp2_with (go_at_call 21; fail)
 refine (HNO.out w6).mono ?_
 rintro e w7 ⟨rfl, hb7⟩
 go_upto_region 7 with fail
 have hb8 : Below w7.heap.size w7 ((w7.alloc (.cells #[.bool false, .bool true, .int .i64 0, .int .i64 0, .bool false, .bool false, .slice none 0 0] 61)).alloc (.cells #[.bool false, .bool true, .int .i64 0, .int .i64 0, .bool false, .bool false, .slice none 0 0] 61)) := by go_grown
 have A8 : Cells ((w7.alloc (.cells #[.bool false, .bool true, .int .i64 0, .int .i64 0, .bool false, .bool false, .slice none 0 0] 61)).alloc (.cells #[.bool false, .bool true, .int .i64 0, .int .i64 0, .bool false, .bool false, .slice none 0 0] 61)) w7.heap.size [.bool false, .bool true, .int .i64 0, .int .i64 0, .bool false, .bool false, .slice none 0 0] := (Cells.new w7 61 [.bool false, .bool true, .int .i64 0, .int .i64 0, .bool false, .bool false, .slice none 0 0]).call (by go_grown)
 have E8 : Cells ((w7.alloc (.cells #[.bool false, .bool true, .int .i64 0, .int .i64 0, .bool false, .bool false, .slice none 0 0] 61)).alloc (.cells #[.bool false, .bool true, .int .i64 0, .int .i64 0, .bool false, .bool false, .slice none 0 0] 61)) (w7.heap.size + 1) [.bool false, .bool true, .int .i64 0, .int .i64 0, .bool false, .bool false, .slice none 0 0] := by
  have h := Cells.new (w7.alloc (.cells #[.bool false, .bool true, .int .i64 0, .int .i64 0, .bool false, .bool false, .slice none 0 0] 61)) 61 [.bool false, .bool true, .int .i64 0, .int .i64 0, .bool false, .bool false, .slice none 0 0]
  rw [World.size_alloc] at h
  exact h
 generalize (w7.alloc (.cells #[.bool false, .bool true, .int .i64 0, .int .i64 0, .bool false, .bool false, .slice none 0 0] 61)).alloc (.cells #[.bool false, .bool true, .int .i64 0, .int .i64 0, .bool false, .bool false, .slice none 0 0] 61) = w8 at *
 have hb48 : Below w4.heap.size w4 w8 := hb5.trans (((hb6.trans (hb7.mono hb6.size)).trans (hb8.mono (hb6.trans (hb7.mono hb6.size)).size)).mono hb5.size)
 have hb28 : Below w2.heap.size w2 w8 := (hb3.trans (hb4.mono hb3.size)).trans (hb48.mono (hb3.trans (hb4.mono hb3.size)).size)
 have hb38 : Below w3.heap.size w3 w8 := hb4.trans (hb48.mono hb4.size)
 have O8 := O5.call ((hb6.trans (hb7.mono hb6.size)).trans (hb8.mono (hb6.trans (hb7.mono hb6.size)).size))
 have P8 := P2.call hb28
 have X8 := X2.call hb28
 have I8 := I2.call hb28
 have Y8 := Y4.call hb48
 have B8 := B2.trans (hb28.mono B2.size)
 have HORD : Hid (w.heap.size + 1 + 1 + 1 ≤ w3.heap.size ∧ w3.heap.size < w4.heap.size ∧ w4.heap.size < w7.heap.size) := by
  have h1 := hb3.size
  have h2 := HZ2.out
  have h3 := Z4.out
  have h4 := hb6.size
  have h5 := hb7.size
  have h6 := O5.2.1
  exact ⟨by omega, by omega, by omega⟩
 have HPG : Hid (PicG (fun b => w.heap.size ≤ b) (w.heap.size + 1 + 1 + 1) w3 v gs gc L) := by
  show PicG _ _ _ _ _ _ _
  rw [← HZ2.out]
  exact PG.mono fun b hb _ => by have := HZ2.out; omega
 have HB8 := hideH hb38
 clear PG hb3 hb4 hb5 hb6 hb7 hb8 hb48 hb28 hb38 P2 X2 I2 Y4 O5 B2 Z4 HZ2
 have i0 := I8.1 0 _ rfl
 go_wp2_with (go_at_call 22; fail)
 refine (HNA.out w8).mono ?_
 rintro e wz ⟨rfl, ew⟩
 rw [ew]
 clear ew wz i0
 have x1 := X8.1 1 _ rfl
 have i2 := I8.1 2 _ rfl
 rw [HKAV.out] at i2
 obtain ⟨bka, oka, eka, Ska, sska, gcka, Gka, IkaI, kka1, kka2⟩ := HIN.out.1 ka hkax
 rw [eka] at x1
 clear eka
 obtain ⟨⟨u0, u1, u2, u3, u4, u5, u6⟩, uz⟩ := Gka.below B8 (Nat.le_refl _)
 have r0 := A8.1 0 _ rfl
 have fr0 := A8.2.2 0
 have r1 := A8.1 1 _ rfl
 have fr1 := A8.2.2 1
 have r2 := A8.1 2 _ rfl
 have fr2 := A8.2.2 2
 have r3 := A8.1 3 _ rfl
 have fr3 := A8.2.2 3
 have r4 := A8.1 4 _ rfl
 have fr4 := A8.2.2 4
 have r5 := A8.1 5 _ rfl
 have fr5 := A8.2.2 5
 have r6 := A8.1 6 _ rfl
 have fr6 := A8.2.2 6
 have q0 : (0 : Int) ≤ (ka : Int) := by omega
 have q1 : (ka : Int) < (x.vars.length : Int) := by omega
 go_upto_region 9 with fail
 clear r0 fr0 r1 fr1 r2 fr2 r3 fr3 r4 fr4 r5 fr5 r6 fr6
 obtain ⟨w9, ew9⟩ : ∃ q, q = setL w8 (w7.heap.size) 0 [.bool x.vars[ka].n, .bool x.vars[ka].sp.n, .int .i64 x.vars[ka].sp.lo, .int .i64 x.vars[ka].sp.hi, .bool x.vars[ka].t, .bool x.vars[ka].f, .slice sska x.vars[ka].s.length gcka] := ⟨_, rfl⟩
 have PU := put_some A8 0 _ ew9
 simp only [setL] at ew9
 rw [← ew9]
 clear ew9
 have A9 := PU.cells
 have o1 := HORD.out
 have P9 := PU.keep P8
 have X9 := PU.keep X8
 have I9 := PU.keep I8
 have Y9 := PU.keep Y8
 have O9 := PU.keep O8
 have E9 := PU.keep E8
 have B9 := PU.low (by omega) B8
 have HB9 := hideH (PU.low (by omega) HB8.out)
 clear A8 E8 P8 X8 I8 Y8 O8 B8 HB8 o1 x1 i2 u0 u1 u2 u3 u4 u5 u6 uz q0 q1 PU
 have i0 := I9.1 0 _ rfl
 go_wp2_with (go_at_call 23; fail)
 refine (HNB.out w9).mono ?_
 rintro e wz ⟨rfl, ew⟩
 rw [ew]
 clear ew wz
 have x1 := X9.1 1 _ rfl
 have i3 := I9.1 3 _ rfl
 rw [HKBV.out] at i3
 obtain ⟨bkb, okb, ekb, Skb, sskb, gckb, Gkb, IkbI, kkb1, kkb2⟩ := HIN.out.1 kb hkbx
 rw [ekb] at x1
 clear ekb
 obtain ⟨⟨u0, u1, u2, u3, u4, u5, u6⟩, uz⟩ := Gkb.below B9 (Nat.le_refl _)
 have r0 := E9.1 0 _ rfl
 have fr0 := E9.2.2 0
 have r1 := E9.1 1 _ rfl
 have fr1 := E9.2.2 1
 have r2 := E9.1 2 _ rfl
 have fr2 := E9.2.2 2
 have r3 := E9.1 3 _ rfl
 have fr3 := E9.2.2 3
 have r4 := E9.1 4 _ rfl
 have fr4 := E9.2.2 4
 have r5 := E9.1 5 _ rfl
 have fr5 := E9.2.2 5
 have r6 := E9.1 6 _ rfl
 have fr6 := E9.2.2 6
 have q0 : (0 : Int) ≤ (kb : Int) := by omega
 have q1 : (kb : Int) < (x.vars.length : Int) := by omega
 go_upto_region 11 with fail
 clear r0 fr0 r1 fr1 r2 fr2 r3 fr3 r4 fr4 r5 fr5 r6 fr6
 obtain ⟨w10, ew10⟩ : ∃ q, q = setL w9 ((w7.heap.size + 1)) 0 [.bool x.vars[kb].n, .bool x.vars[kb].sp.n, .int .i64 x.vars[kb].sp.lo, .int .i64 x.vars[kb].sp.hi, .bool x.vars[kb].t, .bool x.vars[kb].f, .slice sskb x.vars[kb].s.length gckb] := ⟨_, rfl⟩
 have PU := put_some E9 0 _ ew10
 simp only [setL] at ew10
 rw [← ew10]
 clear ew10
 have E10 := PU.cells
 have o1 := HORD.out
 have P10 := PU.keep P9
 have X10 := PU.keep X9
 have I10 := PU.keep I9
 have Y10 := PU.keep Y9
 have O10 := PU.keep O9
 have A10 := PU.keep A9
 have B10 := PU.low (by omega) B9
 have HB10 := hideH (PU.low (by omega) HB9.out)
 clear A9 E9 P9 X9 I9 Y9 O9 B9 HB9 o1 x1 i3 u0 u1 u2 u3 u4 u5 u6 uz q0 q1 PU
 go_wp2_with (go_at_call 21; fail)
 refine (HNO.out w10).mono ?_
 rintro e w11 ⟨rfl, hb11⟩
 clear i0
 go_upto_region 12 with fail
 have hb12 : Below w11.heap.size w11 (w11.alloc (.cells #[.bool false, .bool true, .int .i64 0, .int .i64 0, .bool false, .bool false, .slice none 0 0] 61)) := by go_grown
 have T12 : Cells (w11.alloc (.cells #[.bool false, .bool true, .int .i64 0, .int .i64 0, .bool false, .bool false, .slice none 0 0] 61)) w11.heap.size [.bool false, .bool true, .int .i64 0, .int .i64 0, .bool false, .bool false, .slice none 0 0] := Cells.new w11 61 [.bool false, .bool true, .int .i64 0, .int .i64 0, .bool false, .bool false, .slice none 0 0]
 have hb1012 : Below w10.heap.size w10 (w11.alloc (.cells #[.bool false, .bool true, .int .i64 0, .int .i64 0, .bool false, .bool false, .slice none 0 0] 61)) := hb11.trans (hb12.mono hb11.size)
 generalize w11.alloc (.cells #[.bool false, .bool true, .int .i64 0, .int .i64 0, .bool false, .bool false, .slice none 0 0] 61) = wp at *
 have SP : Hid (SPre T V F s c cap (m : Int) i x vs vc fs fc w wp (w.heap.size + 1 + 1) w3.heap.size w4.heap.size w7.heap.size (w7.heap.size + 1) w11.heap.size w3 v gs gc L x.vars[ka] sska gcka x.vars[kb] sskb gckb) := by
  have o := HORD.out
  have o2 := E10.2.1
  have o3 := hb11.size
  exact ⟨B10.trans (hb1012.mono B10.size), P10.call hb1012, X10.call hb1012, I10.call hb1012, Y10.call hb1012, O10.call hb1012, A10.call hb1012, E10.call hb1012, T12, ⟨IkaI, kka1, kka2⟩, ⟨IkbI, kkb1, kkb2⟩, HPG.out, HB10.out.trans (hb1012.mono HB10.out.size), rfl, EX.out, rfl, by omega, by omega, by omega, by omega, by omega⟩
 clear A10 B10 P10 X10 I10 Y10 O10 E10 T12 HPG HB10 hb11 hb12 hb1012 EX HORD HNO HNA HNB HIN
 refine wp_region_lit ?_
 refine tL (.bool false) ?_
 refine sm ?_
 refine wpList_nil ?_
 rename_i K9 hK9
 refine hK9 _ _ (drop_wp rfl (HH.out w3 w4 w7 w11 wp v gs gc L ka sska gcka hkax HKAV.out kb sskb gckb hkbx HKBV.out SP _ _ _ _ (by rfl)))
end
end Go.Proofs.YtmapdpcfanecdabGreat
