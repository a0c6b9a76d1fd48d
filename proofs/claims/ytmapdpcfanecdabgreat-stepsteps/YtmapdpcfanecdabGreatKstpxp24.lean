/- Walks over package picture: what is told of one picture. -/
import Derived.Test.YtmapdpcfanecdabGreatKstpxp23
import Derived.Test.YtmapdpcfanecdabGreatKstpxp07
import Derived.Deep.RegionHeld
import Derived.WalkKit
import Derived.WalkSpells
import Derived.WalkLawsBesides
import Derived.Handy
import Derived.Deep.DeepCutAuto
import Derived.Laws.EntriesVeiled
import Derived.Test.YtmapdpcfanecdabGreatKstpxp14
set_option linter.unusedSimpArgs false
set_option linter.unusedVariables false
namespace Go.Proofs.YtmapdpcfanecdabGreat
section
set_option maxHeartbeats 4000000
set_option maxRecDepth 10000
open Go.RowKit
attribute [local go_sem ↓] Go.wp_at_zero Go.wp_at_succ

theorem formed1_any (l : List Gs) (rs : Option Addr) (rc q : Nat) (V F : Int) (s : Option Addr) (c : List Ins) (cap : Nat) (w : World) (hp : PrAt w q V F s c cap) :
  Calls Tryz.prog 133 #[.slice rs l.length rc, .pointer (some ⟨q, 0, none⟩)] w fun e w' => e = .returned (.bool ((fun r : List Gs => !decide ((r.length : Int) = F)) l)) ∧ Below w.heap.size w w' := by
 obtain ⟨⟨p0, p1, p2⟩, pz⟩ := id hp
 by_cases h : (l.length : Int) = F
 ·have e1 : ((l.length : Int) != F) = false := by simpa using h
  have er : (fun r : List Gs => !decide ((r.length : Int) = F)) l = false := by simp [h]
  rw [er]
  clear er h
  go_enter Tryz.func133, Tryz.ntmps133
  go_wp2
  go_ret
  exact ⟨rfl, by go_grown⟩
 ·have e1 : ((l.length : Int) != F) = true := by simpa using h
  have er : (fun r : List Gs => !decide ((r.length : Int) = F)) l = true := by simp [h]
  rw [er]
  clear er h
  go_enter Tryz.func133, Tryz.ntmps133
  go_wp2
  go_ret
  exact ⟨rfl, by go_grown⟩
theorem indexRows_any (q : Nat) (V F : Int) (s : Option Addr) (c : List Ins) (cap : Nat) (fs : Option Addr) (fc : Nat) (L : List (List Gs)) (w : World) (hl : L.length ≤ 9223372036854775807) (h : RowsAt w fs L) (hp : PrAt w q V F s c cap) :
  Calls Tryz.prog 158 #[.slice fs L.length fc, .func (.func 133) #[] #[.pointer (some ⟨q, 0, none⟩)]] w fun e w' => ∃ n : Int, e = .returned (.int .i64 n) ∧ decide (0 ≤ n) = L.any (fun r : List Gs => !decide ((r.length : Int) = F)) ∧ Below w.heap.size w w' := by
 have HF : Hid (∀ (l : List Gs) (rs : Option Addr) (rc : Nat) (wx : World), PrAt wx q V F s c cap → Calls Tryz.prog 133 #[.slice rs l.length rc, .pointer (some ⟨q, 0, none⟩)] wx fun e w' => e = .returned (.bool ((fun r : List Gs => !decide ((r.length : Int) = F)) l)) ∧ Below wx.heap.size wx w') := fun l rs rc wx hx => formed1_any l rs rc q V F s c cap wx hx
 generalize hpp : (fun r : List Gs => !decide ((r.length : Int) = F)) = pp at *
 clear hpp
 go_enter Tryz.func158, Tryz.ntmps158
 go_wp2
 go_loopw [8] (fun i wr => ∃ k : Nat, k ≤ L.length ∧ i = .int .i64 k ∧ Below w.heap.size w wr ∧ Hid (L.any pp = (L.drop k).any pp)) (fun i _ => L.length - (intOf i).toNat)
 case atStart => exact ⟨0, Nat.zero_le _, rfl, Below.refl _ _, rfl⟩
 case round =>
  obtain ⟨k, hk, rfl, hbr, HA⟩ := hrel
  by_cases hlt : k < L.length
  ·obtain ⟨b, off, rfl, zb, rs, rc, C1, k1, m1, -⟩ := h k hlt
   have n0 : (0 : Int) ≤ (k : Int) := by omega
   have n1 : (k : Int) < (L.length : Int) := by omega
   have s0 := hbr.size
   have c0 : wr.cell? ⟨b, off + k, none⟩ = some (.slice rs L[k].length rc) := by rw [hbr.cell (by simp only; exact zb)]; exact C1
   have HN : Hid ((L.drop k).any pp = (pp L[k] || (L.drop (k + 1)).any pp)) := any_drop_stepJ L pp k hlt
   clear C1 h
   go_wp2_with (go_at_call 133; fail)
   refine (HF.out L[k] _ _ _ (hp.call hbr)).mono ?_
   rintro e w1 ⟨rfl, hb1⟩
   cases hpk : pp L[k] with
   | true =>
    have HT : Hid (L.any pp = true) := by show _ = _; rw [HA.out, HN.out, hpk]; rfl
    clear HN HA
    go_wp2
    go_ret
    exact ⟨_, rfl, by rw [HT.out]; simp, hbr.trans (hb1.mono s0)⟩
   | false =>
    have HT : Hid (L.any pp = (L.drop (k + 1)).any pp) := by show _ = _; rw [HA.out, HN.out, hpk]; rfl
    clear HN HA
    go_wp2
    go_roundw
    case rel => exact ⟨k + 1, by omega, by go_num, hbr.trans (hb1.mono s0), HT⟩
    case measure => simp [intOf]; omega
  ·go_wp2
   go_ret
   exact ⟨_, rfl, by rw [HA.out, List.drop_eq_nil_of_le (by omega)]; rfl, hbr⟩
theorem containsRows_any (q : Nat) (V F : Int) (s : Option Addr) (c : List Ins) (cap : Nat) (fs : Option Addr) (fc : Nat) (L : List (List Gs)) (w : World) (hl : L.length ≤ 9223372036854775807) (h : RowsAt w fs L) (hp : PrAt w q V F s c cap) :
  Calls Tryz.prog 134 #[.slice fs L.length fc, .func (.func 133) #[] #[.pointer (some ⟨q, 0, none⟩)]] w fun e w' => e = .returned (.bool (L.any (fun r : List Gs => !decide ((r.length : Int) = F)))) ∧ Below w.heap.size w w' := by
 have HI := hideH (indexRows_any q V F s c cap fs fc L w hl h hp)
 generalize L.any (fun r : List Gs => !decide ((r.length : Int) = F)) = res at *
 go_enter Tryz.func134, Tryz.ntmps134
 go_wp2_with (go_at_call 158; fail)
 refine HI.out.mono ?_
 rintro e w1 ⟨n, rfl, hn, hb1⟩
 subst hn
 go_wp2
 go_ret
 exact ⟨rfl, hb1⟩
theorem isFormed_none (V F : Int) (s : Option Addr) (c : List Ins) (cap : Nat) (vars : List Gs) (flds : List (List Gs)) (vs : Option Addr) (vc : Nat) (fs : Option Addr) (fc : Nat) (w : World) :
  Calls Tryz.prog 105 #[pv V F s c cap, xv ⟨true, vars, flds⟩ vs vc fs fc] w fun e w' => e = .returned (.bool (decide (vars.length = 0) && decide (flds.length = 0))) ∧ Below w.heap.size w w' := by
 cases vars with
 | nil =>
  cases flds with
  | nil =>
   go_enter Tryz.func105, Tryz.ntmps105
   go_wp2
   go_ret
   exact ⟨rfl, by go_grown⟩
  | cons r flds =>
   go_enter Tryz.func105, Tryz.ntmps105
   go_wp2
   go_ret
   exact ⟨rfl, by go_grown⟩
 | cons g vars =>
  go_enter Tryz.func105, Tryz.ntmps105
  go_wp2
  go_ret
  exact ⟨rfl, by go_grown⟩
theorem isFormed_vars (V F : Int) (s : Option Addr) (c : List Ins) (cap : Nat) (vars : List Gs) (flds : List (List Gs)) (vs : Option Addr) (vc : Nat) (fs : Option Addr) (fc : Nat) (w : World) (h : ¬ (vars.length : Int) = V) :
  Calls Tryz.prog 105 #[pv V F s c cap, xv ⟨false, vars, flds⟩ vs vc fs fc] w fun e w' => e = .returned (.bool false) ∧ Below w.heap.size w w' := by
 have hmf : ∀ (fn : Fn) (first cp : Array Value) (w : World), (Instr.makeFunc fn first cp).run Tryz.prog w = .ok (.func fn first cp) w := fun _ _ _ _ => rfl
 have n1 : ((vars.length : Int) == V) = false := by simpa using h
 clear h
 go_enter Tryz.func105, Tryz.ntmps105
 go_wp2
 go_ret
 exact ⟨rfl, by go_grown⟩
theorem isFormed_flds (V F : Int) (s : Option Addr) (c : List Ins) (cap : Nat) (vars : List Gs) (flds : List (List Gs)) (vs : Option Addr) (vc : Nat) (fs : Option Addr) (fc : Nat) (w : World) (h : ¬ flds.length = c.length) :
  Calls Tryz.prog 105 #[pv (vars.length : Int) F s c cap, xv ⟨false, vars, flds⟩ vs vc fs fc] w fun e w' => e = .returned (.bool false) ∧ Below w.heap.size w w' := by
 have hmf : ∀ (fn : Fn) (first cp : Array Value) (w : World), (Instr.makeFunc fn first cp).run Tryz.prog w = .ok (.func fn first cp) w := fun _ _ _ _ => rfl
 have n1 : ((flds.length : Int) == (c.length : Int)) = false := by simp; omega
 clear h
 go_enter Tryz.func105, Tryz.ntmps105
 go_wp2
 go_ret
 exact ⟨rfl, by go_grown⟩
theorem isFormed_rows (V F : Int) (s : Option Addr) (c : List Ins) (cap : Nat) (vars : List Gs) (flds : List (List Gs)) (vs : Option Addr) (vc : Nat) (fs : Option Addr) (fc : Nat) (w : World) (hR : RowsAt w fs flds) (h : flds.length = c.length) (h60 : c.length ≤ 60) :
  Calls Tryz.prog 105 #[pv (vars.length : Int) F s c cap, xv ⟨false, vars, flds⟩ vs vc fs fc] w fun e w' => e = .returned (.bool (!(flds.any (fun r : List Gs => !decide ((r.length : Int) = F))))) ∧ Below w.heap.size w w' := by
 have hmf : ∀ (fn : Fn) (first cp : Array Value) (w : World), (Instr.makeFunc fn first cp).run Tryz.prog w = .ok (.func fn first cp) w := fun _ _ _ _ => rfl
 have n1 : ((flds.length : Int) == (c.length : Int)) = true := by simp; omega
 have hl : flds.length ≤ 9223372036854775807 := by omega
 have B0 : Below w.heap.size w ((w.alloc (.cells #[.int .i64 (vars.length : Int), .int .i64 F, .slice s c.length cap] 24)).alloc (.cells #[.bool false, .slice vs vars.length vc, .slice fs flds.length fc] 28)) := by go_grown
 have P0 := (PrAt.new w (vars.length : Int) F s c cap).call (w' := ((w.alloc (.cells #[.int .i64 (vars.length : Int), .int .i64 F, .slice s c.length cap] 24)).alloc (.cells #[.bool false, .slice vs vars.length vc, .slice fs flds.length fc] 28))) (by go_grown)
 have HC := hideH (containsRows_any w.heap.size (vars.length : Int) F s c cap fs fc flds ((w.alloc (.cells #[.int .i64 (vars.length : Int), .int .i64 F, .slice s c.length cap] 24)).alloc (.cells #[.bool false, .slice vs vars.length vc, .slice fs flds.length fc] 28)) hl (hR.below B0 (Nat.le_refl _)) P0)
 generalize flds.any (fun r : List Gs => !decide ((r.length : Int) = F)) = q at *
 clear hR h P0
 go_enter Tryz.func105, Tryz.ntmps105
 go_wp2_with (go_at_call 134; fail)
 refine HC.out.mono ?_
 rintro e w1 ⟨rfl, hb1⟩
 go_wp2
 go_ret
 exact ⟨rfl, B0.trans (hb1.mono B0.size)⟩

theorem isFormed_any (V F : Int) (s : Option Addr) (c : List Ins) (cap : Nat) (x : Pic) (vs : Option Addr) (vc : Nat) (fs : Option Addr) (fc : Nat) (w : World) (hP : PicAt w x vs fs) (h60 : c.length ≤ 60) :
  Calls Tryz.prog 105 #[pv V F s c cap, xv x vs vc fs fc] w fun e w' => e = .returned (.bool (formedPic V F c x)) ∧ Below w.heap.size w w' := by
 obtain ⟨n, vars, flds⟩ := x
 cases n with
 | true => exact isFormed_none V F s c cap vars flds vs vc fs fc w
 | false =>
  by_cases h1 : (vars.length : Int) = V
  ·by_cases h2 : flds.length = c.length
   ·have e1 : formedPic V F c ⟨false, vars, flds⟩ = !(flds.any (fun r : List Gs => !decide ((r.length : Int) = F))) := by
     unfold formedPic
     simp [h1, h2]
    rw [e1]
    have h := isFormed_rows V F s c cap vars flds vs vc fs fc w hP.2 h2 h60
    rw [h1] at h
    exact h
   ·have e1 : formedPic V F c ⟨false, vars, flds⟩ = false := by
     unfold formedPic
     simp [h2]
    rw [e1]
    have h := isFormed_flds V F s c cap vars flds vs vc fs fc w h2
    rw [h1] at h
    exact h
  ·have e1 : formedPic V F c ⟨false, vars, flds⟩ = false := by
    unfold formedPic
    simp [h1]
   rw [e1]
   exact isFormed_vars V F s c cap vars flds vs vc fs fc w h1
theorem indexSome_any (ls : Option Addr) (L : List Gs) (lc : Nat) (w : World) (hl : L.length ≤ 9223372036854775807) (hL : GsAt w ls L) :
  Calls Tryz.prog 135 #[.slice ls L.length lc, .func (.func 106) #[] #[]] w fun e w' => ∃ n : Int, e = .returned (.int .i64 n) ∧ decide (0 ≤ n) = L.any someGs ∧ Below w.heap.size w w' := by
 have HF := hideH isSomething_any
 generalize someGs = p at *
 go_enter Tryz.func135, Tryz.ntmps135
 go_wp2
 go_loopw [8] (fun i wr => ∃ k : Nat, k ≤ L.length ∧ i = .int .i64 k ∧ GsAt wr ls L ∧ Below w.heap.size w wr ∧ Hid (L.any p = (L.drop k).any p)) (fun i _ => L.length - (intOf i).toNat)
 case atStart => exact ⟨0, Nat.zero_le _, rfl, hL, Below.refl _ _, rfl⟩
 case round =>
  obtain ⟨k, hk, rfl, hR, hbr, HA⟩ := hrel
  by_cases hlt : k < L.length
  ·obtain ⟨b, off, rfl, ss, gc, hG, hI, l1, l2⟩ := hR k hlt
   obtain ⟨⟨g0, g1, g2, g3, g4, g5, g6⟩, gz⟩ := id hG
   have n0 : (0 : Int) ≤ (k : Int) := by omega
   have n1 : (k : Int) < (L.length : Int) := by omega
   have s0 := hbr.size
   have HN : Hid ((L.drop k).any p = (p L[k] || (L.drop (k + 1)).any p)) := any_drop_stepJ L p k hlt
   go_wp2_with (go_at_call 106; fail)
   refine (HF.out L[k] ss gc _ hI (Nat.le_trans l1 l2)).mono ?_
   rintro e w1 ⟨rfl, hb1⟩
   cases hp : p L[k] with
   | true =>
    have HT : Hid (L.any p = true) := by show _ = _; rw [HA.out, HN.out, hp]; rfl
    clear HN HA
    go_wp2
    go_ret
    exact ⟨_, rfl, by rw [HT.out]; simp, hbr.trans (hb1.mono s0)⟩
   | false =>
    have HT : Hid (L.any p = (L.drop (k + 1)).any p) := by show _ = _; rw [HA.out, HN.out, hp]; rfl
    have hR' := hR.call hb1
    clear HN HA
    go_wp2
    go_roundw
    case rel => exact ⟨k + 1, by omega, by go_num, hR', hbr.trans (hb1.mono s0), HT⟩
    case measure => simp [intOf]; omega
  ·go_wp2
   go_ret
   exact ⟨_, rfl, by rw [HA.out, List.drop_eq_nil_of_le (by omega)]; rfl, hbr⟩
theorem containsSome_any (ls : Option Addr) (L : List Gs) (lc : Nat) (w : World) (hl : L.length ≤ 9223372036854775807) (hL : GsAt w ls L) :
  Calls Tryz.prog 108 #[.slice ls L.length lc, .func (.func 106) #[] #[]] w fun e w' => e = .returned (.bool (L.any someGs)) ∧ Below w.heap.size w w' := by
 have HI := hideH (indexSome_any ls L lc w hl hL)
 generalize L.any someGs = res at *
 go_enter Tryz.func108, Tryz.ntmps108
 go_wp2_with (go_at_call 135; fail)
 refine HI.out.mono ?_
 rintro e w1 ⟨n, rfl, hn, hb1⟩
 subst hn
 go_wp2
 go_ret
 exact ⟨rfl, hb1⟩
end
section
set_option maxHeartbeats 8000000
set_option maxRecDepth 20000
open Go.RowKit
attribute [local go_sem ↓] Go.wp_at_zero Go.wp_at_succ

theorem formedPic_len {V F : Int} {c : List Ins} {x : Pic} (h0 : ckProg V F c = 0) (h : formedPic V F c x = true) : (allPic x).length ≤ 1000 ∧ x.flds.length ≤ c.length := by
 obtain ⟨⟨hV1, hV8⟩, ⟨hF0, hF3⟩, h60⟩ := ckProg_lim h0
 unfold formedPic at h
 unfold allPic
 cases hn : x.none with
 | true =>
  rw [hn] at h
  simp only [if_true, Bool.and_eq_true, decide_eq_true_eq] at h
  have e1 : x.vars = [] := List.eq_nil_of_length_eq_zero h.1
  have e2 : x.flds = [] := List.eq_nil_of_length_eq_zero h.2
  rw [e1, e2]
  simp
 | false =>
  rw [hn] at h
  simp only [Bool.false_eq_true, if_false, Bool.and_eq_true, decide_eq_true_eq, Bool.not_eq_true', List.any_eq_false] at h
  obtain ⟨f, rfl⟩ := Int.eq_ofNat_of_zero_le hF0
  have hr : ∀ r ∈ x.flds, r.length = f := fun r hr => by have := h.2.2 r hr; simp at this; omega
  rw [List.length_append, flat_len hr]
  have h2 := h.2.1
  have : x.flds.length * f ≤ 60 * 3 := Nat.mul_le_mul (by omega) (by omega)
  omega
theorem ckAllG_uno {V F : Int} {c : List Ins} {g : Gs} (h0 : ckProg V F c = 0) : ckAllG V F c [g] = ckGs c g := by
 unfold ckAllG
 rw [if_pos h0]
 unfold ckGss
 split
 ·rename_i h; rw [h]; rfl
 ·rfl
theorem isSite_at {c : List Ins} {k : Nat} (h : k < c.length) : isSite c (k : Int) = decide (c[k].k = 11) := by
 unfold isSite
 simp [h, List.getD]
theorem checkPartsP_bad (V F : Int) (s : Option Addr) (c : List Ins) (cap : Nat) (x : Pic) (vs : Option Addr) (vc : Nat) (fs : Option Addr) (fc : Nat) (w : World) (hc : CodeAt w s c) (hP : PicAt w x vs fs) (hvc : x.vars.length ≤ vc) (hvm : vc ≤ maxLen) (h0 : ckProg V F c = 0) (hf : formedPic V F c x = false) :
  Calls Tryz.prog 78 #[pv V F s c cap, xv x vs vc fs fc] w fun e w' => e = .returned (.int .i64 (ckPic V F c x)) ∧ Below w.heap.size w w' := by
 obtain ⟨-, -, h60⟩ := ckProg_lim h0
 have B0 : Below w.heap.size w ((w.alloc (.cells #[.int .i64 V, .int .i64 F, .slice s c.length cap] 24)).alloc (.cells #[.bool x.none, .slice vs x.vars.length vc, .slice fs x.flds.length fc] 28)) := by go_grown
 have HI := hideH (isFormed_any V F s c cap x vs vc fs fc ((w.alloc (.cells #[.int .i64 V, .int .i64 F, .slice s c.length cap] 24)).alloc (.cells #[.bool x.none, .slice vs x.vars.length vc, .slice fs x.flds.length fc] 28)) (hP.below B0 (Nat.le_refl _)) h60)
 have er : ckPic V F c x = 1 := by unfold ckPic; rw [if_pos hf]
 rw [er]
 rw [hf] at HI
 clear hP hc er hf
 go_enter Tryz.func78, Tryz.ntmps78
 go_wp2_with (go_at_call 105; fail)
 refine HI.out.mono ?_
 rintro e w1 ⟨rfl, hb1⟩
 go_wp2
 go_ret
 exact ⟨rfl, B0.trans (hb1.mono B0.size)⟩

theorem checkPartsP_ok (V F : Int) (s : Option Addr) (c : List Ins) (cap : Nat) (x : Pic) (vs : Option Addr) (vc : Nat) (fs : Option Addr) (fc : Nat) (w : World) (hc : CodeAt w s c) (hP : PicAt w x vs fs) (hvc : x.vars.length ≤ vc) (hvm : vc ≤ maxLen) (h0 : ckProg V F c = 0) (hf : formedPic V F c x = true) :
  Calls Tryz.prog 78 #[pv V F s c cap, xv x vs vc fs fc] w fun e w' => e = .returned (.int .i64 (ckPic V F c x)) ∧ Below w.heap.size w w' := by
 obtain ⟨-, -, h60⟩ := ckProg_lim h0
 obtain ⟨hal, hfl⟩ := formedPic_len h0 hf
 have B0 : Below w.heap.size w ((w.alloc (.cells #[.int .i64 V, .int .i64 F, .slice s c.length cap] 24)).alloc (.cells #[.bool x.none, .slice vs x.vars.length vc, .slice fs x.flds.length fc] 28)) := by go_grown
 have P0 := (PrAt.new w V F s c cap).call (w' := ((w.alloc (.cells #[.int .i64 V, .int .i64 F, .slice s c.length cap] 24)).alloc (.cells #[.bool x.none, .slice vs x.vars.length vc, .slice fs x.flds.length fc] 28))) (by go_grown)
 have A0 := XAt.new (w.alloc (.cells #[.int .i64 V, .int .i64 F, .slice s c.length cap] 24)) x vs vc fs fc
 rw [World.size_alloc] at A0
 have PX := hP.below B0 (Nat.le_refl _)
 have HI := hideH (isFormed_any V F s c cap x vs vc fs fc ((w.alloc (.cells #[.int .i64 V, .int .i64 F, .slice s c.length cap] 24)).alloc (.cells #[.bool x.none, .slice vs x.vars.length vc, .slice fs x.flds.length fc] 28)) PX h60)
 rw [hf] at HI
 have HA : Hid (∀ wx, PicAt wx x vs fs → Calls Tryz.prog 102 #[xv x vs vc fs fc] wx fun e w' => RowR w' e (allPic x) ∧ Below wx.heap.size wx w') := fun wx hx => allP_any x vs vc fs fc wx hx hvc hvm (by omega) hal
 have HS := hideH isSomething_any
 have HG : Hid (∀ g ss gc wx, CodeAt wx s c → IntsAt wx ss g.s → g.s.length ≤ gc → gc ≤ maxLen → Calls Tryz.prog 107 #[pv V F s c cap, gv g ss gc] wx fun e w' => e = .returned (.int .i64 (ckGs c g)) ∧ Below wx.heap.size wx w') := fun g ss gc wx h1 h2 h3 h4 => by rw [← ckAllG_uno (V := V) (F := F) h0]; exact checkG_any V F s c cap g ss gc wx h1 h2 h3 h4
 have HCS := hideH containsSome_any
 obtain ⟨res, HR, hres⟩ : ∃ r, Hid (r = if ckGss c (allPic x) ≠ 0 then ckGss c (allPic x) else if strayAt c someGs 0 x.flds then 4 else 0) ∧ ckPic V F c x = r := ⟨_, rfl, by rw [ckPic_some, hf]; rfl⟩
 rw [hres]
 have HC := hideH (hc.below B0 (Nat.le_refl _))
 clear hres hP hc hf hvc hvm
 obtain ⟨all, eall⟩ : ∃ all, all = allPic x := ⟨_, rfl⟩
 rw [← eall] at HR HA hal
 clear eall
 go_enter Tryz.func78, Tryz.ntmps78
 go_wp2_with (go_at_call 105; fail)
 generalize ((w.alloc (.cells #[.int .i64 V, .int .i64 F, .slice s c.length cap] 24)).alloc (.cells #[.bool x.none, .slice vs x.vars.length vc, .slice fs x.flds.length fc] 28)) = w1 at *
 refine HI.out.mono ?_
 rintro e w2 ⟨rfl, hb2⟩
 clear HI
 obtain ⟨⟨a0, a1, a2⟩, az, -⟩ := id (A0.call hb2)
 go_wp2_with (go_at_call 102; fail)
 refine (HA.out _ (PX.call hb2)).mono ?_
 rintro e w3 ⟨⟨rs, rc, rfl, GA, k1, k2⟩, hb3⟩
 clear HA a0 a1 a2 az
 have hb13 := hb2.trans (hb3.mono hb2.size)
 have P3 := P0.call hb13
 have A3 := A0.call hb13
 have C3 := HC.out.call hb13
 have R3 := PX.2.below hb13 (Nat.le_refl _)
 have B3 := B0.trans (hb13.mono B0.size)
 clear P0 A0 PX HC hb13 hb2 hb3 B0
 go_wp2
 go_loopw [17] (fun i wr => ∃ k : Nat, k ≤ all.length ∧ i = .int .i64 k ∧ Below w3.heap.size w3 wr ∧ Hid (ckGss c all = ckGss c (all.drop k))) (fun i _ => all.length - (intOf i).toNat)
 case atStart => exact ⟨0, Nat.zero_le _, rfl, Below.refl _ _, rfl⟩
 case round =>
  obtain ⟨k, hk, rfl, hbr, HK⟩ := hrel
  by_cases hlt : k < all.length
  ·have n0 : (0 : Int) ≤ (k : Int) := by omega
   have n1 : (k : Int) < (all.length : Int) := by omega
   obtain ⟨b, off, rfl, ss, gc, GR, IR, g1, g2⟩ := GA.below hbr (Nat.le_refl _) k hlt
   have HD := hideH (ckGss_drop c all k hlt)
   obtain ⟨⟨q0, q1, q2, q3, q4, q5, q6⟩, qz⟩ := id GR
   have G4 := GuAt.new wr all[k] ss gc
   have hb4 : Below wr.heap.size wr (wr.alloc (.cells #[.bool all[k].n, .bool all[k].sp.n, .int .i64 all[k].sp.lo, .int .i64 all[k].sp.hi, .bool all[k].t, .bool all[k].f, .slice ss all[k].s.length gc] 61)) := by go_grown
   have I4 := IR.call hb4
   go_wp2_with (go_at_call 106; fail)
   generalize wr.alloc (.cells #[.bool all[k].n, .bool all[k].sp.n, .int .i64 all[k].sp.lo, .int .i64 all[k].sp.hi, .bool all[k].t, .bool all[k].f, .slice ss all[k].s.length gc] 61) = w4 at *
   refine (HS.out all[k] ss gc _ I4 (Nat.le_trans g1 g2)).mono ?_
   rintro e w5 ⟨rfl, hb5⟩
   clear q0 q1 q2 q3 q4 q5 q6 qz GR IR
   have G5 := G4.call hb5
   have I5 := I4.call hb5
   have hb45 : Below wr.heap.size wr w5 := hb4.trans (hb5.mono hb4.size)
   have hb35 := hbr.trans (hb45.mono hbr.size)
   clear hb4 hb5 G4 I4
   rcases (show someGs all[k] = false ∨ someGs all[k] = true by cases someGs all[k] <;> simp) with hs | hs <;> have HSG := hideH hs <;> rw [hs] <;> clear hs
   ·have HZ : Hid (ckGs c all[k] = 0) := by
     show _ = _
     have h1 := HSG.out
     unfold someGs at h1
     have h2 : sameGs all[k] noneG = true := by simpa using h1
     rw [sameGs_iff.1 h2]
     rfl
    go_wp2
    go_roundw
    case rel => exact ⟨k + 1, by omega, by go_num, hb35, by show _ = _; rw [HK.out, HD.out, if_pos HZ.out]⟩
    case measure => simp [intOf]; omega
   ·obtain ⟨⟨p0, p1, p2⟩, pz⟩ := id (P3.call hb35)
    obtain ⟨⟨q0, q1, q2, q3, q4, q5, q6⟩, qz⟩ := id G5
    simp only [Nat.zero_add] at q0 q1 q2 q3 q4 q5 q6
    go_wp2_with (go_at_call 107; fail)
    refine (HG.out all[k] ss gc _ (C3.call hb35) I5 g1 g2).mono ?_
    rintro e w6 ⟨rfl, hb6⟩
    have hb36 := hb35.trans (hb6.mono hb35.size)
    clear p0 p1 p2 pz q0 q1 q2 q3 q4 q5 q6 qz
    generalize ckGs c all[k] = ce at *
    by_cases hz : ce = 0
    ·have e1 : (ce != 0) = false := by simpa using hz
     go_wp2
     go_roundw
     case rel => exact ⟨k + 1, by omega, by go_num, hb36, by show _ = _; rw [HK.out, HD.out, if_pos hz]⟩
     case measure => simp [intOf]; omega
    ·have e1 : (ce != 0) = true := by simpa using hz
     go_wp2
     go_ret
     refine ⟨ret_int ?_, B3.trans (hb36.mono B3.size)⟩
     rw [HR.out, HK.out, HD.out, if_neg hz, if_pos hz]
  ·have n1 : ¬ (k : Int) < (all.length : Int) := by omega
   have HZ : Hid (ckGss c all = 0) := by show _ = _; rw [HK.out, List.drop_eq_nil_of_le (by omega)]; rfl
   have HR2 : Hid (res = if strayAt c someGs 0 x.flds then 4 else 0) := by show _ = _; rw [HR.out, HZ.out]; rfl
   have P4 := P3.call hbr
   have A4 := A3.call hbr
   have C4 := C3.call hbr
   have R4 := R3.below hbr (Nat.le_refl _)
   have B4 := B3.trans (hbr.mono B3.size)
   generalize wr = w4 at *
   clear wr P3 A3 C3 R3 B3 HK HR HZ GA hbr
   obtain ⟨⟨a0, a1, a2⟩, az, -⟩ := id A4
   go_wp2
   clear a0 a1 a2 az
   go_loopw [34] (fun i wr => ∃ k : Nat, k ≤ x.flds.length ∧ i = .int .i64 k ∧ Below w4.heap.size w4 wr ∧ Hid (strayAt c someGs 0 x.flds = strayAt c someGs k (x.flds.drop k))) (fun i _ => x.flds.length - (intOf i).toNat)
   case atStart => exact ⟨0, Nat.zero_le _, rfl, Below.refl _ _, rfl⟩
   case round =>
    obtain ⟨k2, hk2, rfl, hbq, HT⟩ := hrel
    by_cases hlt2 : k2 < x.flds.length
    ·have n0 : (0 : Int) ≤ (k2 : Int) := by omega
     have n2 : (k2 : Int) < (x.flds.length : Int) := by omega
     have hkc : k2 < c.length := by omega
     have n3 : (k2 : Int) < (c.length : Int) := by omega
     have HU := hideH (strayAt_step c someGs x.flds k2 hlt2)
     obtain ⟨⟨p0, p1', p2⟩, pz⟩ := id (P4.call hbq)
     obtain ⟨p1, q1, e1, zp1, r1, rc1, D1, l1, l2, J1⟩ := (R4.below hbq (Nat.le_refl _)) k2 hlt2
     obtain ⟨cb, co, e2, zc, hcc⟩ := (C4.call hbq).get k2 hkc
     subst e1 e2
     obtain ⟨i0, -⟩ := hcc k2 hkc
     have HST := hideH (isSite_at hkc)
     have hrl : x.flds[k2].length ≤ 9223372036854775807 := by unfold maxLen at l2; omega
     clear hcc
     by_cases h11 : c[k2].k = 11
     ·have e11 : (c[k2].k != 11) = false := by simpa using h11
      go_wp2
      go_roundw
      case rel => exact ⟨k2 + 1, by omega, by go_num, hbq, by show _ = _; rw [HT.out, HU.out, HST.out, decide_eq_true h11]; rfl⟩
      case measure => simp [intOf]; omega
     ·have e11 : (c[k2].k != 11) = true := by simpa using h11
      go_wp2_with (go_at_call 108; fail)
      refine (HCS.out r1 x.flds[k2] rc1 _ hrl J1).mono ?_
      rintro e w5 ⟨rfl, hb5⟩
      have hb45 := hbq.trans (hb5.mono hbq.size)
      rcases (show x.flds[k2].any someGs = false ∨ x.flds[k2].any someGs = true by cases x.flds[k2].any someGs <;> simp) with hs | hs <;> have HSG := hideH hs <;> rw [hs] <;> clear hs
      ·go_wp2
       go_roundw
       case rel => exact ⟨k2 + 1, by omega, by go_num, hb45, by show _ = _; rw [HT.out, HU.out, HSG.out]; simp⟩
       case measure => simp [intOf]; omega
      ·go_wp2
       go_ret
       refine ⟨ret_int ?_, B4.trans (hb45.mono B4.size)⟩
       rw [HR2.out, HT.out, HU.out, HSG.out, HST.out, decide_eq_false h11]
       rfl
    ·have n2 : ¬ (k2 : Int) < (x.flds.length : Int) := by omega
     go_wp2
     go_ret
     refine ⟨ret_int ?_, B4.trans (hbq.mono B4.size)⟩
     rw [HR2.out, HT.out, List.drop_eq_nil_of_le (by omega)]
     rfl

theorem checkPartsP_any (V F : Int) (s : Option Addr) (c : List Ins) (cap : Nat) (x : Pic) (vs : Option Addr) (vc : Nat) (fs : Option Addr) (fc : Nat) (w : World) (hc : CodeAt w s c) (hP : PicAt w x vs fs) (hvc : x.vars.length ≤ vc) (hvm : vc ≤ maxLen) (h0 : ckProg V F c = 0) :
  Calls Tryz.prog 78 #[pv V F s c cap, xv x vs vc fs fc] w fun e w' => e = .returned (.int .i64 (ckPic V F c x)) ∧ Below w.heap.size w w' := by
 rcases (show formedPic V F c x = false ∨ formedPic V F c x = true by cases formedPic V F c x <;> simp) with hf | hf
 ·exact checkPartsP_bad V F s c cap x vs vc fs fc w hc hP hvc hvm h0 hf
 ·exact checkPartsP_ok V F s c cap x vs vc fs fc w hc hP hvc hvm h0 hf
end
end Go.Proofs.YtmapdpcfanecdabGreat
