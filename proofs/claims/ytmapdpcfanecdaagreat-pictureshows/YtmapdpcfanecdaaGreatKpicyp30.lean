/- Walks over package picture: has a picture as many guesses as it must have? -/
import Derived.Test.YtmapdpcfanecdaaGreatKpicyp29
import Derived.Test.YtmapdpcfanecdaaGreatKpicyp09
import Derived.Deep.DeepCutAuto
import Derived.Laws.EntriesVeiled
namespace Go.Proofs.YtmapdpcfanecdaaGreat
set_option linter.unusedVariables false
set_option linter.unusedSimpArgs false
open Go.RowKit
attribute [local go_sem ↓] Go.wp_at_zero Go.wp_at_succ

set_option maxHeartbeats 1000000 in
set_option maxRecDepth 10000 in
theorem formed1_any (l : List Gs) (rs : Option Addr) (rc q : Nat) (V F : Int) (s : Option Addr) (c : List Ins) (cap : Nat) (w : World) (hp : PrAt w q V F s c cap) :
    Calls Tryz.prog 151 #[.slice rs l.length rc, .pointer (some ⟨q, 0, none⟩)] w fun e w' => e = .returned (.bool ((fun r : List Gs => !decide ((r.length : Int) = F)) l)) ∧ Below w.heap.size w w' := by
  obtain ⟨⟨p0, p1, p2⟩, pz⟩ := id hp
  by_cases h : (l.length : Int) = F
  · have e1 : ((l.length : Int) != F) = false := by simpa using h
    have er : (fun r : List Gs => !decide ((r.length : Int) = F)) l = false := by simp [h]
    rw [er]
    clear er h
    go_enter Tryz.func151, Tryz.ntmps151
    go_wp2
    go_ret
    exact ⟨rfl, by go_grown⟩
  · have e1 : ((l.length : Int) != F) = true := by simpa using h
    have er : (fun r : List Gs => !decide ((r.length : Int) = F)) l = true := by simp [h]
    rw [er]
    clear er h
    go_enter Tryz.func151, Tryz.ntmps151
    go_wp2
    go_ret
    exact ⟨rfl, by go_grown⟩
set_option maxHeartbeats 1000000 in
set_option maxRecDepth 10000 in
theorem indexRows_any (q : Nat) (V F : Int) (s : Option Addr) (c : List Ins) (cap : Nat) (fs : Option Addr) (fc : Nat) (L : List (List Gs)) (w : World) (hl : L.length ≤ 9223372036854775807) (h : RowsAt w fs L) (hp : PrAt w q V F s c cap) :
    Calls Tryz.prog 167 #[.slice fs L.length fc, .func (.func 151) #[] #[.pointer (some ⟨q, 0, none⟩)]] w fun e w' => ∃ n : Int, e = .returned (.int .i64 n) ∧ decide (0 ≤ n) = L.any (fun r : List Gs => !decide ((r.length : Int) = F)) ∧ Below w.heap.size w w' := by
  have HF : Hid (∀ (l : List Gs) (rs : Option Addr) (rc : Nat) (wx : World), PrAt wx q V F s c cap → Calls Tryz.prog 151 #[.slice rs l.length rc, .pointer (some ⟨q, 0, none⟩)] wx fun e w' => e = .returned (.bool ((fun r : List Gs => !decide ((r.length : Int) = F)) l)) ∧ Below wx.heap.size wx w') := fun l rs rc wx hx => formed1_any l rs rc q V F s c cap wx hx
  generalize hpp : (fun r : List Gs => !decide ((r.length : Int) = F)) = pp at *
  clear hpp
  go_enter Tryz.func167, Tryz.ntmps167
  go_wp2
  go_loopw [8] (fun i wr => ∃ k : Nat, k ≤ L.length ∧ i = .int .i64 k ∧ Below w.heap.size w wr ∧ Hid (L.any pp = (L.drop k).any pp)) (fun i _ => L.length - (intOf i).toNat)
  case atStart => exact ⟨0, Nat.zero_le _, rfl, Below.refl _ _, rfl⟩
  case round =>
    obtain ⟨k, hk, rfl, hbr, HA⟩ := hrel
    by_cases hlt : k < L.length
    · obtain ⟨b, off, rfl, zb, rs, rc, C1, k1, m1, -⟩ := h k hlt
      have n0 : (0 : Int) ≤ (k : Int) := by omega
      have n1 : (k : Int) < (L.length : Int) := by omega
      have s0 := hbr.size
      have c0 : wr.cell? ⟨b, off + k, none⟩ = some (.slice rs L[k].length rc) := by rw [hbr.cell (by simp only; exact zb)]; exact C1
      have HN : Hid ((L.drop k).any pp = (pp L[k] || (L.drop (k + 1)).any pp)) := any_drop_stepJ L pp k hlt
      clear C1 h
      go_wp2_with (go_at_call 151; fail)
      refine (HF.out L[k] _ _ _ (hp.call hbr)).mono ?_
      rintro e w1 ⟨rfl, hb1⟩
      cases hpk : pp L[k] with
      | true =>
        have HT : Hid (L.any pp = true) := by show _ = _; rw [HA.out, HN.out, hpk]; rfl
        clear HN HA
        go_wp2
        go_ret
        exact ⟨_, rfl, by rw [HT.out]; simp, hbr.trans (hb1.mono s0)⟩
      | false =>
        have HT : Hid (L.any pp = (L.drop (k + 1)).any pp) := by show _ = _; rw [HA.out, HN.out, hpk]; rfl
        clear HN HA
        go_wp2
        go_roundw
        case rel => exact ⟨k + 1, by omega, by go_num, hbr.trans (hb1.mono s0), HT⟩
        case measure => simp [intOf]; omega
    · go_wp2
      go_ret
      exact ⟨_, rfl, by rw [HA.out, List.drop_eq_nil_of_le (by omega)]; rfl, hbr⟩
set_option maxHeartbeats 1000000 in
set_option maxRecDepth 10000 in
theorem containsRows_any (q : Nat) (V F : Int) (s : Option Addr) (c : List Ins) (cap : Nat) (fs : Option Addr) (fc : Nat) (L : List (List Gs)) (w : World) (hl : L.length ≤ 9223372036854775807) (h : RowsAt w fs L) (hp : PrAt w q V F s c cap) :
    Calls Tryz.prog 152 #[.slice fs L.length fc, .func (.func 151) #[] #[.pointer (some ⟨q, 0, none⟩)]] w fun e w' => e = .returned (.bool (L.any (fun r : List Gs => !decide ((r.length : Int) = F)))) ∧ Below w.heap.size w w' := by
  have HI := hideH (indexRows_any q V F s c cap fs fc L w hl h hp)
  generalize L.any (fun r : List Gs => !decide ((r.length : Int) = F)) = res at *
  go_enter Tryz.func152, Tryz.ntmps152
  go_wp2_with (go_at_call 167; fail)
  refine HI.out.mono ?_
  rintro e w1 ⟨n, rfl, hn, hb1⟩
  subst hn
  go_wp2
  go_ret
  exact ⟨rfl, hb1⟩
set_option maxHeartbeats 2000000 in
set_option maxRecDepth 10000 in
theorem isFormed_none (V F : Int) (s : Option Addr) (c : List Ins) (cap : Nat) (vars : List Gs) (flds : List (List Gs)) (vs : Option Addr) (vc : Nat) (fs : Option Addr) (fc : Nat) (w : World) :
    Calls Tryz.prog 135 #[pv V F s c cap, xv ⟨true, vars, flds⟩ vs vc fs fc] w fun e w' => e = .returned (.bool (decide (vars.length = 0) && decide (flds.length = 0))) ∧ Below w.heap.size w w' := by
  cases vars with
  | nil =>
    cases flds with
    | nil =>
      go_enter Tryz.func135, Tryz.ntmps135
      go_wp2
      go_ret
      exact ⟨rfl, by go_grown⟩
    | cons r flds =>
      go_enter Tryz.func135, Tryz.ntmps135
      go_wp2
      go_ret
      exact ⟨rfl, by go_grown⟩
  | cons g vars =>
    go_enter Tryz.func135, Tryz.ntmps135
    go_wp2
    go_ret
    exact ⟨rfl, by go_grown⟩
set_option maxHeartbeats 2000000 in
set_option maxRecDepth 10000 in
theorem isFormed_vars (V F : Int) (s : Option Addr) (c : List Ins) (cap : Nat) (vars : List Gs) (flds : List (List Gs)) (vs : Option Addr) (vc : Nat) (fs : Option Addr) (fc : Nat) (w : World) (h : ¬ (vars.length : Int) = V) :
    Calls Tryz.prog 135 #[pv V F s c cap, xv ⟨false, vars, flds⟩ vs vc fs fc] w fun e w' => e = .returned (.bool false) ∧ Below w.heap.size w w' := by
  have hmf : ∀ (fn : Fn) (first cp : Array Value) (w : World), (Instr.makeFunc fn first cp).run Tryz.prog w = .ok (.func fn first cp) w := fun _ _ _ _ => rfl
  have n1 : ((vars.length : Int) == V) = false := by simpa using h
  clear h
  go_enter Tryz.func135, Tryz.ntmps135
  go_wp2
  go_ret
  exact ⟨rfl, by go_grown⟩
set_option maxHeartbeats 2000000 in
set_option maxRecDepth 10000 in
theorem isFormed_flds (V F : Int) (s : Option Addr) (c : List Ins) (cap : Nat) (vars : List Gs) (flds : List (List Gs)) (vs : Option Addr) (vc : Nat) (fs : Option Addr) (fc : Nat) (w : World) (h : ¬ flds.length = c.length) :
    Calls Tryz.prog 135 #[pv (vars.length : Int) F s c cap, xv ⟨false, vars, flds⟩ vs vc fs fc] w fun e w' => e = .returned (.bool false) ∧ Below w.heap.size w w' := by
  have hmf : ∀ (fn : Fn) (first cp : Array Value) (w : World), (Instr.makeFunc fn first cp).run Tryz.prog w = .ok (.func fn first cp) w := fun _ _ _ _ => rfl
  have n1 : ((flds.length : Int) == (c.length : Int)) = false := by simp; omega
  clear h
  go_enter Tryz.func135, Tryz.ntmps135
  go_wp2
  go_ret
  exact ⟨rfl, by go_grown⟩
set_option maxHeartbeats 4000000 in
set_option maxRecDepth 10000 in
theorem isFormed_rows (V F : Int) (s : Option Addr) (c : List Ins) (cap : Nat) (vars : List Gs) (flds : List (List Gs)) (vs : Option Addr) (vc : Nat) (fs : Option Addr) (fc : Nat) (w : World) (hR : RowsAt w fs flds) (h : flds.length = c.length) (h60 : c.length ≤ 60) :
    Calls Tryz.prog 135 #[pv (vars.length : Int) F s c cap, xv ⟨false, vars, flds⟩ vs vc fs fc] w fun e w' => e = .returned (.bool (!(flds.any (fun r : List Gs => !decide ((r.length : Int) = F))))) ∧ Below w.heap.size w w' := by
  have hmf : ∀ (fn : Fn) (first cp : Array Value) (w : World), (Instr.makeFunc fn first cp).run Tryz.prog w = .ok (.func fn first cp) w := fun _ _ _ _ => rfl
  have n1 : ((flds.length : Int) == (c.length : Int)) = true := by simp; omega
  have hl : flds.length ≤ 9223372036854775807 := by omega
  have B0 : Below w.heap.size w ((w.alloc (.cells #[.int .i64 (vars.length : Int), .int .i64 F, .slice s c.length cap] 24)).alloc (.cells #[.bool false, .slice vs vars.length vc, .slice fs flds.length fc] 58)) := by go_grown
  have P0 := (PrAt.new w (vars.length : Int) F s c cap).call (w' := ((w.alloc (.cells #[.int .i64 (vars.length : Int), .int .i64 F, .slice s c.length cap] 24)).alloc (.cells #[.bool false, .slice vs vars.length vc, .slice fs flds.length fc] 58))) (by go_grown)
  have HC := hideH (containsRows_any w.heap.size (vars.length : Int) F s c cap fs fc flds ((w.alloc (.cells #[.int .i64 (vars.length : Int), .int .i64 F, .slice s c.length cap] 24)).alloc (.cells #[.bool false, .slice vs vars.length vc, .slice fs flds.length fc] 58)) hl (hR.below B0 (Nat.le_refl _)) P0)
  generalize flds.any (fun r : List Gs => !decide ((r.length : Int) = F)) = q at *
  clear hR h P0
  go_enter Tryz.func135, Tryz.ntmps135
  go_wp2_with (go_at_call 152; fail)
  refine HC.out.mono ?_
  rintro e w1 ⟨rfl, hb1⟩
  go_wp2
  go_ret
  exact ⟨rfl, B0.trans (hb1.mono B0.size)⟩

theorem isFormed_any (V F : Int) (s : Option Addr) (c : List Ins) (cap : Nat) (x : Pic) (vs : Option Addr) (vc : Nat) (fs : Option Addr) (fc : Nat) (w : World) (hP : PicAt w x vs fs) (h60 : c.length ≤ 60) :
    Calls Tryz.prog 135 #[pv V F s c cap, xv x vs vc fs fc] w fun e w' => e = .returned (.bool (formedPic V F c x)) ∧ Below w.heap.size w w' := by
  obtain ⟨n, vars, flds⟩ := x
  cases n with
  | true => exact isFormed_none V F s c cap vars flds vs vc fs fc w
  | false =>
    by_cases h1 : (vars.length : Int) = V
    · by_cases h2 : flds.length = c.length
      · have e1 : formedPic V F c ⟨false, vars, flds⟩ = !(flds.any (fun r : List Gs => !decide ((r.length : Int) = F))) := by
          unfold formedPic
          simp [h1, h2]
        rw [e1]
        have h := isFormed_rows V F s c cap vars flds vs vc fs fc w hP.2 h2 h60
        rw [h1] at h
        exact h
      · have e1 : formedPic V F c ⟨false, vars, flds⟩ = false := by
          unfold formedPic
          simp [h2]
        rw [e1]
        have h := isFormed_flds V F s c cap vars flds vs vc fs fc w h2
        rw [h1] at h
        exact h
    · have e1 : formedPic V F c ⟨false, vars, flds⟩ = false := by
        unfold formedPic
        simp [h1]
      rw [e1]
      exact isFormed_vars V F s c cap vars flds vs vc fs fc w h1
set_option maxHeartbeats 1000000 in
set_option maxRecDepth 10000 in
theorem indexSome_any (ls : Option Addr) (L : List Gs) (lc : Nat) (w : World) (hl : L.length ≤ 9223372036854775807) (hL : GsAt w ls L) :
    Calls Tryz.prog 148 #[.slice ls L.length lc, .func (.func 136) #[] #[]] w fun e w' => ∃ n : Int, e = .returned (.int .i64 n) ∧ decide (0 ≤ n) = L.any someGs ∧ Below w.heap.size w w' := by
  have HF := hideH isSomething_any
  generalize someGs = p at *
  go_enter Tryz.func148, Tryz.ntmps148
  go_wp2
  go_loopw [8] (fun i wr => ∃ k : Nat, k ≤ L.length ∧ i = .int .i64 k ∧ GsAt wr ls L ∧ Below w.heap.size w wr ∧ Hid (L.any p = (L.drop k).any p)) (fun i _ => L.length - (intOf i).toNat)
  case atStart => exact ⟨0, Nat.zero_le _, rfl, hL, Below.refl _ _, rfl⟩
  case round =>
    obtain ⟨k, hk, rfl, hR, hbr, HA⟩ := hrel
    by_cases hlt : k < L.length
    · obtain ⟨b, off, rfl, ss, gc, hG, hI, l1, l2⟩ := hR k hlt
      obtain ⟨⟨g0, g1, g2, g3, g4, g5, g6⟩, gz⟩ := id hG
      have n0 : (0 : Int) ≤ (k : Int) := by omega
      have n1 : (k : Int) < (L.length : Int) := by omega
      have s0 := hbr.size
      have HN : Hid ((L.drop k).any p = (p L[k] || (L.drop (k + 1)).any p)) := any_drop_stepJ L p k hlt
      go_wp2_with (go_at_call 136; fail)
      refine (HF.out L[k] ss gc _ hI (Nat.le_trans l1 l2)).mono ?_
      rintro e w1 ⟨rfl, hb1⟩
      cases hp : p L[k] with
      | true =>
        have HT : Hid (L.any p = true) := by show _ = _; rw [HA.out, HN.out, hp]; rfl
        clear HN HA
        go_wp2
        go_ret
        exact ⟨_, rfl, by rw [HT.out]; simp, hbr.trans (hb1.mono s0)⟩
      | false =>
        have HT : Hid (L.any p = (L.drop (k + 1)).any p) := by show _ = _; rw [HA.out, HN.out, hp]; rfl
        have hR' := hR.call hb1
        clear HN HA
        go_wp2
        go_roundw
        case rel => exact ⟨k + 1, by omega, by go_num, hR', hbr.trans (hb1.mono s0), HT⟩
        case measure => simp [intOf]; omega
    · go_wp2
      go_ret
      exact ⟨_, rfl, by rw [HA.out, List.drop_eq_nil_of_le (by omega)]; rfl, hbr⟩
set_option maxHeartbeats 1000000 in
set_option maxRecDepth 10000 in
theorem containsSome_any (ls : Option Addr) (L : List Gs) (lc : Nat) (w : World) (hl : L.length ≤ 9223372036854775807) (hL : GsAt w ls L) :
    Calls Tryz.prog 128 #[.slice ls L.length lc, .func (.func 136) #[] #[]] w fun e w' => e = .returned (.bool (L.any someGs)) ∧ Below w.heap.size w w' := by
  have HI := hideH (indexSome_any ls L lc w hl hL)
  generalize L.any someGs = res at *
  go_enter Tryz.func128, Tryz.ntmps128
  go_wp2_with (go_at_call 148; fail)
  refine HI.out.mono ?_
  rintro e w1 ⟨n, rfl, hn, hb1⟩
  subst hn
  go_wp2
  go_ret
  exact ⟨rfl, hb1⟩
end Go.Proofs.YtmapdpcfanecdaaGreat
