/- Walks over package guess: what some of many guesses may be. -/
import Derived.Test.YtmapdpcfanecdabGreatKstpxp09
set_option linter.unusedSimpArgs false
set_option linter.unusedVariables false
namespace Go.Proofs.YtmapdpcfanecdabGreat
section
set_option maxHeartbeats 1000000
set_option maxRecDepth 10000
open Go.RowKit

theorem any_drop_stepG (l : List Gs) (p : Gs → Bool) (k : Nat) (h : k < l.length) : (l.drop k).any p = (p l[k] || (l.drop (k + 1)).any p) := by
 rw [List.drop_eq_getElem_cons h]; rfl

theorem anyOther1_any (g : Gs) (ss : Option Addr) (gc : Nat) (w : World) :
  Calls Tryz.prog 165 #[gv g ss gc] w fun e w' => e = .returned (.bool (otherGs g)) ∧ Below w.heap.size w w' := by
 have HO : Hid (otherGs g = (g.n || (g.t || (g.f || decide (0 < g.s.length))))) := rfl
 generalize otherGs g = o at *
 obtain ⟨n, ⟨sn, lo, hi⟩, t, f, s⟩ := g
 cases n
 all_goals cases t
 all_goals cases f
 all_goals
  go_enter Tryz.func165, Tryz.ntmps165
  go_wp2
  go_ret
  exact ⟨ret_bool (by rw [HO.out]; simp), by go_grown⟩

theorem indexFuncG_other (p : Gs → Bool) (ls : Option Addr) (L : List Gs) (lc : Nat) (w : World) (hl : L.length ≤ 9223372036854775807) (hL : GhAt w ls L)
  (hF : ∀ g ss gc wx, Calls Tryz.prog 165 #[gv g ss gc] wx fun e w' => e = .returned (.bool (p g)) ∧ Below wx.heap.size wx w') :
  Calls Tryz.prog 135 #[.slice ls L.length lc, .func (.func 165) #[] #[]] w fun e w' => ∃ n : Int, e = .returned (.int .i64 n) ∧ decide (0 ≤ n) = L.any p ∧ Below w.heap.size w w' := by
 have HF := hideH hF
 clear hF
 go_enter Tryz.func135, Tryz.ntmps135
 go_wp2
 go_loopw [8] (fun i wr => ∃ k : Nat, k ≤ L.length ∧ i = .int .i64 k ∧ GhAt wr ls L ∧ Below w.heap.size w wr ∧ Hid (L.any p = (L.drop k).any p)) (fun i _ => L.length - (intOf i).toNat)
 case atStart => exact ⟨0, Nat.zero_le _, rfl, hL, Below.refl _ _, rfl⟩
 case round =>
  obtain ⟨k, hk, rfl, hR, hbr, HA⟩ := hrel
  by_cases hlt : k < L.length
  ·obtain ⟨b, off, rfl, ss, gc, hG⟩ := hR k hlt
   obtain ⟨⟨g0, g1, g2, g3, g4, g5, g6⟩, gz⟩ := id hG
   have n0 : (0 : Int) ≤ (k : Int) := by omega
   have n1 : (k : Int) < (L.length : Int) := by omega
   have s0 := hbr.size
   have HN : Hid ((L.drop k).any p = (p L[k] || (L.drop (k + 1)).any p)) := any_drop_stepG L p k hlt
   go_wp2_with (go_at_call 165; fail)
   refine (HF.out L[k] ss gc _).mono ?_
   rintro e w1 ⟨rfl, hb1⟩
   cases hp : p L[k] with
   | true =>
    have HT : Hid (L.any p = true) := by show _ = _; rw [HA.out, HN.out, hp]; rfl
    clear HN HA
    go_wp2
    go_ret
    exact ⟨_, rfl, by rw [HT.out]; simp, hbr.trans (hb1.mono s0)⟩
   | false =>
    have HT : Hid (L.any p = (L.drop (k + 1)).any p) := by show _ = _; rw [HA.out, HN.out, hp]; rfl
    have hR' := hR.call hb1
    clear HN HA
    go_wp2
    go_roundw
    case rel => exact ⟨k + 1, by omega, by go_num, hR', hbr.trans (hb1.mono s0), HT⟩
    case measure => simp [intOf]; omega
  ·go_wp2
   go_ret
   exact ⟨_, rfl, by rw [HA.out, List.drop_eq_nil_of_le (by omega)]; rfl, hbr⟩

theorem containsFuncG_other (p : Gs → Bool) (ls : Option Addr) (L : List Gs) (lc : Nat) (w : World) (hl : L.length ≤ 9223372036854775807) (hL : GhAt w ls L)
  (hF : ∀ g ss gc wx, Calls Tryz.prog 165 #[gv g ss gc] wx fun e w' => e = .returned (.bool (p g)) ∧ Below wx.heap.size wx w') :
  Calls Tryz.prog 108 #[.slice ls L.length lc, .func (.func 165) #[] #[]] w fun e w' => e = .returned (.bool (L.any p)) ∧ Below w.heap.size w w' := by
 have HF := hideH hF
 clear hF
 go_enter Tryz.func108, Tryz.ntmps108
 go_wp2_with (go_at_call 135; fail)
 refine (indexFuncG_other p ls L lc _ hl hL HF.out).mono ?_
 rintro e w1 ⟨n, rfl, hn, hb1⟩
 go_wp2
 go_ret
 exact ⟨rfl, hb1⟩

theorem anyOther_any (ls : Option Addr) (L : List Gs) (lc : Nat) (w : World) (hl : L.length ≤ 9223372036854775807) (hL : GhAt w ls L) :
  Calls Tryz.prog 149 #[.slice ls L.length lc] w fun e w' => e = .returned (.bool (L.any otherGs)) ∧ Below w.heap.size w w' := by
 go_enter Tryz.func149, Tryz.ntmps149
 go_wp2_with (go_at_call 108; fail)
 refine (containsFuncG_other otherGs ls L lc _ hl hL fun g ss gc wx => anyOther1_any g ss gc wx).mono ?_
 rintro e w1 ⟨rfl, hb1⟩
 go_wp2
 go_ret
 exact ⟨rfl, hb1⟩

theorem anyNothing1_any (g : Gs) (ss : Option Addr) (gc : Nat) (w : World) :
  Calls Tryz.prog 166 #[gv g ss gc] w fun e w' => e = .returned (.bool (nothingGs g)) ∧ Below w.heap.size w w' := by
 have HO : Hid (nothingGs g = (g.sp.n && !otherGs g)) := rfl
 have hA := anyOther_any (some ⟨w.heap.size + 1, 0, none⟩) [g] 1
 have G0 := GhAt.new1 (w.alloc (.cells #[.bool g.n, .bool g.sp.n, .int .i64 g.sp.lo, .int .i64 g.sp.hi, .bool g.t, .bool g.f, .slice ss g.s.length gc] 61)) g ss gc
 rw [World.size_alloc] at G0
 rw [show [g].any otherGs = otherGs g by simp] at hA
 have HA := hideH hA
 clear hA
 generalize otherGs g = oo at *
 generalize nothingGs g = o at *
 obtain ⟨n, ⟨sn, lo, hi⟩, t, f, s⟩ := g
 cases sn with
 | true =>
  go_enter Tryz.func166, Tryz.ntmps166
  go_wp2_with (go_at_call 149; fail)
  refine (HA.out _ (by simp) G0).mono ?_
  rintro e w1 ⟨rfl, hb1⟩
  go_wp2
  go_ret
  exact ⟨ret_bool (by rw [HO.out]; simp), Below.trans (by go_grown) (hb1.mono (by simp; omega))⟩
 | false =>
  go_enter Tryz.func166, Tryz.ntmps166
  go_wp2
  go_ret
  exact ⟨ret_bool (by rw [HO.out]; rfl), by go_grown⟩

theorem indexFuncG_nothing (p : Gs → Bool) (ls : Option Addr) (L : List Gs) (lc : Nat) (w : World) (hl : L.length ≤ 9223372036854775807) (hL : GhAt w ls L)
  (hF : ∀ g ss gc wx, Calls Tryz.prog 166 #[gv g ss gc] wx fun e w' => e = .returned (.bool (p g)) ∧ Below wx.heap.size wx w') :
  Calls Tryz.prog 135 #[.slice ls L.length lc, .func (.func 166) #[] #[]] w fun e w' => ∃ n : Int, e = .returned (.int .i64 n) ∧ decide (0 ≤ n) = L.any p ∧ Below w.heap.size w w' := by
 have HF := hideH hF
 clear hF
 go_enter Tryz.func135, Tryz.ntmps135
 go_wp2
 go_loopw [8] (fun i wr => ∃ k : Nat, k ≤ L.length ∧ i = .int .i64 k ∧ GhAt wr ls L ∧ Below w.heap.size w wr ∧ Hid (L.any p = (L.drop k).any p)) (fun i _ => L.length - (intOf i).toNat)
 case atStart => exact ⟨0, Nat.zero_le _, rfl, hL, Below.refl _ _, rfl⟩
 case round =>
  obtain ⟨k, hk, rfl, hR, hbr, HA⟩ := hrel
  by_cases hlt : k < L.length
  ·obtain ⟨b, off, rfl, ss, gc, hG⟩ := hR k hlt
   obtain ⟨⟨g0, g1, g2, g3, g4, g5, g6⟩, gz⟩ := id hG
   have n0 : (0 : Int) ≤ (k : Int) := by omega
   have n1 : (k : Int) < (L.length : Int) := by omega
   have s0 := hbr.size
   have HN : Hid ((L.drop k).any p = (p L[k] || (L.drop (k + 1)).any p)) := any_drop_stepG L p k hlt
   go_wp2_with (go_at_call 166; fail)
   refine (HF.out L[k] ss gc _).mono ?_
   rintro e w1 ⟨rfl, hb1⟩
   cases hp : p L[k] with
   | true =>
    have HT : Hid (L.any p = true) := by show _ = _; rw [HA.out, HN.out, hp]; rfl
    clear HN HA
    go_wp2
    go_ret
    exact ⟨_, rfl, by rw [HT.out]; simp, hbr.trans (hb1.mono s0)⟩
   | false =>
    have HT : Hid (L.any p = (L.drop (k + 1)).any p) := by show _ = _; rw [HA.out, HN.out, hp]; rfl
    have hR' := hR.call hb1
    clear HN HA
    go_wp2
    go_roundw
    case rel => exact ⟨k + 1, by omega, by go_num, hR', hbr.trans (hb1.mono s0), HT⟩
    case measure => simp [intOf]; omega
  ·go_wp2
   go_ret
   exact ⟨_, rfl, by rw [HA.out, List.drop_eq_nil_of_le (by omega)]; rfl, hbr⟩

theorem containsFuncG_nothing (p : Gs → Bool) (ls : Option Addr) (L : List Gs) (lc : Nat) (w : World) (hl : L.length ≤ 9223372036854775807) (hL : GhAt w ls L)
  (hF : ∀ g ss gc wx, Calls Tryz.prog 166 #[gv g ss gc] wx fun e w' => e = .returned (.bool (p g)) ∧ Below wx.heap.size wx w') :
  Calls Tryz.prog 108 #[.slice ls L.length lc, .func (.func 166) #[] #[]] w fun e w' => e = .returned (.bool (L.any p)) ∧ Below w.heap.size w w' := by
 have HF := hideH hF
 clear hF
 go_enter Tryz.func108, Tryz.ntmps108
 go_wp2_with (go_at_call 135; fail)
 refine (indexFuncG_nothing p ls L lc _ hl hL HF.out).mono ?_
 rintro e w1 ⟨n, rfl, hn, hb1⟩
 go_wp2
 go_ret
 exact ⟨rfl, hb1⟩

theorem anyNothing_any (ls : Option Addr) (L : List Gs) (lc : Nat) (w : World) (hl : L.length ≤ 9223372036854775807) (hL : GhAt w ls L) :
  Calls Tryz.prog 150 #[.slice ls L.length lc] w fun e w' => e = .returned (.bool (L.any nothingGs)) ∧ Below w.heap.size w w' := by
 go_enter Tryz.func150, Tryz.ntmps150
 go_wp2_with (go_at_call 108; fail)
 refine (containsFuncG_nothing nothingGs ls L lc _ hl hL fun g ss gc wx => anyNothing1_any g ss gc wx).mono ?_
 rintro e w1 ⟨rfl, hb1⟩
 go_wp2
 go_ret
 exact ⟨rfl, hb1⟩

theorem isWrong_any (ls : Option Addr) (L : List Gs) (lc : Nat) (w : World) (hl : L.length ≤ 9223372036854775807) (hL : GhAt w ls L) :
  Calls Tryz.prog 121 #[.slice ls L.length lc] w fun e w' => e = .returned (.bool (L.any otherGs && !L.any nothingGs)) ∧ Below w.heap.size w w' := by
 have H1 := hideH (anyOther_any ls L lc w hl hL)
 cases ho : L.any otherGs with
 | true =>
  rw [ho] at H1
  go_enter Tryz.func121, Tryz.ntmps121
  go_wp2_with (go_at_call 149; fail)
  refine H1.out.mono ?_
  rintro e w1 ⟨rfl, hb1⟩
  go_wp2_with (go_at_call 150; fail)
  refine (anyNothing_any ls L lc _ hl (hL.call hb1)).mono ?_
  rintro e w2 ⟨rfl, hb2⟩
  go_wp2
  go_ret
  exact ⟨rfl, hb1.trans (hb2.mono hb1.size)⟩
 | false =>
  rw [ho] at H1
  go_enter Tryz.func121, Tryz.ntmps121
  go_wp2_with (go_at_call 149; fail)
  refine H1.out.mono ?_
  rintro e w1 ⟨rfl, hb1⟩
  go_wp2
  go_ret
  exact ⟨rfl, hb1⟩

theorem less_any (s t : Sp) (w : World) :
  Calls Tryz.prog 123 #[sv s, sv t] w fun e w' => e = .returned (.tuple #[.bool (!(s.n || t.n) && decide (s.lo < t.hi)), .bool (!(s.n || t.n) && decide (t.lo ≤ s.hi))]) ∧ Below w.heap.size w w' := by
 obtain ⟨sn, lo, hi⟩ := s
 obtain ⟨tn, lo', hi'⟩ := t
 cases sn with
 | true =>
  go_enter Tryz.func123, Tryz.ntmps123
  go_wp2
  go_ret2
  exact ⟨rfl, by go_grown⟩
 | false =>
  cases tn with
  | true =>
   go_enter Tryz.func123, Tryz.ntmps123
   go_wp2
   go_ret2
   exact ⟨rfl, by go_grown⟩
  | false =>
   go_enter Tryz.func123, Tryz.ntmps123
   go_wp2
   go_quiet (fail)
   go_wp2
   go_ret2
   exact ⟨ret_t2 (by simp) (by simp), below_drewN (by go_grown) _⟩

theorem truths_any (y n : Bool) (w : World) :
  Calls Tryz.prog 122 #[.bool y, .bool n] w fun e w' => e = .returned (gv ⟨false, ⟨true, 0, 0⟩, y, n, []⟩ none 0) ∧ Below w.heap.size w w' := by
 go_enter Tryz.func122, Tryz.ntmps122
 go_wp2
 go_returns
 exact ⟨rfl, by go_grown⟩
end
end Go.Proofs.YtmapdpcfanecdabGreat
