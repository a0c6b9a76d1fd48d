/- Walks over the document's own answers: guesses: Nothing, IsNothing, NoNumber, Single. -/
import Derived.Test.YtmapdpcfanecdabGreatKstpxp14
import Derived.Test.YtmapdpcfanecdabGreatKstpxp18
set_option linter.unusedSimpArgs false
set_option linter.unusedVariables false
namespace Go.Proofs.YtmapdpcfanecdabGreat
section
set_option maxHeartbeats 1000000
set_option maxRecDepth 10000
open Go.RowKit

theorem any_drop_stepG (l : List Gs) (p : Gs → Bool) (k : Nat) (h : k < l.length) : (l.drop k).any p = (p l[k] || (l.drop (k + 1)).any p) := by
 rw [List.drop_eq_getElem_cons h]; rfl

theorem anyOther1_any (g : Gs) (ss : Option Addr) (gc : Nat) (w : World) :
  Calls Tryz.prog 165 #[gv g ss gc] w fun e w' => e = .returned (.bool (otherGs g)) ∧ Below w.heap.size w w' := by
 have HO : Hid (otherGs g = (g.n || (g.t || (g.f || decide (0 < g.s.length))))) := rfl
 generalize otherGs g = o at *
 obtain ⟨n, ⟨sn, lo, hi⟩, t, f, s⟩ := g
 cases n
 all_goals cases t
 all_goals cases f
 all_goals
  go_enter Tryz.func165, Tryz.ntmps165
  go_wp2
  go_ret
  exact ⟨ret_bool (by rw [HO.out]; simp), by go_grown⟩

theorem indexFuncG_other (p : Gs → Bool) (ls : Option Addr) (L : List Gs) (lc : Nat) (w : World) (hl : L.length ≤ 9223372036854775807) (hL : GhAt w ls L)
  (hF : ∀ g ss gc wx, Calls Tryz.prog 165 #[gv g ss gc] wx fun e w' => e = .returned (.bool (p g)) ∧ Below wx.heap.size wx w') :
  Calls Tryz.prog 135 #[.slice ls L.length lc, .func (.func 165) #[] #[]] w fun e w' => ∃ n : Int, e = .returned (.int .i64 n) ∧ decide (0 ≤ n) = L.any p ∧ Below w.heap.size w w' := by
 have HF := hideH hF
 clear hF
 go_enter Tryz.func135, Tryz.ntmps135
 go_wp2
 go_loopw [8] (fun i wr => ∃ k : Nat, k ≤ L.length ∧ i = .int .i64 k ∧ GhAt wr ls L ∧ Below w.heap.size w wr ∧ Hid (L.any p = (L.drop k).any p)) (fun i _ => L.length - (intOf i).toNat)
 case atStart => exact ⟨0, Nat.zero_le _, rfl, hL, Below.refl _ _, rfl⟩
 case round =>
  obtain ⟨k, hk, rfl, hR, hbr, HA⟩ := hrel
  by_cases hlt : k < L.length
  ·obtain ⟨b, off, rfl, ss, gc, hG⟩ := hR k hlt
   obtain ⟨⟨g0, g1, g2, g3, g4, g5, g6⟩, gz⟩ := id hG
   have n0 : (0 : Int) ≤ (k : Int) := by omega
   have n1 : (k : Int) < (L.length : Int) := by omega
   have s0 := hbr.size
   have HN : Hid ((L.drop k).any p = (p L[k] || (L.drop (k + 1)).any p)) := any_drop_stepG L p k hlt
   go_wp2_with (go_at_call 165; fail)
   refine (HF.out L[k] ss gc _).mono ?_
   rintro e w1 ⟨rfl, hb1⟩
   cases hp : p L[k] with
   | true =>
    have HT : Hid (L.any p = true) := by show _ = _; rw [HA.out, HN.out, hp]; rfl
    clear HN HA
    go_wp2
    go_ret
    exact ⟨_, rfl, by rw [HT.out]; simp, hbr.trans (hb1.mono s0)⟩
   | false =>
    have HT : Hid (L.any p = (L.drop (k + 1)).any p) := by show _ = _; rw [HA.out, HN.out, hp]; rfl
    have hR' := hR.call hb1
    clear HN HA
    go_wp2
    go_roundw
    case rel => exact ⟨k + 1, by omega, by go_num, hR', hbr.trans (hb1.mono s0), HT⟩
    case measure => simp [intOf]; omega
  ·go_wp2
   go_ret
   exact ⟨_, rfl, by rw [HA.out, List.drop_eq_nil_of_le (by omega)]; rfl, hbr⟩

theorem containsFuncG_other (p : Gs → Bool) (ls : Option Addr) (L : List Gs) (lc : Nat) (w : World) (hl : L.length ≤ 9223372036854775807) (hL : GhAt w ls L)
  (hF : ∀ g ss gc wx, Calls Tryz.prog 165 #[gv g ss gc] wx fun e w' => e = .returned (.bool (p g)) ∧ Below wx.heap.size wx w') :
  Calls Tryz.prog 108 #[.slice ls L.length lc, .func (.func 165) #[] #[]] w fun e w' => e = .returned (.bool (L.any p)) ∧ Below w.heap.size w w' := by
 have HF := hideH hF
 clear hF
 go_enter Tryz.func108, Tryz.ntmps108
 go_wp2_with (go_at_call 135; fail)
 refine (indexFuncG_other p ls L lc _ hl hL HF.out).mono ?_
 rintro e w1 ⟨n, rfl, hn, hb1⟩
 go_wp2
 go_ret
 exact ⟨rfl, hb1⟩

theorem anyOther_any (ls : Option Addr) (L : List Gs) (lc : Nat) (w : World) (hl : L.length ≤ 9223372036854775807) (hL : GhAt w ls L) :
  Calls Tryz.prog 149 #[.slice ls L.length lc] w fun e w' => e = .returned (.bool (L.any otherGs)) ∧ Below w.heap.size w w' := by
 go_enter Tryz.func149, Tryz.ntmps149
 go_wp2_with (go_at_call 108; fail)
 refine (containsFuncG_other otherGs ls L lc _ hl hL fun g ss gc wx => anyOther1_any g ss gc wx).mono ?_
 rintro e w1 ⟨rfl, hb1⟩
 go_wp2
 go_ret
 exact ⟨rfl, hb1⟩

theorem anyNothing1_any (g : Gs) (ss : Option Addr) (gc : Nat) (w : World) :
  Calls Tryz.prog 166 #[gv g ss gc] w fun e w' => e = .returned (.bool (nothingGs g)) ∧ Below w.heap.size w w' := by
 have HO : Hid (nothingGs g = (g.sp.n && !otherGs g)) := rfl
 have hA := anyOther_any (some ⟨w.heap.size + 1, 0, none⟩) [g] 1
 have G0 := GhAt.new1 (w.alloc (.cells #[.bool g.n, .bool g.sp.n, .int .i64 g.sp.lo, .int .i64 g.sp.hi, .bool g.t, .bool g.f, .slice ss g.s.length gc] 61)) g ss gc
 rw [World.size_alloc] at G0
 rw [show [g].any otherGs = otherGs g by simp] at hA
 have HA := hideH hA
 clear hA
 generalize otherGs g = oo at *
 generalize nothingGs g = o at *
 obtain ⟨n, ⟨sn, lo, hi⟩, t, f, s⟩ := g
 cases sn with
 | true =>
  go_enter Tryz.func166, Tryz.ntmps166
  go_wp2_with (go_at_call 149; fail)
  refine (HA.out _ (by simp) G0).mono ?_
  rintro e w1 ⟨rfl, hb1⟩
  go_wp2
  go_ret
  exact ⟨ret_bool (by rw [HO.out]; simp), Below.trans (by go_grown) (hb1.mono (by simp; omega))⟩
 | false =>
  go_enter Tryz.func166, Tryz.ntmps166
  go_wp2
  go_ret
  exact ⟨ret_bool (by rw [HO.out]; rfl), by go_grown⟩

theorem indexFuncG_nothing (p : Gs → Bool) (ls : Option Addr) (L : List Gs) (lc : Nat) (w : World) (hl : L.length ≤ 9223372036854775807) (hL : GhAt w ls L)
  (hF : ∀ g ss gc wx, Calls Tryz.prog 166 #[gv g ss gc] wx fun e w' => e = .returned (.bool (p g)) ∧ Below wx.heap.size wx w') :
  Calls Tryz.prog 135 #[.slice ls L.length lc, .func (.func 166) #[] #[]] w fun e w' => ∃ n : Int, e = .returned (.int .i64 n) ∧ decide (0 ≤ n) = L.any p ∧ Below w.heap.size w w' := by
 have HF := hideH hF
 clear hF
 go_enter Tryz.func135, Tryz.ntmps135
 go_wp2
 go_loopw [8] (fun i wr => ∃ k : Nat, k ≤ L.length ∧ i = .int .i64 k ∧ GhAt wr ls L ∧ Below w.heap.size w wr ∧ Hid (L.any p = (L.drop k).any p)) (fun i _ => L.length - (intOf i).toNat)
 case atStart => exact ⟨0, Nat.zero_le _, rfl, hL, Below.refl _ _, rfl⟩
 case round =>
  obtain ⟨k, hk, rfl, hR, hbr, HA⟩ := hrel
  by_cases hlt : k < L.length
  ·obtain ⟨b, off, rfl, ss, gc, hG⟩ := hR k hlt
   obtain ⟨⟨g0, g1, g2, g3, g4, g5, g6⟩, gz⟩ := id hG
   have n0 : (0 : Int) ≤ (k : Int) := by omega
   have n1 : (k : Int) < (L.length : Int) := by omega
   have s0 := hbr.size
   have HN : Hid ((L.drop k).any p = (p L[k] || (L.drop (k + 1)).any p)) := any_drop_stepG L p k hlt
   go_wp2_with (go_at_call 166; fail)
   refine (HF.out L[k] ss gc _).mono ?_
   rintro e w1 ⟨rfl, hb1⟩
   cases hp : p L[k] with
   | true =>
    have HT : Hid (L.any p = true) := by show _ = _; rw [HA.out, HN.out, hp]; rfl
    clear HN HA
    go_wp2
    go_ret
    exact ⟨_, rfl, by rw [HT.out]; simp, hbr.trans (hb1.mono s0)⟩
   | false =>
    have HT : Hid (L.any p = (L.drop (k + 1)).any p) := by show _ = _; rw [HA.out, HN.out, hp]; rfl
    have hR' := hR.call hb1
    clear HN HA
    go_wp2
    go_roundw
    case rel => exact ⟨k + 1, by omega, by go_num, hR', hbr.trans (hb1.mono s0), HT⟩
    case measure => simp [intOf]; omega
  ·go_wp2
   go_ret
   exact ⟨_, rfl, by rw [HA.out, List.drop_eq_nil_of_le (by omega)]; rfl, hbr⟩

theorem containsFuncG_nothing (p : Gs → Bool) (ls : Option Addr) (L : List Gs) (lc : Nat) (w : World) (hl : L.length ≤ 9223372036854775807) (hL : GhAt w ls L)
  (hF : ∀ g ss gc wx, Calls Tryz.prog 166 #[gv g ss gc] wx fun e w' => e = .returned (.bool (p g)) ∧ Below wx.heap.size wx w') :
  Calls Tryz.prog 108 #[.slice ls L.length lc, .func (.func 166) #[] #[]] w fun e w' => e = .returned (.bool (L.any p)) ∧ Below w.heap.size w w' := by
 have HF := hideH hF
 clear hF
 go_enter Tryz.func108, Tryz.ntmps108
 go_wp2_with (go_at_call 135; fail)
 refine (indexFuncG_nothing p ls L lc _ hl hL HF.out).mono ?_
 rintro e w1 ⟨n, rfl, hn, hb1⟩
 go_wp2
 go_ret
 exact ⟨rfl, hb1⟩

theorem anyNothing_any (ls : Option Addr) (L : List Gs) (lc : Nat) (w : World) (hl : L.length ≤ 9223372036854775807) (hL : GhAt w ls L) :
  Calls Tryz.prog 150 #[.slice ls L.length lc] w fun e w' => e = .returned (.bool (L.any nothingGs)) ∧ Below w.heap.size w w' := by
 go_enter Tryz.func150, Tryz.ntmps150
 go_wp2_with (go_at_call 108; fail)
 refine (containsFuncG_nothing nothingGs ls L lc _ hl hL fun g ss gc wx => anyNothing1_any g ss gc wx).mono ?_
 rintro e w1 ⟨rfl, hb1⟩
 go_wp2
 go_ret
 exact ⟨rfl, hb1⟩

theorem isWrong_any (ls : Option Addr) (L : List Gs) (lc : Nat) (w : World) (hl : L.length ≤ 9223372036854775807) (hL : GhAt w ls L) :
  Calls Tryz.prog 121 #[.slice ls L.length lc] w fun e w' => e = .returned (.bool (L.any otherGs && !L.any nothingGs)) ∧ Below w.heap.size w w' := by
 have H1 := hideH (anyOther_any ls L lc w hl hL)
 cases ho : L.any otherGs with
 | true =>
  rw [ho] at H1
  go_enter Tryz.func121, Tryz.ntmps121
  go_wp2_with (go_at_call 149; fail)
  refine H1.out.mono ?_
  rintro e w1 ⟨rfl, hb1⟩
  go_wp2_with (go_at_call 150; fail)
  refine (anyNothing_any ls L lc _ hl (hL.call hb1)).mono ?_
  rintro e w2 ⟨rfl, hb2⟩
  go_wp2
  go_ret
  exact ⟨rfl, hb1.trans (hb2.mono hb1.size)⟩
 | false =>
  rw [ho] at H1
  go_enter Tryz.func121, Tryz.ntmps121
  go_wp2_with (go_at_call 149; fail)
  refine H1.out.mono ?_
  rintro e w1 ⟨rfl, hb1⟩
  go_wp2
  go_ret
  exact ⟨rfl, hb1⟩

theorem less_any (s t : Sp) (w : World) :
  Calls Tryz.prog 123 #[sv s, sv t] w fun e w' => e = .returned (.tuple #[.bool (!(s.n || t.n) && decide (s.lo < t.hi)), .bool (!(s.n || t.n) && decide (t.lo ≤ s.hi))]) ∧ Below w.heap.size w w' := by
 obtain ⟨sn, lo, hi⟩ := s
 obtain ⟨tn, lo', hi'⟩ := t
 cases sn with
 | true =>
  go_enter Tryz.func123, Tryz.ntmps123
  go_wp2
  go_ret2
  exact ⟨rfl, by go_grown⟩
 | false =>
  cases tn with
  | true =>
   go_enter Tryz.func123, Tryz.ntmps123
   go_wp2
   go_ret2
   exact ⟨rfl, by go_grown⟩
  | false =>
   go_enter Tryz.func123, Tryz.ntmps123
   go_wp2
   go_quiet (fail)
   go_wp2
   go_ret2
   exact ⟨ret_t2 (by simp) (by simp), below_drewN (by go_grown) _⟩

theorem truths_any (y n : Bool) (w : World) :
  Calls Tryz.prog 122 #[.bool y, .bool n] w fun e w' => e = .returned (gv ⟨false, ⟨true, 0, 0⟩, y, n, []⟩ none 0) ∧ Below w.heap.size w w' := by
 go_enter Tryz.func122, Tryz.ntmps122
 go_wp2
 go_returns
 exact ⟨rfl, by go_grown⟩
end
section
set_option maxHeartbeats 4000000
set_option maxRecDepth 100000
open Go.RowKit

theorem prf_d9b416 {p : Prop} (h : p := by
 clear HC HD HR
 by_cases h1 : lo = hi
 ·by_cases h2 : s.length = 0
  ·have HT : Hid (r = true) := by show _ = _; rw [HQ.out]; simp [h1, h2]
   have h2' : ((s.length : Int) == 0) = true := by simp only [beq_iff_eq]; omega
   subst h1
   clear HQ h2
   go_enter Tryz.func167, Tryz.ntmps167
   go_wp2
   go_rounds 5
   go_ret
   exact ⟨ret_bool (HT.out.symm), by go_grown⟩
  ·have HT : Hid (r = false) := by show _ = _; rw [HQ.out]; simp [h2]
   have h2' : ((s.length : Int) == 0) = false := by simp only [beq_eq_false_iff_ne]; omega
   subst h1
   clear HQ
   go_enter Tryz.func167, Tryz.ntmps167
   go_wp2
   go_rounds 5
   go_ret
   exact ⟨ret_bool (HT.out.symm), by go_grown⟩
 ·have HT : Hid (r = false) := by show _ = _; rw [HQ.out]; simp [h1]
  have h1' : (lo == hi) = false := by simpa using h1
  clear HQ
  go_enter Tryz.func167, Tryz.ntmps167
  go_wp2
  go_rounds 5
  go_ret
  exact ⟨ret_bool (HT.out.symm), by go_grown⟩) : p := h
theorem isSingle_any (g : Gs) (ss : Option Addr) (gc : Nat) (w : World) :
  Calls Tryz.prog 167 #[gv g ss gc] w fun e w' => e = .returned (.bool (singleGs g)) ∧ Below w.heap.size w w' := by
 have HR : Hid (singleGs g = (decide (b2n g.n + b2n (!g.sp.n) + b2n g.t + b2n g.f = 1) && (decide (g.sp.lo = g.sp.hi) && decide (g.s.length = 0)))) := rfl
 generalize singleGs g = r at HR ⊢
 obtain ⟨n, ⟨sn, lo, hi⟩, t, f, s⟩ := g
 have HC : ∀ m : Nat, m ≠ 1 → Hid (b2n n + b2n (!sn) + b2n t + b2n f = m) → Hid (r = false) := by
  intro m hm h
  show _ = _
  rw [HR.out, h.out]
  simp [hm]
 have HD : Hid (b2n n + b2n (!sn) + b2n t + b2n f = 1) → Hid (r = (decide (lo = hi) && decide (s.length = 0))) := by
  intro h
  show _ = _
  rw [HR.out, h.out]
  simp
 cases n <;> cases sn <;> cases t <;> cases f
 ·have HQ := HD rfl
  exact prf_d9b416
 ·have HT := HC 2 (by decide) rfl
  clear HC HD HR
  go_enter Tryz.func167, Tryz.ntmps167
  go_wp2
  go_rounds 5
  go_ret
  exact ⟨ret_bool (HT.out.symm), by go_grown⟩
 ·have HT := HC 2 (by decide) rfl
  clear HC HD HR
  go_enter Tryz.func167, Tryz.ntmps167
  go_wp2
  go_rounds 5
  go_ret
  exact ⟨ret_bool (HT.out.symm), by go_grown⟩
 ·have HT := HC 3 (by decide) rfl
  clear HC HD HR
  go_enter Tryz.func167, Tryz.ntmps167
  go_wp2
  go_rounds 5
  go_ret
  exact ⟨ret_bool (HT.out.symm), by go_grown⟩
 ·have HT := HC 0 (by decide) rfl
  clear HC HD HR
  go_enter Tryz.func167, Tryz.ntmps167
  go_wp2
  go_rounds 5
  go_ret
  exact ⟨ret_bool (HT.out.symm), by go_grown⟩
 ·have HQ := HD rfl
  exact prf_d9b416
 ·have HQ := HD rfl
  exact prf_d9b416
 ·have HT := HC 2 (by decide) rfl
  clear HC HD HR
  go_enter Tryz.func167, Tryz.ntmps167
  go_wp2
  go_rounds 5
  go_ret
  exact ⟨ret_bool (HT.out.symm), by go_grown⟩
 ·have HT := HC 2 (by decide) rfl
  clear HC HD HR
  go_enter Tryz.func167, Tryz.ntmps167
  go_wp2
  go_rounds 5
  go_ret
  exact ⟨ret_bool (HT.out.symm), by go_grown⟩
 ·have HT := HC 3 (by decide) rfl
  clear HC HD HR
  go_enter Tryz.func167, Tryz.ntmps167
  go_wp2
  go_rounds 5
  go_ret
  exact ⟨ret_bool (HT.out.symm), by go_grown⟩
 ·have HT := HC 3 (by decide) rfl
  clear HC HD HR
  go_enter Tryz.func167, Tryz.ntmps167
  go_wp2
  go_rounds 5
  go_ret
  exact ⟨ret_bool (HT.out.symm), by go_grown⟩
 ·have HT := HC 4 (by decide) rfl
  clear HC HD HR
  go_enter Tryz.func167, Tryz.ntmps167
  go_wp2
  go_rounds 5
  go_ret
  exact ⟨ret_bool (HT.out.symm), by go_grown⟩
 ·have HQ := HD rfl
  exact prf_d9b416
 ·have HT := HC 2 (by decide) rfl
  clear HC HD HR
  go_enter Tryz.func167, Tryz.ntmps167
  go_wp2
  go_rounds 5
  go_ret
  exact ⟨ret_bool (HT.out.symm), by go_grown⟩
 ·have HT := HC 2 (by decide) rfl
  clear HC HD HR
  go_enter Tryz.func167, Tryz.ntmps167
  go_wp2
  go_rounds 5
  go_ret
  exact ⟨ret_bool (HT.out.symm), by go_grown⟩
 ·have HT := HC 3 (by decide) rfl
  clear HC HD HR
  go_enter Tryz.func167, Tryz.ntmps167
  go_wp2
  go_rounds 5
  go_ret
  exact ⟨ret_bool (HT.out.symm), by go_grown⟩

theorem isAlike_any (g : Gs) (ss : Option Addr) (gc : Nat) (h : Gs) (st : Option Addr) (hc : Nat) (w : World) :
  Calls Tryz.prog 152 #[gv g ss gc, gv h st hc] w fun e w' => e = .returned (.bool (alikeGs g h)) ∧ Below w.heap.size w w' := by
 have HR : Hid (alikeGs g h = (singleGs g && (singleGs h && (g.n == h.n && (decide (g.sp = h.sp) && (g.t == h.t && g.f == h.f)))))) := rfl
 have H1 := hideH (fun w => isSingle_any g ss gc w)
 have H2 := hideH (fun w => isSingle_any h st hc w)
 generalize alikeGs g h = r at HR ⊢
 generalize singleGs g = s1 at HR H1
 generalize singleGs h = s2 at HR H2
 have B0 : Below w.heap.size w ((w.alloc (.cells #[.bool g.n, .bool g.sp.n, .int .i64 g.sp.lo, .int .i64 g.sp.hi, .bool g.t, .bool g.f, .slice ss g.s.length gc] 61)).alloc (.cells #[.bool h.n, .bool h.sp.n, .int .i64 h.sp.lo, .int .i64 h.sp.hi, .bool h.t, .bool h.f, .slice st h.s.length hc] 61)) := by go_grown
 have G0 := (GuAt.new w g ss gc).alloc (.cells #[.bool h.n, .bool h.sp.n, .int .i64 h.sp.lo, .int .i64 h.sp.hi, .bool h.t, .bool h.f, .slice st h.s.length hc] 61)
 have H0 := GuAt.new (w.alloc (.cells #[.bool g.n, .bool g.sp.n, .int .i64 g.sp.lo, .int .i64 g.sp.hi, .bool g.t, .bool g.f, .slice ss g.s.length gc] 61)) h st hc
 rw [World.size_alloc] at H0
 cases s1 with
 | false =>
  go_enter Tryz.func152, Tryz.ntmps152
  go_wp2_with (go_at_call 167; fail)
  refine (H1.out _).mono ?_
  rintro e w1 ⟨rfl, hb1⟩
  go_wp2
  go_ret
  exact ⟨ret_bool (by rw [HR.out]; rfl), B0.trans (hb1.mono B0.size)⟩
 | true =>
  go_enter Tryz.func152, Tryz.ntmps152
  go_wp2_with (go_at_call 167; fail)
  refine (H1.out _).mono ?_
  rintro e w1 ⟨rfl, hb1⟩
  have G1 := G0.call hb1
  have K1 := H0.call hb1
  have B1 := B0.trans (hb1.mono B0.size)
  clear hb1 G0 H0 B0
  obtain ⟨⟨k0, k1, k2, k3, k4, k5, k6⟩, kz⟩ := id K1
  simp only [Nat.zero_add] at k0 k1 k2 k3 k4 k5 k6
  go_wp2_with (go_at_call 167; fail)
  refine (H2.out _).mono ?_
  rintro e w2 ⟨rfl, hb2⟩
  have G2 := G1.call hb2
  have K2 := K1.call hb2
  have B2 := B1.trans (hb2.mono B1.size)
  clear hb2 G1 K1 B1 k0 k1 k2 k3 k4 k5 k6 kz
  obtain ⟨⟨g0, g1, g2, g3, g4, g5, g6⟩, gz⟩ := id G2
  obtain ⟨⟨k0, k1, k2, k3, k4, k5, k6⟩, kz⟩ := id K2
  simp only [Nat.zero_add] at g0 g1 g2 g3 g4 g5 g6 k0 k1 k2 k3 k4 k5 k6
  cases s2 with
  | false =>
   go_wp2
   go_ret
   exact ⟨ret_bool (by rw [HR.out]; rfl), B2⟩
  | true =>
   rw [sp_eq] at HR
   obtain ⟨n, ⟨sn, lo, hi⟩, t, f, s⟩ := g
   obtain ⟨n', ⟨sn', lo', hi'⟩, t', f', s'⟩ := h
   simp only at HR g0 g1 g2 g3 g4 g5 g6 k0 k1 k2 k3 k4 k5 k6
   go_wp2
   all_goals go_ret
   all_goals exact ⟨ret_bool (by rw [HR.out]; simp_all), B2⟩
end
section
set_option maxHeartbeats 4000000
set_option maxRecDepth 100000
open Go.RowKit

/-- Which one value a guess may be alone, or -1. -/
def whichGs (g : Gs) : Int := if g.f then 3 else if g.t then 2 else if !g.sp.n then 1 else if g.n then 0 else -1
def oneGs (g : Gs) : Int := if singleGs g then whichGs g else -1

theorem alike_one (g h : Gs) : (!alikeGs g h) = (decide (oneGs g < 0) || (decide (oneGs g ≠ oneGs h) || decide (g.sp ≠ h.sp))) := by
 unfold alikeGs oneGs
 obtain ⟨n, sp, t, f, s⟩ := g
 obtain ⟨n', sp', t', f', s'⟩ := h
 by_cases hs : sp = sp'
 ·subst hs
  obtain ⟨sn, lo, hi⟩ := sp
  by_cases h1 : lo = hi <;> by_cases h2 : s.length = 0 <;> by_cases h3 : s'.length = 0 <;> cases n <;> cases sn <;> cases t <;> cases f <;> cases n' <;> cases t' <;> cases f' <;> simp [singleGs, whichGs, b2n, h1, h2, h3]
 ·simp [hs]

theorem nothingR_any (w : World) : Calls Tryz.prog 21 #[] w fun e w' => e = .returned (gv noneG none 0) ∧ Below w.heap.size w w' := by
 go_enter Tryz.func21, Tryz.ntmps21
 go_wp2
 refine bodyPost_ret (v := gv noneG none 0) (by simp [results, Tryz.results21, go_sem, noneG]) rfl ⟨rfl, by go_grown⟩

theorem isNothing_any (g : Gs) (ss : Option Addr) (gc : Nat) (w : World) :
  Calls Tryz.prog 28 #[gv g ss gc] w fun e w' => e = .returned (.bool (nothingGs g)) ∧ Below w.heap.size w w' := by
 have HR : Hid (nothingGs g = (g.sp.n && !(g.n || (g.t || (g.f || decide (0 < g.s.length)))))) := rfl
 generalize nothingGs g = r at HR ⊢
 obtain ⟨n, ⟨sn, lo, hi⟩, t, f, s⟩ := g
 cases n
 ·cases sn
  ·go_enter Tryz.func28, Tryz.ntmps28
   go_wp2
   go_ret
   exact ⟨ret_bool (by rw [HR.out]; simp), by go_grown⟩
  ·cases t
   ·cases f
    ·by_cases h2 : s.length = 0
     ·have h2' : ((s.length : Int) == 0) = true := by simp only [beq_iff_eq]; omega
      have h2'' : ¬ ((0 : Int) < (s.length : Int)) := by omega
      go_enter Tryz.func28, Tryz.ntmps28
      go_wp2
      go_ret
      exact ⟨ret_bool (by rw [HR.out]; simp [h2]), by go_grown⟩
     ·have h2' : ((s.length : Int) == 0) = false := by simp only [beq_eq_false_iff_ne]; omega
      have h2'' : (0 : Int) < (s.length : Int) := by omega
      go_enter Tryz.func28, Tryz.ntmps28
      go_wp2
      go_ret
      exact ⟨ret_bool (by rw [HR.out]; first | (simp; done) | (simp; omega)), by go_grown⟩
    ·go_enter Tryz.func28, Tryz.ntmps28
     go_wp2
     go_ret
     exact ⟨ret_bool (by rw [HR.out]; simp), by go_grown⟩
   ·go_enter Tryz.func28, Tryz.ntmps28
    go_wp2
    go_ret
    exact ⟨ret_bool (by rw [HR.out]; simp), by go_grown⟩
 ·go_enter Tryz.func28, Tryz.ntmps28
  go_wp2
  go_ret
  exact ⟨ret_bool (by rw [HR.out]; simp), by go_grown⟩

theorem noNumber_any (g : Gs) (ss : Option Addr) (gc : Nat) (w : World) :
  Calls Tryz.prog 62 #[gv g ss gc] w fun e w' => e = .returned (.bool (otherGs g)) ∧ Below w.heap.size w w' := by
 have HR : Hid (otherGs g = (g.n || (g.t || (g.f || decide (0 < g.s.length))))) := rfl
 generalize otherGs g = r at HR ⊢
 obtain ⟨n, ⟨sn, lo, hi⟩, t, f, s⟩ := g
 cases n
 ·cases t
  ·cases f
   ·by_cases h2 : s.length = 0
    ·have h2' : ((s.length : Int) == 0) = true := by simp only [beq_iff_eq]; omega
     have h2'' : ¬ ((0 : Int) < (s.length : Int)) := by omega
     go_enter Tryz.func62, Tryz.ntmps62
     go_wp2
     go_ret
     exact ⟨ret_bool (by rw [HR.out]; simp [h2]), by go_grown⟩
    ·have h2' : ((s.length : Int) == 0) = false := by simp only [beq_eq_false_iff_ne]; omega
     have h2'' : (0 : Int) < (s.length : Int) := by omega
     go_enter Tryz.func62, Tryz.ntmps62
     go_wp2
     go_ret
     exact ⟨ret_bool (by rw [HR.out]; first | (simp; done) | (simp; omega)), by go_grown⟩
   ·go_enter Tryz.func62, Tryz.ntmps62
    go_wp2
    go_ret
    exact ⟨ret_bool (by rw [HR.out]; simp), by go_grown⟩
  ·go_enter Tryz.func62, Tryz.ntmps62
   go_wp2
   go_ret
   exact ⟨ret_bool (by rw [HR.out]; simp), by go_grown⟩
 ·go_enter Tryz.func62, Tryz.ntmps62
  go_wp2
  go_ret
  exact ⟨ret_bool (by rw [HR.out]; simp), by go_grown⟩

theorem prf_e103b7 {p : Prop} (h : p := by
 have h1' : (lo != hi) = true := by simpa using h1
 by_cases h2 : s.length = 0
 ·have h2' : ¬ ((0 : Int) < (s.length : Int)) := by omega
  have h2n : ¬ (0 < s.length) := by omega
  clear HR
  go_enter Tryz.func61, Tryz.ntmps61
  go_wp2
  go_rounds 5
  go_ret
  exact ⟨ret_int (HT.out.symm), by go_grown⟩
 ·have h2' : (0 : Int) < (s.length : Int) := by omega
  have h2n : 0 < s.length := by omega
  clear HR
  go_enter Tryz.func61, Tryz.ntmps61
  go_wp2
  go_rounds 5
  go_ret
  exact ⟨ret_int (HT.out.symm), by go_grown⟩) : p := h
theorem single_any (g : Gs) (ss : Option Addr) (gc : Nat) (w : World) :
  Calls Tryz.prog 61 #[gv g ss gc] w fun e w' => e = .returned (.int .i64 (oneGs g)) ∧ Below w.heap.size w w' := by
 have HR : Hid (oneGs g = if (decide (b2n g.n + b2n (!g.sp.n) + b2n g.t + b2n g.f = 1) && (decide (g.sp.lo = g.sp.hi) && decide (g.s.length = 0))) = true then (if g.f then 3 else if g.t then 2 else if !g.sp.n then 1 else if g.n then 0 else -1) else -1) := rfl
 generalize oneGs g = r at HR ⊢
 obtain ⟨n, ⟨sn, lo, hi⟩, t, f, s⟩ := g
 cases n <;> cases sn <;> cases t <;> cases f
 ·by_cases h1 : lo = hi
  ·by_cases h2 : s.length = 0
   ·have HT : Hid (r = 1) := by show _ = _; rw [HR.out]; simp [h1, h2, b2n]
    have h2' : ¬ ((0 : Int) < (s.length : Int)) := by omega
    have h2n : ¬ (0 < s.length) := by omega
    subst h1
    clear HR
    go_enter Tryz.func61, Tryz.ntmps61
    go_wp2
    go_rounds 5
    go_ret
    exact ⟨ret_int (HT.out.symm), by go_grown⟩
   ·have HT : Hid (r = -1) := by show _ = _; rw [HR.out]; simp [h2]
    have h2' : (0 : Int) < (s.length : Int) := by omega
    have h2n : 0 < s.length := by omega
    subst h1
    clear HR
    go_enter Tryz.func61, Tryz.ntmps61
    go_wp2
    go_rounds 5
    go_ret
    exact ⟨ret_int (HT.out.symm), by go_grown⟩
  ·have HT : Hid (r = -1) := by show _ = _; rw [HR.out]; simp [h1]
   exact prf_e103b7
 ·have HT : Hid (r = -1) := by show _ = _; rw [HR.out]; simp [b2n]
  clear HR
  go_enter Tryz.func61, Tryz.ntmps61
  go_wp2
  go_rounds 5
  go_ret
  exact ⟨ret_int (HT.out.symm), by go_grown⟩
 ·have HT : Hid (r = -1) := by show _ = _; rw [HR.out]; simp [b2n]
  clear HR
  go_enter Tryz.func61, Tryz.ntmps61
  go_wp2
  go_rounds 5
  go_ret
  exact ⟨ret_int (HT.out.symm), by go_grown⟩
 ·have HT : Hid (r = -1) := by show _ = _; rw [HR.out]; simp [b2n]
  clear HR
  go_enter Tryz.func61, Tryz.ntmps61
  go_wp2
  go_rounds 5
  go_ret
  exact ⟨ret_int (HT.out.symm), by go_grown⟩
 ·have HT : Hid (r = -1) := by show _ = _; rw [HR.out]; simp [b2n]
  clear HR
  go_enter Tryz.func61, Tryz.ntmps61
  go_wp2
  go_rounds 5
  go_ret
  exact ⟨ret_int (HT.out.symm), by go_grown⟩
 ·by_cases h1 : lo = hi
  ·by_cases h2 : s.length = 0
   ·have HT : Hid (r = 3) := by show _ = _; rw [HR.out]; simp [h1, h2, b2n]
    have h2' : ¬ ((0 : Int) < (s.length : Int)) := by omega
    have h2n : ¬ (0 < s.length) := by omega
    subst h1
    clear HR
    go_enter Tryz.func61, Tryz.ntmps61
    go_wp2
    go_rounds 5
    go_ret
    exact ⟨ret_int (HT.out.symm), by go_grown⟩
   ·have HT : Hid (r = -1) := by show _ = _; rw [HR.out]; simp [h2]
    have h2' : (0 : Int) < (s.length : Int) := by omega
    have h2n : 0 < s.length := by omega
    subst h1
    clear HR
    go_enter Tryz.func61, Tryz.ntmps61
    go_wp2
    go_rounds 5
    go_ret
    exact ⟨ret_int (HT.out.symm), by go_grown⟩
  ·have HT : Hid (r = -1) := by show _ = _; rw [HR.out]; simp [h1]
   exact prf_e103b7
 ·by_cases h1 : lo = hi
  ·by_cases h2 : s.length = 0
   ·have HT : Hid (r = 2) := by show _ = _; rw [HR.out]; simp [h1, h2, b2n]
    have h2' : ¬ ((0 : Int) < (s.length : Int)) := by omega
    have h2n : ¬ (0 < s.length) := by omega
    subst h1
    clear HR
    go_enter Tryz.func61, Tryz.ntmps61
    go_wp2
    go_rounds 5
    go_ret
    exact ⟨ret_int (HT.out.symm), by go_grown⟩
   ·have HT : Hid (r = -1) := by show _ = _; rw [HR.out]; simp [h2]
    have h2' : (0 : Int) < (s.length : Int) := by omega
    have h2n : 0 < s.length := by omega
    subst h1
    clear HR
    go_enter Tryz.func61, Tryz.ntmps61
    go_wp2
    go_rounds 5
    go_ret
    exact ⟨ret_int (HT.out.symm), by go_grown⟩
  ·have HT : Hid (r = -1) := by show _ = _; rw [HR.out]; simp [h1]
   exact prf_e103b7
 ·have HT : Hid (r = -1) := by show _ = _; rw [HR.out]; simp [b2n]
  clear HR
  go_enter Tryz.func61, Tryz.ntmps61
  go_wp2
  go_rounds 5
  go_ret
  exact ⟨ret_int (HT.out.symm), by go_grown⟩
 ·have HT : Hid (r = -1) := by show _ = _; rw [HR.out]; simp [b2n]
  clear HR
  go_enter Tryz.func61, Tryz.ntmps61
  go_wp2
  go_rounds 5
  go_ret
  exact ⟨ret_int (HT.out.symm), by go_grown⟩
 ·have HT : Hid (r = -1) := by show _ = _; rw [HR.out]; simp [b2n]
  clear HR
  go_enter Tryz.func61, Tryz.ntmps61
  go_wp2
  go_rounds 5
  go_ret
  exact ⟨ret_int (HT.out.symm), by go_grown⟩
 ·have HT : Hid (r = -1) := by show _ = _; rw [HR.out]; simp [b2n]
  clear HR
  go_enter Tryz.func61, Tryz.ntmps61
  go_wp2
  go_rounds 5
  go_ret
  exact ⟨ret_int (HT.out.symm), by go_grown⟩
 ·have HT : Hid (r = -1) := by show _ = _; rw [HR.out]; simp [b2n]
  clear HR
  go_enter Tryz.func61, Tryz.ntmps61
  go_wp2
  go_rounds 5
  go_ret
  exact ⟨ret_int (HT.out.symm), by go_grown⟩
 ·by_cases h1 : lo = hi
  ·by_cases h2 : s.length = 0
   ·have HT : Hid (r = 0) := by show _ = _; rw [HR.out]; simp [h1, h2, b2n]
    have h2' : ¬ ((0 : Int) < (s.length : Int)) := by omega
    have h2n : ¬ (0 < s.length) := by omega
    subst h1
    clear HR
    go_enter Tryz.func61, Tryz.ntmps61
    go_wp2
    go_rounds 5
    go_ret
    exact ⟨ret_int (HT.out.symm), by go_grown⟩
   ·have HT : Hid (r = -1) := by show _ = _; rw [HR.out]; simp [h2]
    have h2' : (0 : Int) < (s.length : Int) := by omega
    have h2n : 0 < s.length := by omega
    subst h1
    clear HR
    go_enter Tryz.func61, Tryz.ntmps61
    go_wp2
    go_rounds 5
    go_ret
    exact ⟨ret_int (HT.out.symm), by go_grown⟩
  ·have HT : Hid (r = -1) := by show _ = _; rw [HR.out]; simp [h1]
   exact prf_e103b7
 ·have HT : Hid (r = -1) := by show _ = _; rw [HR.out]; simp [b2n]
  clear HR
  go_enter Tryz.func61, Tryz.ntmps61
  go_wp2
  go_rounds 5
  go_ret
  exact ⟨ret_int (HT.out.symm), by go_grown⟩
 ·have HT : Hid (r = -1) := by show _ = _; rw [HR.out]; simp [b2n]
  clear HR
  go_enter Tryz.func61, Tryz.ntmps61
  go_wp2
  go_rounds 5
  go_ret
  exact ⟨ret_int (HT.out.symm), by go_grown⟩
 ·have HT : Hid (r = -1) := by show _ = _; rw [HR.out]; simp [b2n]
  clear HR
  go_enter Tryz.func61, Tryz.ntmps61
  go_wp2
  go_rounds 5
  go_ret
  exact ⟨ret_int (HT.out.symm), by go_grown⟩
end
end Go.Proofs.YtmapdpcfanecdabGreat
