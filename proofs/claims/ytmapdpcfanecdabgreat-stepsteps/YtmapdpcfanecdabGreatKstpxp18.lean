/- The sites that one of two guesses has: what the program makes of them is what the document says. -/
import Derived.Test.YtmapdpcfanecdabGreatKstpxp17
import Derived.Test.YtmapdpcfanecdabGreatKstpxp16
import Derived.Test.YtmapdpcfanecdabGreatKstpxp14
import Derived.Test.YtmapdpcfanecdabGreatKstpxp15
import Derived.Test.YtmapdpcfanecdabGreatKstpxp13
import Derived.Deep.AppendLies
set_option linter.unusedSimpArgs false
set_option linter.unusedVariables false
namespace Go.Proofs.YtmapdpcfanecdabGreat
section
set_option maxHeartbeats 8000000
set_option maxRecDepth 20000
open Go.RowKit

theorem doSpan_sub (lo hi lo' hi' a b c d : Int) (w : World) (h1 : IntKind.i64.wrap (lo - lo') = a) (h2 : IntKind.i64.wrap (lo - hi') = b) (h3 : IntKind.i64.wrap (hi - lo') = c) (h4 : IntKind.i64.wrap (hi - hi') = d) :
  Calls Tryz.prog 63 #[.int .i64 6, sv ⟨false, lo, hi⟩, sv ⟨false, lo', hi'⟩] w fun e w' => e = .returned (sv (hull a b c d)) ∧ Below w.heap.size w w' := prf_125584
end
section
set_option maxHeartbeats 8000000
set_option maxRecDepth 20000
open Go.RowKit

theorem doSpan_mul (lo hi lo' hi' a b c d : Int) (w : World) (h1 : IntKind.i64.wrap (lo * lo') = a) (h2 : IntKind.i64.wrap (lo * hi') = b) (h3 : IntKind.i64.wrap (hi * lo') = c) (h4 : IntKind.i64.wrap (hi * hi') = d) :
  Calls Tryz.prog 63 #[.int .i64 7, sv ⟨false, lo, hi⟩, sv ⟨false, lo', hi'⟩] w fun e w' => e = .returned (sv (hull a b c d)) ∧ Below w.heap.size w w' := prf_125584
end
section
set_option maxHeartbeats 4000000
set_option maxRecDepth 20000
open Go.RowKit

theorem joinSpan_f (lo hi lo' hi' : Int) (w : World) :
  Calls Tryz.prog 58 #[sv ⟨false, lo, hi⟩, sv ⟨false, lo', hi'⟩, .bool false] w fun e w' => e = .returned (sv ⟨false, min lo lo', max hi hi'⟩) ∧ Below w.heap.size w w' := by
 go_enter Tryz.func58, Tryz.ntmps58
 go_wp2
 go_region_held3 (fun w' => w'.cell? ⟨w.heap.size, 1, none⟩ = some (.int .i64 lo) ∧ w'.cell? ⟨w.heap.size, 2, none⟩ = some (.int .i64 hi) ∧ w'.cell? ⟨w.heap.size + 1, 1, none⟩ = some (.int .i64 lo') ∧ w'.cell? ⟨w.heap.size + 1, 2, none⟩ = some (.int .i64 hi')) (simp [go_sem])
  (first
   | (go_at_call 94; refine (least2 _ _ lo lo' _ (by simp [go_sem]) (by simp [go_sem])).mono ?_; rintro e w' ⟨rfl, rfl⟩)
   | (go_at_call 95; refine (most2 _ _ hi hi' _ (by simp [go_sem]) (by simp [go_sem])).mono ?_; rintro e w' ⟨rfl, rfl⟩))
 all_goals go_wp2
 all_goals go_returns
 all_goals exact ⟨rfl, by go_grown⟩
end
section
set_option maxHeartbeats 4000000
set_option maxRecDepth 20000
open Go.RowKit

theorem meetSpan_n (s t : Sp) (w : World) (h : (s.n || t.n) = true) :
  Calls Tryz.prog 60 #[sv s, sv t] w fun e w' => e = .returned (sv ⟨true, 0, 0⟩) ∧ Below w.heap.size w w' := by
 obtain ⟨n, lo, hi⟩ := s
 obtain ⟨n', lo', hi'⟩ := t
 cases n with
 | true =>
  go_enter Tryz.func60, Tryz.ntmps60
  go_wp2
  go_returns
  exact ⟨rfl, by go_grown⟩
 | false =>
  cases n' with
  | true =>
   go_enter Tryz.func60, Tryz.ntmps60
   go_wp2
   go_returns
   exact ⟨rfl, by go_grown⟩
  | false => exact absurd h (by simp)

theorem meetSpan_f (lo hi lo' hi' : Int) (w : World) :
  Calls Tryz.prog 60 #[sv ⟨false, lo, hi⟩, sv ⟨false, lo', hi'⟩] w fun e w' => e = .returned (sv (meetSp ⟨false, lo, hi⟩ ⟨false, lo', hi'⟩)) ∧ Below w.heap.size w w' := by
 go_enter Tryz.func60, Tryz.ntmps60
 go_wp2
 go_region_held3 (fun w' => w'.cell? ⟨w.heap.size, 1, none⟩ = some (.int .i64 lo) ∧ w'.cell? ⟨w.heap.size, 2, none⟩ = some (.int .i64 hi) ∧ w'.cell? ⟨w.heap.size + 1, 1, none⟩ = some (.int .i64 lo') ∧ w'.cell? ⟨w.heap.size + 1, 2, none⟩ = some (.int .i64 hi')) (simp [go_sem])
  (first
   | (go_at_call 95; refine (most2 _ _ lo lo' _ (by simp [go_sem]) (by simp [go_sem])).mono ?_; rintro e w' ⟨rfl, rfl⟩)
   | (go_at_call 94; refine (least2 _ _ hi hi' _ (by simp [go_sem]) (by simp [go_sem])).mono ?_; rintro e w' ⟨rfl, rfl⟩))
 all_goals go_wp2
 all_goals go_returns
 all_goals exact ⟨ret_sp (by first | exact meet_ff rfl rfl (by assumption) | exact meet_e (by assumption)), by go_grown⟩

theorem meetSpan_any (s t : Sp) (w : World) :
  Calls Tryz.prog 60 #[sv s, sv t] w fun e w' => e = .returned (sv (meetSp s t)) ∧ Below w.heap.size w w' := by
 by_cases h : (s.n || t.n) = true
 ·have e0 : meetSp s t = ⟨true, 0, 0⟩ := by unfold meetSp; rw [h]; rfl
  rw [e0]
  exact meetSpan_n s t w h
 ·obtain ⟨n, lo, hi⟩ := s
  obtain ⟨n', lo', hi'⟩ := t
  cases n with
  | true => exact absurd rfl h
  | false =>
   cases n' with
   | true => exact absurd rfl h
   | false => exact meetSpan_f lo hi lo' hi' w
end
section
open Go.RowKit

theorem wrapk {x : Int} (h : wrap64 x = x) : IntKind.i64.wrap x = x := by
 rw [IntKind.wrap_i64]
 unfold wrap64 at h
 exact h

theorem doSpan_any (k : Int) (s t : Sp) (w : World) (hk : k = 5 ∨ k = 6 ∨ k = 7) (hs : s.Ok) (ht : t.Ok) :
  Calls Tryz.prog 63 #[.int .i64 k, sv s, sv t] w fun e w' => e = .returned (sv (doSp k s t)) ∧ Below w.heap.size w w' := by
 by_cases h : (s.n || t.n) = true
 ·have := doSpan_n k s t w h
  unfold doSp
  rw [if_pos h]
  exact this
 ·have e0 : doSp k s t = hull (opOf k s.lo t.lo) (opOf k s.lo t.hi) (opOf k s.hi t.lo) (opOf k s.hi t.hi) := by unfold doSp; rw [if_neg h]
  rw [e0]
  obtain ⟨n, lo, hi⟩ := s
  obtain ⟨n', lo', hi'⟩ := t
  cases n with
  | true => exact absurd rfl h
  | false =>
   cases n' with
   | true => exact absurd rfl h
   | false =>
    rcases hk with rfl | rfl | rfl
    ·exact doSpan_add lo hi lo' hi' _ _ _ _ w (wrapk (wrap_add hs.1 ht.1)) (wrapk (wrap_add hs.1 ht.2.1)) (wrapk (wrap_add hs.2.1 ht.1)) (wrapk (wrap_add hs.2.1 ht.2.1))
    ·exact doSpan_sub lo hi lo' hi' _ _ _ _ w (wrapk (wrap_sub hs.1 ht.1)) (wrapk (wrap_sub hs.1 ht.2.1)) (wrapk (wrap_sub hs.2.1 ht.1)) (wrapk (wrap_sub hs.2.1 ht.2.1))
    ·exact doSpan_mul lo hi lo' hi' _ _ _ _ w (wrapk (wrap_mul hs.1 ht.1)) (wrapk (wrap_mul hs.1 ht.2.1)) (wrapk (wrap_mul hs.2.1 ht.1)) (wrapk (wrap_mul hs.2.1 ht.2.1))

theorem joinSpan_any (s t : Sp) (w : World) :
  Calls Tryz.prog 58 #[sv s, sv t, .bool false] w fun e w' => e = .returned (sv (joinSp s t)) ∧ Below w.heap.size w w' := by
 by_cases h : (s.n || t.n) = true
 ·exact joinSpan_n s t false w h
 ·obtain ⟨n, lo, hi⟩ := s
  obtain ⟨n', lo', hi'⟩ := t
  cases n with
  | true => exact absurd rfl h
  | false =>
   cases n' with
   | true => exact absurd rfl h
   | false => exact joinSpan_f lo hi lo' hi' w
end
section
set_option maxHeartbeats 2000000
set_option maxRecDepth 10000
open Go.RowKit

theorem truthOf_any (g : Gs) (ss : Option Addr) (gc : Nat) (w : World) :
  Calls Tryz.prog 24 #[gv g ss gc] w fun e w' => e = .returned (.tuple #[.bool (yesGs g), .bool (noGs g)]) ∧ Below w.heap.size w w' := by
 have HI := hideH (fun w => inSpan_any g.sp 0 w)
 have HY : Hid (yesGs g = ((!g.sp.n && !decide (g.sp.lo = 0 ∧ g.sp.hi = 0)) || (g.t || decide (0 < g.s.length)))) := rfl
 have HN : Hid (noGs g = (g.sp.has 0 || (g.n || g.f))) := rfl
 generalize yesGs g = yy at *
 generalize noGs g = nn at *
 generalize g.sp.has 0 = z at *
 obtain ⟨n, ⟨sn, lo, hi⟩, t, f, s⟩ := g
 cases n
 ·cases f
  ·cases t
   ·by_cases hl : 0 < s.length
    ·have hl' : (0 : Int) < (s.length : Int) := by omega
     go_enter Tryz.func24, Tryz.ntmps24
     go_wp2_with (go_at_call 25; fail)
     refine (HI.out _).mono ?_
     rintro e w1 ⟨rfl, hb1⟩
     go_wp2
     go_ret2
     exact ⟨ret_t2 (by rw [HY.out]; simp_all) (by rw [HN.out]; simp), Below.trans (by go_grown) (hb1.mono (by simp))⟩
    ·have hl' : ¬ (0 : Int) < (s.length : Int) := by omega
     cases sn
     ·by_cases h1 : lo = 0
      ·subst h1
       by_cases h2 : hi = 0
       ·subst h2
        go_enter Tryz.func24, Tryz.ntmps24
        go_wp2_with (go_at_call 25; fail)
        refine (HI.out _).mono ?_
        rintro e w1 ⟨rfl, hb1⟩
        go_wp2
        go_ret2
        exact ⟨ret_t2 (by rw [HY.out]; simp_all) (by rw [HN.out]; simp), Below.trans (by go_grown) (hb1.mono (by simp))⟩
       ·have h2' : (hi != 0) = true := by simpa using h2
        go_enter Tryz.func24, Tryz.ntmps24
        go_wp2_with (go_at_call 25; fail)
        refine (HI.out _).mono ?_
        rintro e w1 ⟨rfl, hb1⟩
        go_wp2
        go_ret2
        exact ⟨ret_t2 (by rw [HY.out]; simp_all) (by rw [HN.out]; simp), Below.trans (by go_grown) (hb1.mono (by simp))⟩
      ·have h1' : (lo != 0) = true := by simpa using h1
       go_enter Tryz.func24, Tryz.ntmps24
       go_wp2_with (go_at_call 25; fail)
       refine (HI.out _).mono ?_
       rintro e w1 ⟨rfl, hb1⟩
       go_wp2
       go_ret2
       exact ⟨ret_t2 (by rw [HY.out]; simp_all) (by rw [HN.out]; simp), Below.trans (by go_grown) (hb1.mono (by simp))⟩
     ·go_enter Tryz.func24, Tryz.ntmps24
      go_wp2_with (go_at_call 25; fail)
      refine (HI.out _).mono ?_
      rintro e w1 ⟨rfl, hb1⟩
      go_wp2
      go_ret2
      exact ⟨ret_t2 (by rw [HY.out]; simp_all) (by rw [HN.out]; simp), Below.trans (by go_grown) (hb1.mono (by simp))⟩
   ·go_enter Tryz.func24, Tryz.ntmps24
    go_wp2_with (go_at_call 25; fail)
    refine (HI.out _).mono ?_
    rintro e w1 ⟨rfl, hb1⟩
    go_wp2
    go_ret2
    exact ⟨ret_t2 (by rw [HY.out]; simp_all) (by rw [HN.out]; simp), Below.trans (by go_grown) (hb1.mono (by simp))⟩
  ·cases t
   ·by_cases hl : 0 < s.length
    ·have hl' : (0 : Int) < (s.length : Int) := by omega
     go_enter Tryz.func24, Tryz.ntmps24
     go_wp2
     go_ret2
     exact ⟨ret_t2 (by rw [HY.out]; simp_all) (by rw [HN.out]; simp), by go_grown⟩
    ·have hl' : ¬ (0 : Int) < (s.length : Int) := by omega
     cases sn
     ·by_cases h1 : lo = 0
      ·subst h1
       by_cases h2 : hi = 0
       ·subst h2
        go_enter Tryz.func24, Tryz.ntmps24
        go_wp2
        go_ret2
        exact ⟨ret_t2 (by rw [HY.out]; simp_all) (by rw [HN.out]; simp), by go_grown⟩
       ·have h2' : (hi != 0) = true := by simpa using h2
        go_enter Tryz.func24, Tryz.ntmps24
        go_wp2
        go_ret2
        exact ⟨ret_t2 (by rw [HY.out]; simp_all) (by rw [HN.out]; simp), by go_grown⟩
      ·have h1' : (lo != 0) = true := by simpa using h1
       go_enter Tryz.func24, Tryz.ntmps24
       go_wp2
       go_ret2
       exact ⟨ret_t2 (by rw [HY.out]; simp_all) (by rw [HN.out]; simp), by go_grown⟩
     ·go_enter Tryz.func24, Tryz.ntmps24
      go_wp2
      go_ret2
      exact ⟨ret_t2 (by rw [HY.out]; simp_all) (by rw [HN.out]; simp), by go_grown⟩
   ·go_enter Tryz.func24, Tryz.ntmps24
    go_wp2
    go_ret2
    exact ⟨ret_t2 (by rw [HY.out]; simp_all) (by rw [HN.out]; simp), by go_grown⟩
 ·cases t
  ·by_cases hl : 0 < s.length
   ·have hl' : (0 : Int) < (s.length : Int) := by omega
    go_enter Tryz.func24, Tryz.ntmps24
    go_wp2
    go_ret2
    exact ⟨ret_t2 (by rw [HY.out]; simp_all) (by rw [HN.out]; simp), by go_grown⟩
   ·have hl' : ¬ (0 : Int) < (s.length : Int) := by omega
    cases sn
    ·by_cases h1 : lo = 0
     ·subst h1
      by_cases h2 : hi = 0
      ·subst h2
       go_enter Tryz.func24, Tryz.ntmps24
       go_wp2
       go_ret2
       exact ⟨ret_t2 (by rw [HY.out]; simp_all) (by rw [HN.out]; simp), by go_grown⟩
      ·have h2' : (hi != 0) = true := by simpa using h2
       go_enter Tryz.func24, Tryz.ntmps24
       go_wp2
       go_ret2
       exact ⟨ret_t2 (by rw [HY.out]; simp_all) (by rw [HN.out]; simp), by go_grown⟩
     ·have h1' : (lo != 0) = true := by simpa using h1
      go_enter Tryz.func24, Tryz.ntmps24
      go_wp2
      go_ret2
      exact ⟨ret_t2 (by rw [HY.out]; simp_all) (by rw [HN.out]; simp), by go_grown⟩
    ·go_enter Tryz.func24, Tryz.ntmps24
     go_wp2
     go_ret2
     exact ⟨ret_t2 (by rw [HY.out]; simp_all) (by rw [HN.out]; simp), by go_grown⟩
  ·go_enter Tryz.func24, Tryz.ntmps24
   go_wp2
   go_ret2
   exact ⟨ret_t2 (by rw [HY.out]; simp_all) (by rw [HN.out]; simp), by go_grown⟩

theorem two_at (w : World) (g : Gs) (ss : Option Addr) (gc : Nat) (h : Gs) (st : Option Addr) (hc : Nat) :
  GuAt ((w.alloc (.cells #[.bool g.n, .bool g.sp.n, .int .i64 g.sp.lo, .int .i64 g.sp.hi, .bool g.t, .bool g.f, .slice ss g.s.length gc] 61)).alloc (.cells #[.bool h.n, .bool h.sp.n, .int .i64 h.sp.lo, .int .i64 h.sp.hi, .bool h.t, .bool h.f, .slice st h.s.length hc] 61)) w.heap.size 0 g ss gc ∧ GuAt ((w.alloc (.cells #[.bool g.n, .bool g.sp.n, .int .i64 g.sp.lo, .int .i64 g.sp.hi, .bool g.t, .bool g.f, .slice ss g.s.length gc] 61)).alloc (.cells #[.bool h.n, .bool h.sp.n, .int .i64 h.sp.lo, .int .i64 h.sp.hi, .bool h.t, .bool h.f, .slice st h.s.length hc] 61)) (w.heap.size + 1) 0 h st hc ∧ Below w.heap.size w ((w.alloc (.cells #[.bool g.n, .bool g.sp.n, .int .i64 g.sp.lo, .int .i64 g.sp.hi, .bool g.t, .bool g.f, .slice ss g.s.length gc] 61)).alloc (.cells #[.bool h.n, .bool h.sp.n, .int .i64 h.sp.lo, .int .i64 h.sp.hi, .bool h.t, .bool h.f, .slice st h.s.length hc] 61)) := by
 refine ⟨(GuAt.new w g ss gc).alloc _, ?_, by go_grown⟩
 have := GuAt.new (w.alloc (.cells #[.bool g.n, .bool g.sp.n, .int .i64 g.sp.lo, .int .i64 g.sp.hi, .bool g.t, .bool g.f, .slice ss g.s.length gc] 61)) h st hc
 rw [World.size_alloc] at this
 exact this

/-- Two guesses that read alike are the same. -/
theorem sameGuess_any (g : Gs) (ss : Option Addr) (gc : Nat) (st : Option Addr) (hc : Nat) (w : World) (hs : IntsAt w ss g.s) (ht : IntsAt w st g.s) (hgl : g.s.length ≤ maxLen) :
  Calls Tryz.prog 99 #[gv g ss gc, gv g st hc] w fun e w' => e = .returned (.bool true) ∧ Below w.heap.size w w' := by
 obtain ⟨G0, H0, B0⟩ := two_at w g ss gc g st hc
 have I0 := hs.below B0 (Nat.le_refl _)
 have J0 := ht.below B0 (Nat.le_refl _)
 obtain ⟨n, sp, t, f, sl⟩ := g
 go_enter Tryz.func99, Tryz.ntmps99
 go_wp2_with (go_at_call 129; fail)
 refine (sameInts_any ss st gc hc sl _ hgl I0 J0).mono ?_
 rintro e w1 ⟨rfl, hb1⟩
 go_wp2
 go_ret
 exact ⟨rfl, B0.trans (hb1.mono (by simp; omega))⟩
end
section
open Go.RowKit

theorem GuAt.grown {w w' : World} {vb : Option Nat} {b o : Nat} {g : Gs} {ss : Option Addr} {cap : Nat} (hg : w.grownBy w' vb) (h : GuAt w b o g ss cap) (hne : some b ≠ vb) : GuAt w' b o g ss cap := by
 obtain ⟨⟨h0, h1, h2, h3, h4, h5, h6⟩, hz⟩ := h
 have hk := hg.block b hz hne
 have c : ∀ j, w'.cell? ⟨b, j, none⟩ = w.cell? ⟨b, j, none⟩ := fun j => World.cell?_of_block (a := ⟨b, j, none⟩) hk
 exact ⟨⟨by rw [c]; exact h0, by rw [c]; exact h1, by rw [c]; exact h2, by rw [c]; exact h3, by rw [c]; exact h4, by rw [c]; exact h5, by rw [c]; exact h6⟩, Nat.lt_of_lt_of_le hz hg.size⟩
theorem Fr7.grown {w w' : World} {vb : Option Nat} {b : Nat} (hg : w.grownBy w' vb) (h : Fr7 w b) (hne : some b ≠ vb) : Fr7 w' b := by
 have hk := hg.block b h.2 hne
 exact ⟨fun j => by rw [World.frozen?_of_block (a := ⟨b, j, none⟩) hk]; exact h.1 j, Nat.lt_of_lt_of_le h.2 hg.size⟩
theorem GuAt.setFar {w : World} {b b' o j : Nat} {g : Gs} {ss : Option Addr} {cap : Nat} {v : Value} (h : GuAt w b o g ss cap) (hne : b ≠ b') : GuAt (w.setCell ⟨b', j, none⟩ v) b o g ss cap := by
 obtain ⟨⟨h0, h1, h2, h3, h4, h5, h6⟩, hz⟩ := h
 have c : ∀ i, (w.setCell ⟨b', j, none⟩ v).cell? ⟨b, i, none⟩ = w.cell? ⟨b, i, none⟩ := fun i => World.cell?_setCell_far _ ⟨b', j, none⟩ ⟨b, i, none⟩ _ (fun e => hne e.symm)
 exact ⟨⟨by rw [c]; exact h0, by rw [c]; exact h1, by rw [c]; exact h2, by rw [c]; exact h3, by rw [c]; exact h4, by rw [c]; exact h5, by rw [c]; exact h6⟩, by simpa using hz⟩
theorem GuAt.setS {w : World} {b : Nat} {g : Gs} {ss ss' : Option Addr} {cap cap' : Nat} {s' : List Int} (h : GuAt w b 0 g ss cap) : GuAt (w.setCell ⟨b, 6, none⟩ (.slice ss' s'.length cap')) b 0 ⟨g.n, g.sp, g.t, g.f, s'⟩ ss' cap' := by
 obtain ⟨⟨h0, h1, h2, h3, h4, h5, h6⟩, hz⟩ := h
 simp only [Nat.zero_add] at h0 h1 h2 h3 h4 h5 h6
 refine ⟨?_, by simpa using hz⟩
 simp [go_sem, h0, h1, h2, h3, h4, h5, h6]
theorem Fr7.set {w : World} {b b' j : Nat} {v : Value} (h : Fr7 w b) : Fr7 (w.setCell ⟨b', j, none⟩ v) b := ⟨fun i => by simp [go_sem, h.1 i], by simpa using h.2⟩
theorem ownsRow_setFar {w : World} {B n b j z : Nat} {e : TypeId} {v u : Value} {xs : List Value} (h : w.ownsRow B e z v n xs) (hb : b < B) : (w.setCell ⟨b, j, none⟩ u).ownsRow B e z v n xs :=
 ⟨h.1, h.2.imp id fun ⟨g, cap, cur, r1, r2, r3, r4⟩ => ⟨g, cap, cur, r1, r2, by rw [Below.heap_setCell _ _ _ _ (by show g ≠ b; omega)]; exact r3, r4⟩⟩

/-- The sites below k that one of both has. -/
def siteTo (a b : List Int) (k : Nat) : List Int := ((List.range k).map fun n : Nat => (n : Int)).filter fun x => a.contains x || b.contains x
theorem siteTo_succ (a b : List Int) (k : Nat) : siteTo a b (k + 1) = siteTo a b k ++ (if (a.contains (k : Int) || b.contains (k : Int)) = true then [(k : Int)] else []) := by
 unfold siteTo
 rw [List.range_succ, List.map_append, List.filter_append]
 congr 1
 by_cases h : (a.contains (k : Int) || b.contains (k : Int)) = true
 ·simp only [List.map_cons, List.map_nil, List.filter_cons, h, if_true, List.filter_nil]
 ·simp only [List.map_cons, List.map_nil, List.filter_cons, h, if_false, List.filter_nil, Bool.false_eq_true]
theorem siteTo_len (a b : List Int) (k : Nat) : (siteTo a b k).length ≤ k := by
 unfold siteTo
 exact Nat.le_trans (List.length_filter_le _ _) (by simp)
/-- What the region reads. -/
def regP (w : World) (g : Gs) (ss : Option Addr) (gc : Nat) (h : Gs) (st : Option Addr) (hc : Nat) (w' : World) : Prop :=
 (w'.cell? ⟨w.heap.size, 0, none⟩ = some (.bool g.n) ∧ w'.cell? ⟨w.heap.size, 1, none⟩ = some (.bool g.sp.n) ∧ w'.cell? ⟨w.heap.size, 2, none⟩ = some (.int .i64 g.sp.lo) ∧ w'.cell? ⟨w.heap.size, 3, none⟩ = some (.int .i64 g.sp.hi) ∧ w'.cell? ⟨w.heap.size, 4, none⟩ = some (.bool g.t) ∧ w'.cell? ⟨w.heap.size, 5, none⟩ = some (.bool g.f) ∧ w'.cell? ⟨w.heap.size, 6, none⟩ = some (.slice ss g.s.length gc)) ∧
 (w'.cell? ⟨w.heap.size + 1, 0, none⟩ = some (.bool h.n) ∧ w'.cell? ⟨w.heap.size + 1, 1, none⟩ = some (.bool h.sp.n) ∧ w'.cell? ⟨w.heap.size + 1, 2, none⟩ = some (.int .i64 h.sp.lo) ∧ w'.cell? ⟨w.heap.size + 1, 3, none⟩ = some (.int .i64 h.sp.hi) ∧ w'.cell? ⟨w.heap.size + 1, 4, none⟩ = some (.bool h.t) ∧ w'.cell? ⟨w.heap.size + 1, 5, none⟩ = some (.bool h.f) ∧ w'.cell? ⟨w.heap.size + 1, 6, none⟩ = some (.slice st h.s.length hc))
end
section

/-- A list that rises is known by what is in it. -/
theorem rising_ext : ∀ (a b : List Int), a.Pairwise (· < ·) → b.Pairwise (· < ·) → (∀ x, x ∈ a ↔ x ∈ b) → a = b
 | [], [], _, _, _ => rfl
 | [], y :: b, _, _, h => absurd ((h y).2 (by simp)) (by simp)
 | x :: a, [], _, _, h => absurd ((h x).1 (by simp)) (by simp)
 | x :: a, y :: b, ha, hb, h => by
  rw [List.pairwise_cons] at ha hb
  have exy : x = y := by
   have h1 := (h x).1 (by simp)
   have h2 := (h y).2 (by simp)
   rw [List.mem_cons] at h1 h2
   rcases h1 with e | h1
   ·exact e
   ·rcases h2 with e | h2
    ·exact e.symm
    ·have := ha.1 y h2
     have := hb.1 x h1
     omega
  subst exy
  rw [rising_ext a b ha.2 hb.2 fun z => ?_]
  constructor
  ·intro hz
   have := (h z).1 (by simp [hz])
   rw [List.mem_cons] at this
   rcases this with e | h1
   ·have := ha.1 z hz; omega
   ·exact h1
  ·intro hz
   have := (h z).2 (by simp [hz])
   rw [List.mem_cons] at this
   rcases this with e | h1
   ·have := hb.1 z hz; omega
   ·exact h1

theorem siteTo_mem (a b : List Int) (k : Nat) (x : Int) : x ∈ siteTo a b k ↔ (0 ≤ x ∧ x < k) ∧ (x ∈ a ∨ x ∈ b) := by
 unfold siteTo
 rw [List.mem_filter, List.mem_map]
 simp only [List.mem_range, Bool.or_eq_true, List.contains_iff_mem]
 constructor
 ·rintro ⟨⟨n, hn, rfl⟩, h⟩
  exact ⟨⟨by omega, by omega⟩, h⟩
 ·rintro ⟨⟨h0, h1⟩, h⟩
  exact ⟨⟨x.toNat, by omega, by omega⟩, h⟩

theorem siteTo_rises (a b : List Int) (k : Nat) : (siteTo a b k).Pairwise (· < ·) := by
 unfold siteTo
 refine List.Pairwise.filter _ ?_
 rw [List.pairwise_map]
 exact List.Pairwise.imp (fun h => by omega) List.pairwise_lt_range

open Go.Lib in
/-- What is compacted of a sorted list rises, and has the same in it. -/
theorem compact_sorted (l : List Int) (h : l.Pairwise (· ≤ ·)) : (compact l).Pairwise (· < ·) ∧ ∀ x, x ∈ compact l ↔ x ∈ l := by
 have get : ∀ j (hj : j < l.length), l.toArray[j]! = l[j] := fun j hj => by simp [hj]
 have mono : ∀ i j (hi : i < l.length) (hj : j < l.length), i ≤ j → l[i] ≤ l[j] := by
  intro i j hi hj hij
  by_cases e : i = j
  ·subst e; exact Int.le_refl _
  ·exact List.pairwise_iff_getElem.1 h i j hi hj (by omega)
 constructor
 ·unfold compact compactUpTo
  rw [List.pairwise_map]
  refine List.Pairwise.imp_of_mem ?_ (List.Pairwise.filter _ List.pairwise_lt_range)
  intro i j hi hj hij
  rw [List.mem_filter, List.mem_range] at hi hj
  rw [get i hi.1, get j hj.1]
  have hk := hj.2
  unfold keeps at hk
  rw [decide_eq_true_eq] at hk
  rcases hk with e | hne
  ·omega
  ·rw [get j hj.1, get (j - 1) (by omega)] at hne
   have h1 := mono i (j - 1) hi.1 (by omega) (by omega)
   have h2 := mono (j - 1) j (by omega) hj.1 (by omega)
   omega
 ·intro x
  unfold compact compactUpTo
  rw [List.mem_map]
  constructor
  ·rintro ⟨j, hj, rfl⟩
   rw [List.mem_filter, List.mem_range] at hj
   rw [get j hj.1]
   exact List.getElem_mem _
  ·intro hx
   obtain ⟨j, hj, rfl⟩ := List.getElem_of_mem hx
   -- the first place that holds it
   have ex : ∃ i, i ≤ j ∧ ∃ (hi : i < l.length), l[i] = l[j] ∧ keeps l.toArray i = true := by
    clear hx
    induction j with
    | zero => exact ⟨0, Nat.le_refl _, hj, rfl, by simp [keeps]⟩
    | succ j ih =>
     by_cases e : l[j + 1] = l[j]
     ·obtain ⟨i, hi, hil, h1, h2⟩ := ih (by omega)
      exact ⟨i, by omega, hil, by rw [h1, e], h2⟩
     ·refine ⟨j + 1, Nat.le_refl _, hj, rfl, ?_⟩
      unfold keeps
      rw [decide_eq_true_eq]
      right
      rw [get (j + 1) hj, get (j + 1 - 1) (by omega)]
      exact e
   obtain ⟨i, -, hil, h1, h2⟩ := ex
   refine ⟨i, ?_, by rw [get i hil, h1]⟩
   rw [List.mem_filter, List.mem_range]
   exact ⟨hil, h2⟩

theorem sitesOf_eq (g h : Gs) (hg : ∀ x ∈ g.s, 0 ≤ x ∧ x < 60) (hh : ∀ x ∈ h.s, 0 ≤ x ∧ x < 60) : sitesOf [g, h] = siteTo g.s h.s 60 := by
 have hs : (([g, h].flatMap Gs.s).mergeSort fun x y => decide (x ≤ y)).Pairwise (· ≤ ·) := by
  have := List.pairwise_mergeSort (le := fun x y : Int => decide (x ≤ y)) (by intro a b c; simp; omega) (by intro a b; simp; omega) ([g, h].flatMap Gs.s)
  exact this.imp fun h => by simpa using h
 obtain ⟨h1, h2⟩ := compact_sorted _ hs
 refine rising_ext _ _ h1 (siteTo_rises _ _ _) fun x => ?_
 rw [show sitesOf [g, h] = Go.Lib.compact (([g, h].flatMap Gs.s).mergeSort fun x y => decide (x ≤ y)) from rfl, h2, List.mem_mergeSort, siteTo_mem]
 simp only [List.flatMap_cons, List.flatMap_nil, List.append_nil, List.mem_append]
 constructor
 ·rintro (h | h)
  ·exact ⟨hg x h, .inl h⟩
  ·exact ⟨hh x h, .inr h⟩
 ·exact fun h => h.2

theorem isSite_60 {c : List Ins} (hl : c.length ≤ 60) {x : Int} (h : isSite c x = true) : 0 ≤ x ∧ x < 60 := by
 unfold isSite at h
 simp only [Bool.and_eq_true, decide_eq_true_eq] at h
 omega

/-- A right guess has sites of the program, that rise, so at most sixty. -/
theorem ckGs_sites {c : List Ins} {g : Gs} (hl : c.length ≤ 60) (h : ckGs c g = 0) : (∀ x ∈ g.s, 0 ≤ x ∧ x < 60) ∧ rising g.s = true := by
 unfold ckGs at h
 split at h
 ·contradiction
 ·split at h
  ·cases h
  ·split at h
   ·cases h
   ·rename_i h1 h2
    refine ⟨fun x hx => ?_, by simpa using h2⟩
    have : g.s.all (isSite c) = true := by simpa using h1
    exact isSite_60 hl (List.all_eq_true.1 this x hx)
theorem rising_len {l : List Int} (hr : rising l = true) (hb : ∀ x ∈ l, 0 ≤ x ∧ x < 60) : l.length ≤ 60 := by
 have key : ∀ k (h : k < l.length), (k : Int) ≤ l[k] := by
  intro k
  induction k with
  | zero => intro h; exact (hb _ (List.getElem_mem h)).1
  | succ k ih =>
   intro h
   have h1 := ih (by omega)
   have h2 := (rising_iff l).1 hr k h
   omega
 by_cases h0 : l.length = 0
 ·omega
 ·have h1 := key (l.length - 1) (by omega)
  have h2 := (hb _ (List.getElem_mem (show l.length - 1 < l.length by omega))).2
  omega
end
end Go.Proofs.YtmapdpcfanecdabGreat
