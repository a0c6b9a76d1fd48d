/- Walks over the document's own answers on spans: the small ones. -/
import Derived.Test.YtmapdpcfanecdabGreatKstpxp14
import Derived.Test.YtmapdpcfanecdabGreatKstpxp02
set_option linter.unusedSimpArgs false
set_option linter.unusedVariables false
namespace Go.Proofs.YtmapdpcfanecdabGreat
section
set_option maxHeartbeats 4000000
set_option maxRecDepth 100000
open Go.RowKit

/-- The boxes of Within: program, two guesses. -/
abbrev winW (w : World) (V F : Int) (s : Option Addr) (c : List Ins) (cap : Nat) (g : Gs) (ss : Option Addr) (gc : Nat) (h : Gs) (st : Option Addr) (hc : Nat) : World :=
 ((w.alloc (.cells #[.int .i64 V, .int .i64 F, .slice s c.length cap] 24)).alloc (.cells #[.bool g.n, .bool g.sp.n, .int .i64 g.sp.lo, .int .i64 g.sp.hi, .bool g.t, .bool g.f, .slice ss g.s.length gc] 61)).alloc (.cells #[.bool h.n, .bool h.sp.n, .int .i64 h.sp.lo, .int .i64 h.sp.hi, .bool h.t, .bool h.f, .slice st h.s.length hc] 61)
theorem winW_at (w : World) (V F : Int) (s : Option Addr) (c : List Ins) (cap : Nat) (g : Gs) (ss : Option Addr) (gc : Nat) (h : Gs) (st : Option Addr) (hc : Nat) :
  GuAt (winW w V F s c cap g ss gc h st hc) (w.heap.size + 1) 0 g ss gc ∧ GuAt (winW w V F s c cap g ss gc h st hc) (w.heap.size + 1 + 1) 0 h st hc ∧ Below w.heap.size w (winW w V F s c cap g ss gc h st hc) := by
 refine ⟨?_, ?_, by go_grown⟩
 ·have := GuAt.new (w.alloc (.cells #[.int .i64 V, .int .i64 F, .slice s c.length cap] 24)) g ss gc
  rw [World.size_alloc] at this
  exact this.alloc _
 ·have := GuAt.new ((w.alloc (.cells #[.int .i64 V, .int .i64 F, .slice s c.length cap] 24)).alloc (.cells #[.bool g.n, .bool g.sp.n, .int .i64 g.sp.lo, .int .i64 g.sp.hi, .bool g.t, .bool g.f, .slice ss g.s.length gc] 61)) h st hc
  simp only [World.size_alloc] at this
  exact this

theorem ret_t2i {a c : Bool} {b d : Int} (h : a = c) (h' : b = d) : Ending.returned (.tuple #[.bool a, .int .i64 b]) = .returned (.tuple #[.bool c, .int .i64 d]) := by rw [h, h']
theorem three_ways (a b : Bool) : (a = true ∧ b = false) ∨ a = false ∨ (a = true ∧ b = true) := by cases a <;> cases b <;> simp

/-- All of s is in t just if what both have is s. -/
theorem meet_inG {s t : Sp} (hs : s.Ok) (ht : t.Ok) : decide (meetSp s t = s) = spIn s t := by
 obtain ⟨n, lo, hi⟩ := s
 obtain ⟨n', lo', hi'⟩ := t
 obtain ⟨-, -, hz, hl⟩ := hs
 obtain ⟨-, -, hz', hl'⟩ := ht
 cases n with
 | true =>
  obtain ⟨h1, h2⟩ := hz rfl
  simp only at h1 h2
  subst h1 h2
  rfl
 | false =>
  cases n' with
  | true =>
   have e0 : meetSp ⟨false, lo, hi⟩ ⟨true, lo', hi'⟩ = ⟨true, 0, 0⟩ := rfl
   rw [e0]
   simp [spIn, Sp.has]
  | false =>
   simp only at hl hl'
   rw [Bool.eq_iff_iff, decide_eq_true_eq]
   unfold meetSp spIn Sp.has
   simp only [Bool.false_or, Bool.not_false, Bool.true_and, decide_eq_true_eq, Bool.and_eq_true]
   constructor
   ·intro h
    split at h
    ·cases h
    ·simp only [Sp.mk.injEq, true_and] at h
     omega
   ·intro h
    rw [if_neg (by omega)]
    simp only [Sp.mk.injEq, true_and]
    omega

theorem prf_39bfb5 {p : Prop} (h : p := by
 rintro e w2 ⟨rfl, hb2⟩
 rw [any_not_all]
 have G2 := G1.call hb2
 have H2 := H1.call hb2
 have B2 := B1.trans (hb2.mono B1.size)
 clear hb2 G1 H1 B1 I1 J1 g0 g1 g2 g3 g4 g5 g6 gz k0 k1 k2 k3 k4 k5 k6 kz
 obtain ⟨⟨g0, g1, g2, g3, g4, g5, g6⟩, gz⟩ := id G2
 obtain ⟨⟨k0, k1, k2, k3, k4, k5, k6⟩, kz⟩ := id H2
 simp only [Nat.zero_add] at g0 g1 g2 g3 g4 g5 g6 k0 k1 k2 k3 k4 k5 k6
 generalize hA : (sl.all fun x => h'.contains x) = al at *
 have HA := hideH hA
 clear hA
 cases al with
 | false =>
  go_wp2
  go_ret2
  exact ⟨ret_t2i (by rw [HR.out]; simp) rfl, B2⟩
 | true =>
  go_wp2_with (go_at_call 119; fail)
  refine (HW.out _).mono ?_
  rintro e w3 ⟨rfl, hb3⟩
  go_wp2
  go_ret2
  exact ⟨ret_t2i (by rw [HR.out]; simp) rfl, B2.trans (hb3.mono B2.size)⟩) : p := h
theorem withinG_ok (V F : Int) (s : Option Addr) (c : List Ins) (cap : Nat) (g : Gs) (ss : Option Addr) (gc : Nat) (h : Gs) (st : Option Addr) (hc : Nat) (w : World)
  (hcd : CodeAt w s c) (hs : IntsAt w ss g.s) (h1 : g.s.length ≤ gc) (h2 : gc ≤ maxLen) (ht : IntsAt w st h.s) (h3 : h.s.length ≤ hc) (h4 : hc ≤ maxLen) (hck : ckAllG V F c [g, h] = 0) :
  Calls Tryz.prog 89 #[pv V F s c cap, gv g ss gc, gv h st hc] w fun e w' => e = .returned (.tuple #[.bool (inGs g h), .int .i64 0]) ∧ Below w.heap.size w w' := by
 obtain ⟨G0, H0, B0⟩ := winW_at w V F s c cap g ss gc h st hc
 have I0 : IntsAt (winW w V F s c cap g ss gc h st hc) ss g.s := hs.below B0 (Nat.le_refl _)
 have J0 : IntsAt (winW w V F s c cap g ss gc h st hc) st h.s := ht.below B0 (Nat.le_refl _)
 have L0 := GsAt.new2 (winW w V F s c cap g ss gc h st hc) g ss gc h st hc I0 h1 h2 J0 h3 h4
 simp only [World.size_alloc] at L0
 have HC := hideH (checkAllG_any V F s c cap (some ⟨w.heap.size + 1 + 1 + 1, 0, none⟩) [g, h] 2 _ ((hcd.below B0 (Nat.le_refl _)).alloc _) L0 (by simp))
 obtain ⟨hos, hot⟩ := ckSps_ok.1 (ckAllG_spans hck)
 have hW := fun w => within_any g.sp h.sp w
 rw [ckAllG_spans hck, show (decide ((0 : Int) = 0) && decide (meetSp g.sp h.sp = g.sp)) = spIn g.sp h.sp by rw [meet_inG hos hot]; rfl] at hW
 have HW := hideH hW
 have hgl : g.s.length ≤ 9223372036854775807 := by unfold maxLen at h2; omega
 have hlt : h.s.length ≤ 9223372036854775807 := by unfold maxLen at h4; omega
 have HR : Hid (inGs g h = (!(g.n && !h.n) && (!(g.t && !h.t) && (!(g.f && !h.f) && (spIn g.sp h.sp && g.s.all fun x => h.s.contains x))))) := rfl
 generalize inGs g h = res at HR ⊢
 generalize spIn g.sp h.sp = si at HR HW
 rw [hck] at HC
 clear hck hcd hs ht L0 hW hos hot
 go_enter Tryz.func89, Tryz.ntmps89
 go_wp2_with (go_at_call 114; fail)
 refine HC.out.mono ?_
 rintro e w1 ⟨rfl, hb1⟩
 have G1 := (G0.alloc _).call hb1
 have H1 := (H0.alloc _).call hb1
 have I1 := (I0.alloc _).call hb1
 have J1 := (J0.alloc _).call hb1
 have B1 : Below w.heap.size w w1 := (B0.alloc B0.size _).trans (hb1.mono (by simp; omega))
 clear hb1 G0 H0 I0 J0 B0 HC
 obtain ⟨⟨g0, g1, g2, g3, g4, g5, g6⟩, gz⟩ := id G1
 obtain ⟨⟨k0, k1, k2, k3, k4, k5, k6⟩, kz⟩ := id H1
 simp only [Nat.zero_add] at g0 g1 g2 g3 g4 g5 g6 k0 k1 k2 k3 k4 k5 k6
 obtain ⟨n, sp, t, f, sl⟩ := g
 obtain ⟨n', sp', t', f', h'⟩ := h
 simp only at hgl hlt
 rcases three_ways n n' with ⟨rfl, rfl⟩ | rfl | ⟨rfl, rfl⟩
 ·go_wp2
  go_ret2
  exact ⟨ret_t2i (by rw [HR.out]; rfl) rfl, B1⟩
 ·rcases three_ways t t' with ⟨rfl, rfl⟩ | rfl | ⟨rfl, rfl⟩
  ·go_wp2
   go_ret2
   exact ⟨ret_t2i (by rw [HR.out]; rfl) rfl, B1⟩
  ·rcases three_ways f f' with ⟨rfl, rfl⟩ | rfl | ⟨rfl, rfl⟩
   ·go_wp2
    go_ret2
    exact ⟨ret_t2i (by rw [HR.out]; rfl) rfl, B1⟩
   ·go_wp2_with (go_at_call 118; fail)
    refine (containsFunc_more (w.heap.size + 1 + 1) (fun x => !h'.contains x) ss gc sl _ (by omega) I1 fun x wx hbx => more_any x _ ⟨n', sp', t', f', h'⟩ st hc wx (H1.call hbx) (J1.call hbx) (by simpa using hlt)).mono ?_
    exact prf_39bfb5
   ·go_wp2_with (go_at_call 118; fail)
    refine (containsFunc_more (w.heap.size + 1 + 1) (fun x => !h'.contains x) ss gc sl _ (by omega) I1 fun x wx hbx => more_any x _ ⟨n', sp', t', true, h'⟩ st hc wx (H1.call hbx) (J1.call hbx) (by simpa using hlt)).mono ?_
    exact prf_39bfb5
  ·rcases three_ways f f' with ⟨rfl, rfl⟩ | rfl | ⟨rfl, rfl⟩
   ·go_wp2
    go_ret2
    exact ⟨ret_t2i (by rw [HR.out]; rfl) rfl, B1⟩
   ·go_wp2_with (go_at_call 118; fail)
    refine (containsFunc_more (w.heap.size + 1 + 1) (fun x => !h'.contains x) ss gc sl _ (by omega) I1 fun x wx hbx => more_any x _ ⟨n', sp', true, f', h'⟩ st hc wx (H1.call hbx) (J1.call hbx) (by simpa using hlt)).mono ?_
    exact prf_39bfb5
   ·go_wp2_with (go_at_call 118; fail)
    refine (containsFunc_more (w.heap.size + 1 + 1) (fun x => !h'.contains x) ss gc sl _ (by omega) I1 fun x wx hbx => more_any x _ ⟨n', sp', true, true, h'⟩ st hc wx (H1.call hbx) (J1.call hbx) (by simpa using hlt)).mono ?_
    exact prf_39bfb5
 ·rcases three_ways t t' with ⟨rfl, rfl⟩ | rfl | ⟨rfl, rfl⟩
  ·go_wp2
   go_ret2
   exact ⟨ret_t2i (by rw [HR.out]; rfl) rfl, B1⟩
  ·rcases three_ways f f' with ⟨rfl, rfl⟩ | rfl | ⟨rfl, rfl⟩
   ·go_wp2
    go_ret2
    exact ⟨ret_t2i (by rw [HR.out]; rfl) rfl, B1⟩
   ·go_wp2_with (go_at_call 118; fail)
    refine (containsFunc_more (w.heap.size + 1 + 1) (fun x => !h'.contains x) ss gc sl _ (by omega) I1 fun x wx hbx => more_any x _ ⟨true, sp', t', f', h'⟩ st hc wx (H1.call hbx) (J1.call hbx) (by simpa using hlt)).mono ?_
    exact prf_39bfb5
   ·go_wp2_with (go_at_call 118; fail)
    refine (containsFunc_more (w.heap.size + 1 + 1) (fun x => !h'.contains x) ss gc sl _ (by omega) I1 fun x wx hbx => more_any x _ ⟨true, sp', t', true, h'⟩ st hc wx (H1.call hbx) (J1.call hbx) (by simpa using hlt)).mono ?_
    exact prf_39bfb5
  ·rcases three_ways f f' with ⟨rfl, rfl⟩ | rfl | ⟨rfl, rfl⟩
   ·go_wp2
    go_ret2
    exact ⟨ret_t2i (by rw [HR.out]; rfl) rfl, B1⟩
   ·go_wp2_with (go_at_call 118; fail)
    refine (containsFunc_more (w.heap.size + 1 + 1) (fun x => !h'.contains x) ss gc sl _ (by omega) I1 fun x wx hbx => more_any x _ ⟨true, sp', true, f', h'⟩ st hc wx (H1.call hbx) (J1.call hbx) (by simpa using hlt)).mono ?_
    exact prf_39bfb5
   ·go_wp2_with (go_at_call 118; fail)
    refine (containsFunc_more (w.heap.size + 1 + 1) (fun x => !h'.contains x) ss gc sl _ (by omega) I1 fun x wx hbx => more_any x _ ⟨true, sp', true, true, h'⟩ st hc wx (H1.call hbx) (J1.call hbx) (by simpa using hlt)).mono ?_
    exact prf_39bfb5
end
section
set_option maxHeartbeats 2000000
set_option maxRecDepth 10000
open Go.RowKit

theorem ckAllG_one {V F : Int} {c : List Ins} {g : Gs} (hk : ckAllG V F c [g] = 0) : ckProg V F c = 0 ∧ ckGs c g = 0 := by
 unfold ckAllG at hk
 by_cases h0 : ckProg V F c = 0
 ·rw [if_pos h0] at hk
  have e : ckGss c [g] = if ckGs c g = 0 then 0 else ckGs c g := rfl
  rw [e] at hk
  by_cases hg : ckGs c g = 0
  ·exact ⟨h0, hg⟩
  ·rw [if_neg hg] at hk; exact absurd hk hg
 ·rw [if_neg h0] at hk; exact absurd hk h0
theorem ckGs_sp {c : List Ins} {g : Gs} (h : ckGs c g = 0) : ckSp g.sp = 0 := by
 unfold ckGs at h
 split at h
 ·assumption
 ·rename_i hn; exact Decidable.not_not.1 hn
theorem pgW_at (w : World) (V F : Int) (s : Option Addr) (c : List Ins) (cap : Nat) (g : Gs) (ss : Option Addr) (gc : Nat) : GuAt (pgW w V F s c cap g ss gc) (w.heap.size + 1) 0 g ss gc ∧ Below w.heap.size w (pgW w V F s c cap g ss gc) := by
 refine ⟨?_, by go_grown⟩
 have := GuAt.new (w.alloc (.cells #[.int .i64 V, .int .i64 F, .slice s c.length cap] 24)) g ss gc
 rw [World.size_alloc] at this
 exact this

theorem truthF_ok (V F : Int) (s : Option Addr) (c : List Ins) (cap : Nat) (g : Gs) (ss : Option Addr) (gc : Nat) (w : World) (hcd : CodeAt w s c) (hs : IntsAt w ss g.s) (h1 : g.s.length ≤ gc) (h2 : gc ≤ maxLen) (hck : ckAllG V F c [g] = 0) :
  Calls Tryz.prog 88 #[pv V F s c cap, gv g ss gc] w fun e w' => e = .returned (.tuple #[.bool (yesGs g), .bool (noGs g), .int .i64 0]) ∧ Below w.heap.size w w' := by
 obtain ⟨G0, B0⟩ := pgW_at w V F s c cap g ss gc
 have I0 : IntsAt (pgW w V F s c cap g ss gc) ss g.s := hs.below B0 (Nat.le_refl _)
 have L0 := GsAt.new1 (pgW w V F s c cap g ss gc) g ss gc I0 h1 h2
 simp only [World.size_alloc] at L0
 have HC := hideH (checkAllG_any V F s c cap (some ⟨w.heap.size + 1 + 1, 0, none⟩) [g] 1 _ ((hcd.below B0 (Nat.le_refl _)).alloc _) L0 (by simp))
 have HT := hideH (fun w => truthG_any g ss gc w (ckGs_sp (ckAllG_one hck).2))
 rw [hck] at HC
 generalize yesGs g = y at HT ⊢
 generalize noGs g = n at HT ⊢
 clear hck hcd hs I0 L0
 go_enter Tryz.func88, Tryz.ntmps88
 go_wp2_with (go_at_call 114; fail)
 refine HC.out.mono ?_
 rintro e w1 ⟨rfl, hb1⟩
 have G1 := (G0.alloc _).call hb1
 have B1 : Below w.heap.size w w1 := (B0.alloc B0.size _).trans (hb1.mono (by simp; omega))
 clear hb1 HC G0 B0
 obtain ⟨⟨g0, g1, g2, g3, g4, g5, g6⟩, gz⟩ := id G1
 simp only [Nat.zero_add] at g0 g1 g2 g3 g4 g5 g6
 go_wp2_with (go_at_call 115; fail)
 refine (HT.out _).mono ?_
 rintro e w2 ⟨rfl, hb2⟩
 go_wp2
 go_ret3
 exact ⟨rfl, B1.trans (hb2.mono B1.size)⟩
end
section
set_option maxHeartbeats 2000000
open Go.RowKit

theorem checkSpan_any (s : Sp) (w : World) :
  Calls Tryz.prog 93 #[sv s] w fun e w' => e = .returned (.int .i64 (ckSp s)) ∧ Below w.heap.size w w' := by
 obtain ⟨n, lo, hi⟩ := s
 have e0 : ckSp ⟨n, lo, hi⟩ = if ¬ (inNum lo ∧ inNum hi) then 3 else if n = true ∧ ¬ (lo = 0 ∧ hi = 0) then 1 else if hi < lo then 4 else 0 := rfl
 rw [e0]
 clear e0
 by_cases h : inNum lo
 ·have b1 : btw lo (-2147483648) 2147483647 = true := decide_eq_true h
  by_cases h' : inNum hi
  ·have b2 : btw hi (-2147483648) 2147483647 = true := decide_eq_true h'
   rw [if_neg (by simp [h, h'])]
   clear h h'
   cases n with
   | true =>
    by_cases hz : lo = 0
    ·subst hz
     by_cases hz' : hi = 0
     ·subst hz'
      rw [if_neg (by simp), if_neg (by simp)]
      go_enter Tryz.func93, Tryz.ntmps93
      go_wp2_with (go_at_call 38; refine (between_any _ _ _ _).mono ?_; rintro e w' ⟨rfl, rfl⟩)
      go_ret
      exact ⟨rfl, by go_grown⟩
     ·have q : (hi == 0) = false := by simpa using hz'
      rw [if_pos (by simp [hz'])]
      go_enter Tryz.func93, Tryz.ntmps93
      go_wp2_with (go_at_call 38; refine (between_any _ _ _ _).mono ?_; rintro e w' ⟨rfl, rfl⟩)
      go_ret
      exact ⟨rfl, by go_grown⟩
    ·have q : (lo == 0) = false := by simpa using hz
     rw [if_pos (by simp [hz])]
     go_enter Tryz.func93, Tryz.ntmps93
     go_wp2_with (go_at_call 38; refine (between_any _ _ _ _).mono ?_; rintro e w' ⟨rfl, rfl⟩)
     go_ret
     exact ⟨rfl, by go_grown⟩
   | false =>
    rw [if_neg (by simp)]
    by_cases hz : hi < lo
    ·rw [if_pos hz]
     go_enter Tryz.func93, Tryz.ntmps93
     go_wp2_with (go_at_call 38; refine (between_any _ _ _ _).mono ?_; rintro e w' ⟨rfl, rfl⟩)
     go_ret
     exact ⟨rfl, by go_grown⟩
    ·rw [if_neg hz]
     go_enter Tryz.func93, Tryz.ntmps93
     go_wp2_with (go_at_call 38; refine (between_any _ _ _ _).mono ?_; rintro e w' ⟨rfl, rfl⟩)
     go_ret
     exact ⟨rfl, by go_grown⟩
  ·have b2 : btw hi (-2147483648) 2147483647 = false := decide_eq_false h'
   rw [if_pos (by simp [h'])]
   clear h h'
   go_enter Tryz.func93, Tryz.ntmps93
   go_wp2_with (go_at_call 38; refine (between_any _ _ _ _).mono ?_; rintro e w' ⟨rfl, rfl⟩)
   go_ret
   exact ⟨rfl, by go_grown⟩
 ·have b1 : btw lo (-2147483648) 2147483647 = false := decide_eq_false h
  rw [if_pos (by simp [h])]
  clear h
  go_enter Tryz.func93, Tryz.ntmps93
  go_wp2_with (go_at_call 38; refine (between_any _ _ _ _).mono ?_; rintro e w' ⟨rfl, rfl⟩)
  go_ret
  exact ⟨rfl, by go_grown⟩

theorem inSpan_any (s : Sp) (x : Int) (w : World) :
  Calls Tryz.prog 25 #[sv s, .int .i64 x] w fun e w' => e = .returned (.bool (s.has x)) ∧ Below w.heap.size w w' := by
 obtain ⟨n, lo, hi⟩ := s
 have e0 : btw x lo hi = (decide (lo ≤ x) && decide (x ≤ hi)) := by unfold btw; exact Bool.decide_and _ _
 have e1 : Sp.has ⟨n, lo, hi⟩ x = (!n && btw x lo hi) := by rw [e0]; rfl
 rw [e1]
 cases n with
 | true =>
  go_enter Tryz.func25, Tryz.ntmps25
  go_wp2
  go_ret
  exact ⟨rfl, by go_grown⟩
 | false =>
  clear e0 e1
  generalize hB : btw x lo hi = B
  go_enter Tryz.func25, Tryz.ntmps25
  go_wp2_with (go_at_call 38; refine (between_any _ _ _ _).mono ?_; rintro e w' ⟨rfl, rfl⟩)
  go_ret
  exact ⟨ret_bool (by simp [hB]), by go_grown⟩

theorem least2 (g c : Nat) (x y : Int) (w : World) (h0 : w.cell? ⟨g, 0, none⟩ = some (.int .i64 x)) (h1 : w.cell? ⟨g, 1, none⟩ = some (.int .i64 y)) :
  Calls Tryz.prog 94 #[.slice (some ⟨g, 0, none⟩) 2 c] w fun e w' => e = .returned (.int .i64 (min x y)) ∧ w' = w := by
 go_enter Tryz.func94, Tryz.ntmps94
 go_wp2
 go_rounds 2
 all_goals go_ret
 all_goals exact ⟨ret_int (by omega), rfl⟩

theorem least4 (g c : Nat) (x y z u : Int) (w : World) (h0 : w.cell? ⟨g, 0, none⟩ = some (.int .i64 x)) (h1 : w.cell? ⟨g, 1, none⟩ = some (.int .i64 y)) (h2 : w.cell? ⟨g, 2, none⟩ = some (.int .i64 z)) (h3 : w.cell? ⟨g, 3, none⟩ = some (.int .i64 u)) :
  Calls Tryz.prog 94 #[.slice (some ⟨g, 0, none⟩) 4 c] w fun e w' => e = .returned (.int .i64 (min4 x y z u)) ∧ w' = w := by
 go_enter Tryz.func94, Tryz.ntmps94
 go_wp2
 go_rounds 4
 all_goals go_ret
 all_goals exact ⟨ret_int (by unfold min4; omega), rfl⟩

theorem most2 (g c : Nat) (x y : Int) (w : World) (h0 : w.cell? ⟨g, 0, none⟩ = some (.int .i64 x)) (h1 : w.cell? ⟨g, 1, none⟩ = some (.int .i64 y)) :
  Calls Tryz.prog 95 #[.slice (some ⟨g, 0, none⟩) 2 c] w fun e w' => e = .returned (.int .i64 (max x y)) ∧ w' = w := by
 go_enter Tryz.func95, Tryz.ntmps95
 go_wp2
 go_rounds 2
 all_goals go_ret
 all_goals exact ⟨ret_int (by omega), rfl⟩

theorem most4 (g c : Nat) (x y z u : Int) (w : World) (h0 : w.cell? ⟨g, 0, none⟩ = some (.int .i64 x)) (h1 : w.cell? ⟨g, 1, none⟩ = some (.int .i64 y)) (h2 : w.cell? ⟨g, 2, none⟩ = some (.int .i64 z)) (h3 : w.cell? ⟨g, 3, none⟩ = some (.int .i64 u)) :
  Calls Tryz.prog 95 #[.slice (some ⟨g, 0, none⟩) 4 c] w fun e w' => e = .returned (.int .i64 (max4 x y z u)) ∧ w' = w := by
 go_enter Tryz.func95, Tryz.ntmps95
 go_wp2
 go_rounds 4
 all_goals go_ret
 all_goals exact ⟨ret_int (by unfold max4; omega), rfl⟩
end
end Go.Proofs.YtmapdpcfanecdabGreat
