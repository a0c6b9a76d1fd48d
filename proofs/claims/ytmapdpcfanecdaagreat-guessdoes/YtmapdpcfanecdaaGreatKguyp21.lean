/- Walks over package guess: Within, Truth, Holds. -/
import Derived.Test.YtmapdpcfanecdaaGreatKguyp20
namespace Go.Proofs.YtmapdpcfanecdaaGreat
set_option linter.unusedVariables false
set_option linter.unusedSimpArgs false
open Go.RowKit

/-- The boxes of Within: program, two guesses. -/
abbrev winW (w : World) (V F : Int) (s : Option Addr) (c : List Ins) (cap : Nat) (g : Gs) (ss : Option Addr) (gc : Nat) (h : Gs) (st : Option Addr) (hc : Nat) : World :=
  ((w.alloc (.cells #[.int .i64 V, .int .i64 F, .slice s c.length cap] 24)).alloc (.cells #[.bool g.n, .bool g.sp.n, .int .i64 g.sp.lo, .int .i64 g.sp.hi, .bool g.t, .bool g.f, .slice ss g.s.length gc] 29)).alloc (.cells #[.bool h.n, .bool h.sp.n, .int .i64 h.sp.lo, .int .i64 h.sp.hi, .bool h.t, .bool h.f, .slice st h.s.length hc] 29)
theorem winW_at (w : World) (V F : Int) (s : Option Addr) (c : List Ins) (cap : Nat) (g : Gs) (ss : Option Addr) (gc : Nat) (h : Gs) (st : Option Addr) (hc : Nat) :
    GuAt (winW w V F s c cap g ss gc h st hc) (w.heap.size + 1) 0 g ss gc ∧ GuAt (winW w V F s c cap g ss gc h st hc) (w.heap.size + 1 + 1) 0 h st hc ∧ Below w.heap.size w (winW w V F s c cap g ss gc h st hc) := by
  refine ⟨?_, ?_, by go_grown⟩
  · have := GuAt.new (w.alloc (.cells #[.int .i64 V, .int .i64 F, .slice s c.length cap] 24)) g ss gc
    rw [World.size_alloc] at this
    exact this.alloc _
  · have := GuAt.new ((w.alloc (.cells #[.int .i64 V, .int .i64 F, .slice s c.length cap] 24)).alloc (.cells #[.bool g.n, .bool g.sp.n, .int .i64 g.sp.lo, .int .i64 g.sp.hi, .bool g.t, .bool g.f, .slice ss g.s.length gc] 29)) h st hc
    simp only [World.size_alloc] at this
    exact this

theorem ret_t2i {a c : Bool} {b d : Int} (h : a = c) (h' : b = d) : Ending.returned (.tuple #[.bool a, .int .i64 b]) = .returned (.tuple #[.bool c, .int .i64 d]) := by rw [h, h']
theorem three_ways (a b : Bool) : (a = true ∧ b = false) ∨ a = false ∨ (a = true ∧ b = true) := by cases a <;> cases b <;> simp

/-- All of s is in t just if what both have is s. -/
theorem meet_inG {s t : Sp} (hs : s.Ok) (ht : t.Ok) : @decide _ ((meetSp s t).dq s) = spIn s t := by
  obtain ⟨n, lo, hi⟩ := s
  obtain ⟨n', lo', hi'⟩ := t
  obtain ⟨-, -, hz, hl⟩ := hs
  obtain ⟨-, -, hz', hl'⟩ := ht
  cases n with
  | true =>
    obtain ⟨h1, h2⟩ := hz rfl
    simp only at h1 h2
    subst h1 h2
    rfl
  | false =>
    cases n' with
    | true =>
      have e0 : meetSp ⟨false, lo, hi⟩ ⟨true, lo', hi'⟩ = ⟨true, 0, 0⟩ := rfl
      rw [e0]
      simp [spIn, Sp.has]
    | false =>
      simp only at hl hl'
      rw [Bool.eq_iff_iff, @decide_eq_true_eq _ (Sp.dq _ _)]
      unfold meetSp spIn Sp.has
      simp only [Bool.false_or, Bool.not_false, Bool.true_and, decide_eq_true_eq, Bool.and_eq_true]
      constructor
      · intro h
        split at h
        · cases h
        · simp only [Sp.mk.injEq, true_and] at h
          omega
      · intro h
        rw [if_neg (by omega)]
        simp only [Sp.mk.injEq, true_and]
        omega

set_option maxHeartbeats 2000000 in
set_option maxRecDepth 10000 in
theorem withinG_err (V F : Int) (s : Option Addr) (c : List Ins) (cap : Nat) (g : Gs) (ss : Option Addr) (gc : Nat) (h : Gs) (st : Option Addr) (hc : Nat) (w : World)
    (hcd : CodeAt w s c) (hs : IntsAt w ss g.s) (h1 : g.s.length ≤ gc) (h2 : gc ≤ maxLen) (ht : IntsAt w st h.s) (h3 : h.s.length ≤ hc) (h4 : hc ≤ maxLen) (hck : ckAllG V F c [g, h] ≠ 0) :
    Calls Tryz.prog 9 #[pv V F s c cap, gv g ss gc, gv h st hc] w fun e w' => e = .returned (.tuple #[.bool false, .int .i64 (ckAllG V F c [g, h])]) ∧ Below w.heap.size w w' := by
  obtain ⟨G0, H0, B0⟩ := winW_at w V F s c cap g ss gc h st hc
  have I0 : IntsAt (winW w V F s c cap g ss gc h st hc) ss g.s := hs.below B0 (Nat.le_refl _)
  have J0 : IntsAt (winW w V F s c cap g ss gc h st hc) st h.s := ht.below B0 (Nat.le_refl _)
  have L0 := GsAt.new2 (winW w V F s c cap g ss gc h st hc) g ss gc h st hc I0 h1 h2 J0 h3 h4
  simp only [World.size_alloc] at L0
  have HC := hideH (checkAllG_any V F s c cap (some ⟨w.heap.size + 1 + 1 + 1, 0, none⟩) [g, h] 2 _ ((hcd.below B0 (Nat.le_refl _)).alloc _) L0 (by simp))
  have hne : (ckAllG V F c [g, h] != 0) = true := by simpa using hck
  generalize ckAllG V F c [g, h] = ce at HC hne ⊢
  clear hck hcd hs ht I0 J0 L0 G0 H0
  go_enter Tryz.func9, Tryz.ntmps9
  go_wp2_with (go_at_call 40; fail)
  refine HC.out.mono ?_
  rintro e w1 ⟨rfl, hb1⟩
  go_wp2
  go_ret2
  exact ⟨rfl, (B0.alloc B0.size _).trans (hb1.mono (by simp; omega))⟩

set_option maxHeartbeats 4000000 in
set_option maxRecDepth 10000 in
theorem withinG_ok (V F : Int) (s : Option Addr) (c : List Ins) (cap : Nat) (g : Gs) (ss : Option Addr) (gc : Nat) (h : Gs) (st : Option Addr) (hc : Nat) (w : World)
    (hcd : CodeAt w s c) (hs : IntsAt w ss g.s) (h1 : g.s.length ≤ gc) (h2 : gc ≤ maxLen) (ht : IntsAt w st h.s) (h3 : h.s.length ≤ hc) (h4 : hc ≤ maxLen) (hck : ckAllG V F c [g, h] = 0) :
    Calls Tryz.prog 9 #[pv V F s c cap, gv g ss gc, gv h st hc] w fun e w' => e = .returned (.tuple #[.bool (inGs g h), .int .i64 0]) ∧ Below w.heap.size w w' := by
  obtain ⟨G0, H0, B0⟩ := winW_at w V F s c cap g ss gc h st hc
  have I0 : IntsAt (winW w V F s c cap g ss gc h st hc) ss g.s := hs.below B0 (Nat.le_refl _)
  have J0 : IntsAt (winW w V F s c cap g ss gc h st hc) st h.s := ht.below B0 (Nat.le_refl _)
  have L0 := GsAt.new2 (winW w V F s c cap g ss gc h st hc) g ss gc h st hc I0 h1 h2 J0 h3 h4
  simp only [World.size_alloc] at L0
  have HC := hideH (checkAllG_any V F s c cap (some ⟨w.heap.size + 1 + 1 + 1, 0, none⟩) [g, h] 2 _ ((hcd.below B0 (Nat.le_refl _)).alloc _) L0 (by simp))
  obtain ⟨hos, hot⟩ := ckSps_ok.1 (ckAllG_spans hck)
  have hW := fun w => within_any g.sp h.sp w
  rw [ckAllG_spans hck, show (decide ((0 : Int) = 0) && @decide _ ((meetSp g.sp h.sp).dq g.sp)) = spIn g.sp h.sp by rw [meet_inG hos hot]; rfl] at hW
  have HW := hideH hW
  have hgl : g.s.length ≤ 9223372036854775807 := by unfold maxLen at h2; omega
  have hlt : h.s.length ≤ 9223372036854775807 := by unfold maxLen at h4; omega
  have HR : Hid (inGs g h = (!(g.n && !h.n) && (!(g.t && !h.t) && (!(g.f && !h.f) && (spIn g.sp h.sp && g.s.all fun x => h.s.contains x))))) := rfl
  generalize inGs g h = res at HR ⊢
  generalize spIn g.sp h.sp = si at HR HW
  rw [hck] at HC
  clear hck hcd hs ht L0 hW hos hot
  go_enter Tryz.func9, Tryz.ntmps9
  go_wp2_with (go_at_call 40; fail)
  refine HC.out.mono ?_
  rintro e w1 ⟨rfl, hb1⟩
  have G1 := (G0.alloc _).call hb1
  have H1 := (H0.alloc _).call hb1
  have I1 := (I0.alloc _).call hb1
  have J1 := (J0.alloc _).call hb1
  have B1 : Below w.heap.size w w1 := (B0.alloc B0.size _).trans (hb1.mono (by simp; omega))
  clear hb1 G0 H0 I0 J0 B0 HC
  obtain ⟨⟨g0, g1, g2, g3, g4, g5, g6⟩, gz⟩ := id G1
  obtain ⟨⟨k0, k1, k2, k3, k4, k5, k6⟩, kz⟩ := id H1
  simp only [Nat.zero_add] at g0 g1 g2 g3 g4 g5 g6 k0 k1 k2 k3 k4 k5 k6
  obtain ⟨n, sp, t, f, sl⟩ := g
  obtain ⟨n', sp', t', f', h'⟩ := h
  simp only at hgl hlt
  rcases three_ways n n' with ⟨rfl, rfl⟩ | rfl | ⟨rfl, rfl⟩
  · go_wp2
    go_ret2
    exact ⟨ret_t2i (by rw [HR.out]; rfl) rfl, B1⟩
  · rcases three_ways t t' with ⟨rfl, rfl⟩ | rfl | ⟨rfl, rfl⟩
    · go_wp2
      go_ret2
      exact ⟨ret_t2i (by rw [HR.out]; rfl) rfl, B1⟩
    · rcases three_ways f f' with ⟨rfl, rfl⟩ | rfl | ⟨rfl, rfl⟩
      · go_wp2
        go_ret2
        exact ⟨ret_t2i (by rw [HR.out]; rfl) rfl, B1⟩
      · go_wp2_with (go_at_call 43; fail)
        refine (containsFunc_more (w.heap.size + 1 + 1) (fun x => !h'.contains x) ss gc sl _ (by omega) I1 fun x wx hbx => more_any x _ ⟨n', sp', t', f', h'⟩ st hc wx (H1.call hbx) (J1.call hbx) (by simpa using hlt)).mono ?_
        rintro e w2 ⟨rfl, hb2⟩
        rw [any_not_all]
        have G2 := G1.call hb2
        have H2 := H1.call hb2
        have B2 := B1.trans (hb2.mono B1.size)
        clear hb2 G1 H1 B1 I1 J1 g0 g1 g2 g3 g4 g5 g6 gz k0 k1 k2 k3 k4 k5 k6 kz
        obtain ⟨⟨g0, g1, g2, g3, g4, g5, g6⟩, gz⟩ := id G2
        obtain ⟨⟨k0, k1, k2, k3, k4, k5, k6⟩, kz⟩ := id H2
        simp only [Nat.zero_add] at g0 g1 g2 g3 g4 g5 g6 k0 k1 k2 k3 k4 k5 k6
        generalize hA : (sl.all fun x => h'.contains x) = al at *
        have HA := hideH hA
        clear hA
        cases al with
        | false =>
          go_wp2
          go_ret2
          exact ⟨ret_t2i (by rw [HR.out]; simp) rfl, B2⟩
        | true =>
          go_wp2_with (go_at_call 44; fail)
          refine (HW.out _).mono ?_
          rintro e w3 ⟨rfl, hb3⟩
          go_wp2
          go_ret2
          exact ⟨ret_t2i (by rw [HR.out]; simp) rfl, B2.trans (hb3.mono B2.size)⟩
      · go_wp2_with (go_at_call 43; fail)
        refine (containsFunc_more (w.heap.size + 1 + 1) (fun x => !h'.contains x) ss gc sl _ (by omega) I1 fun x wx hbx => more_any x _ ⟨n', sp', t', true, h'⟩ st hc wx (H1.call hbx) (J1.call hbx) (by simpa using hlt)).mono ?_
        rintro e w2 ⟨rfl, hb2⟩
        rw [any_not_all]
        have G2 := G1.call hb2
        have H2 := H1.call hb2
        have B2 := B1.trans (hb2.mono B1.size)
        clear hb2 G1 H1 B1 I1 J1 g0 g1 g2 g3 g4 g5 g6 gz k0 k1 k2 k3 k4 k5 k6 kz
        obtain ⟨⟨g0, g1, g2, g3, g4, g5, g6⟩, gz⟩ := id G2
        obtain ⟨⟨k0, k1, k2, k3, k4, k5, k6⟩, kz⟩ := id H2
        simp only [Nat.zero_add] at g0 g1 g2 g3 g4 g5 g6 k0 k1 k2 k3 k4 k5 k6
        generalize hA : (sl.all fun x => h'.contains x) = al at *
        have HA := hideH hA
        clear hA
        cases al with
        | false =>
          go_wp2
          go_ret2
          exact ⟨ret_t2i (by rw [HR.out]; simp) rfl, B2⟩
        | true =>
          go_wp2_with (go_at_call 44; fail)
          refine (HW.out _).mono ?_
          rintro e w3 ⟨rfl, hb3⟩
          go_wp2
          go_ret2
          exact ⟨ret_t2i (by rw [HR.out]; simp) rfl, B2.trans (hb3.mono B2.size)⟩
    · rcases three_ways f f' with ⟨rfl, rfl⟩ | rfl | ⟨rfl, rfl⟩
      · go_wp2
        go_ret2
        exact ⟨ret_t2i (by rw [HR.out]; rfl) rfl, B1⟩
      · go_wp2_with (go_at_call 43; fail)
        refine (containsFunc_more (w.heap.size + 1 + 1) (fun x => !h'.contains x) ss gc sl _ (by omega) I1 fun x wx hbx => more_any x _ ⟨n', sp', true, f', h'⟩ st hc wx (H1.call hbx) (J1.call hbx) (by simpa using hlt)).mono ?_
        rintro e w2 ⟨rfl, hb2⟩
        rw [any_not_all]
        have G2 := G1.call hb2
        have H2 := H1.call hb2
        have B2 := B1.trans (hb2.mono B1.size)
        clear hb2 G1 H1 B1 I1 J1 g0 g1 g2 g3 g4 g5 g6 gz k0 k1 k2 k3 k4 k5 k6 kz
        obtain ⟨⟨g0, g1, g2, g3, g4, g5, g6⟩, gz⟩ := id G2
        obtain ⟨⟨k0, k1, k2, k3, k4, k5, k6⟩, kz⟩ := id H2
        simp only [Nat.zero_add] at g0 g1 g2 g3 g4 g5 g6 k0 k1 k2 k3 k4 k5 k6
        generalize hA : (sl.all fun x => h'.contains x) = al at *
        have HA := hideH hA
        clear hA
        cases al with
        | false =>
          go_wp2
          go_ret2
          exact ⟨ret_t2i (by rw [HR.out]; simp) rfl, B2⟩
        | true =>
          go_wp2_with (go_at_call 44; fail)
          refine (HW.out _).mono ?_
          rintro e w3 ⟨rfl, hb3⟩
          go_wp2
          go_ret2
          exact ⟨ret_t2i (by rw [HR.out]; simp) rfl, B2.trans (hb3.mono B2.size)⟩
      · go_wp2_with (go_at_call 43; fail)
        refine (containsFunc_more (w.heap.size + 1 + 1) (fun x => !h'.contains x) ss gc sl _ (by omega) I1 fun x wx hbx => more_any x _ ⟨n', sp', true, true, h'⟩ st hc wx (H1.call hbx) (J1.call hbx) (by simpa using hlt)).mono ?_
        rintro e w2 ⟨rfl, hb2⟩
        rw [any_not_all]
        have G2 := G1.call hb2
        have H2 := H1.call hb2
        have B2 := B1.trans (hb2.mono B1.size)
        clear hb2 G1 H1 B1 I1 J1 g0 g1 g2 g3 g4 g5 g6 gz k0 k1 k2 k3 k4 k5 k6 kz
        obtain ⟨⟨g0, g1, g2, g3, g4, g5, g6⟩, gz⟩ := id G2
        obtain ⟨⟨k0, k1, k2, k3, k4, k5, k6⟩, kz⟩ := id H2
        simp only [Nat.zero_add] at g0 g1 g2 g3 g4 g5 g6 k0 k1 k2 k3 k4 k5 k6
        generalize hA : (sl.all fun x => h'.contains x) = al at *
        have HA := hideH hA
        clear hA
        cases al with
        | false =>
          go_wp2
          go_ret2
          exact ⟨ret_t2i (by rw [HR.out]; simp) rfl, B2⟩
        | true =>
          go_wp2_with (go_at_call 44; fail)
          refine (HW.out _).mono ?_
          rintro e w3 ⟨rfl, hb3⟩
          go_wp2
          go_ret2
          exact ⟨ret_t2i (by rw [HR.out]; simp) rfl, B2.trans (hb3.mono B2.size)⟩
  · rcases three_ways t t' with ⟨rfl, rfl⟩ | rfl | ⟨rfl, rfl⟩
    · go_wp2
      go_ret2
      exact ⟨ret_t2i (by rw [HR.out]; rfl) rfl, B1⟩
    · rcases three_ways f f' with ⟨rfl, rfl⟩ | rfl | ⟨rfl, rfl⟩
      · go_wp2
        go_ret2
        exact ⟨ret_t2i (by rw [HR.out]; rfl) rfl, B1⟩
      · go_wp2_with (go_at_call 43; fail)
        refine (containsFunc_more (w.heap.size + 1 + 1) (fun x => !h'.contains x) ss gc sl _ (by omega) I1 fun x wx hbx => more_any x _ ⟨true, sp', t', f', h'⟩ st hc wx (H1.call hbx) (J1.call hbx) (by simpa using hlt)).mono ?_
        rintro e w2 ⟨rfl, hb2⟩
        rw [any_not_all]
        have G2 := G1.call hb2
        have H2 := H1.call hb2
        have B2 := B1.trans (hb2.mono B1.size)
        clear hb2 G1 H1 B1 I1 J1 g0 g1 g2 g3 g4 g5 g6 gz k0 k1 k2 k3 k4 k5 k6 kz
        obtain ⟨⟨g0, g1, g2, g3, g4, g5, g6⟩, gz⟩ := id G2
        obtain ⟨⟨k0, k1, k2, k3, k4, k5, k6⟩, kz⟩ := id H2
        simp only [Nat.zero_add] at g0 g1 g2 g3 g4 g5 g6 k0 k1 k2 k3 k4 k5 k6
        generalize hA : (sl.all fun x => h'.contains x) = al at *
        have HA := hideH hA
        clear hA
        cases al with
        | false =>
          go_wp2
          go_ret2
          exact ⟨ret_t2i (by rw [HR.out]; simp) rfl, B2⟩
        | true =>
          go_wp2_with (go_at_call 44; fail)
          refine (HW.out _).mono ?_
          rintro e w3 ⟨rfl, hb3⟩
          go_wp2
          go_ret2
          exact ⟨ret_t2i (by rw [HR.out]; simp) rfl, B2.trans (hb3.mono B2.size)⟩
      · go_wp2_with (go_at_call 43; fail)
        refine (containsFunc_more (w.heap.size + 1 + 1) (fun x => !h'.contains x) ss gc sl _ (by omega) I1 fun x wx hbx => more_any x _ ⟨true, sp', t', true, h'⟩ st hc wx (H1.call hbx) (J1.call hbx) (by simpa using hlt)).mono ?_
        rintro e w2 ⟨rfl, hb2⟩
        rw [any_not_all]
        have G2 := G1.call hb2
        have H2 := H1.call hb2
        have B2 := B1.trans (hb2.mono B1.size)
        clear hb2 G1 H1 B1 I1 J1 g0 g1 g2 g3 g4 g5 g6 gz k0 k1 k2 k3 k4 k5 k6 kz
        obtain ⟨⟨g0, g1, g2, g3, g4, g5, g6⟩, gz⟩ := id G2
        obtain ⟨⟨k0, k1, k2, k3, k4, k5, k6⟩, kz⟩ := id H2
        simp only [Nat.zero_add] at g0 g1 g2 g3 g4 g5 g6 k0 k1 k2 k3 k4 k5 k6
        generalize hA : (sl.all fun x => h'.contains x) = al at *
        have HA := hideH hA
        clear hA
        cases al with
        | false =>
          go_wp2
          go_ret2
          exact ⟨ret_t2i (by rw [HR.out]; simp) rfl, B2⟩
        | true =>
          go_wp2_with (go_at_call 44; fail)
          refine (HW.out _).mono ?_
          rintro e w3 ⟨rfl, hb3⟩
          go_wp2
          go_ret2
          exact ⟨ret_t2i (by rw [HR.out]; simp) rfl, B2.trans (hb3.mono B2.size)⟩
    · rcases three_ways f f' with ⟨rfl, rfl⟩ | rfl | ⟨rfl, rfl⟩
      · go_wp2
        go_ret2
        exact ⟨ret_t2i (by rw [HR.out]; rfl) rfl, B1⟩
      · go_wp2_with (go_at_call 43; fail)
        refine (containsFunc_more (w.heap.size + 1 + 1) (fun x => !h'.contains x) ss gc sl _ (by omega) I1 fun x wx hbx => more_any x _ ⟨true, sp', true, f', h'⟩ st hc wx (H1.call hbx) (J1.call hbx) (by simpa using hlt)).mono ?_
        rintro e w2 ⟨rfl, hb2⟩
        rw [any_not_all]
        have G2 := G1.call hb2
        have H2 := H1.call hb2
        have B2 := B1.trans (hb2.mono B1.size)
        clear hb2 G1 H1 B1 I1 J1 g0 g1 g2 g3 g4 g5 g6 gz k0 k1 k2 k3 k4 k5 k6 kz
        obtain ⟨⟨g0, g1, g2, g3, g4, g5, g6⟩, gz⟩ := id G2
        obtain ⟨⟨k0, k1, k2, k3, k4, k5, k6⟩, kz⟩ := id H2
        simp only [Nat.zero_add] at g0 g1 g2 g3 g4 g5 g6 k0 k1 k2 k3 k4 k5 k6
        generalize hA : (sl.all fun x => h'.contains x) = al at *
        have HA := hideH hA
        clear hA
        cases al with
        | false =>
          go_wp2
          go_ret2
          exact ⟨ret_t2i (by rw [HR.out]; simp) rfl, B2⟩
        | true =>
          go_wp2_with (go_at_call 44; fail)
          refine (HW.out _).mono ?_
          rintro e w3 ⟨rfl, hb3⟩
          go_wp2
          go_ret2
          exact ⟨ret_t2i (by rw [HR.out]; simp) rfl, B2.trans (hb3.mono B2.size)⟩
      · go_wp2_with (go_at_call 43; fail)
        refine (containsFunc_more (w.heap.size + 1 + 1) (fun x => !h'.contains x) ss gc sl _ (by omega) I1 fun x wx hbx => more_any x _ ⟨true, sp', true, true, h'⟩ st hc wx (H1.call hbx) (J1.call hbx) (by simpa using hlt)).mono ?_
        rintro e w2 ⟨rfl, hb2⟩
        rw [any_not_all]
        have G2 := G1.call hb2
        have H2 := H1.call hb2
        have B2 := B1.trans (hb2.mono B1.size)
        clear hb2 G1 H1 B1 I1 J1 g0 g1 g2 g3 g4 g5 g6 gz k0 k1 k2 k3 k4 k5 k6 kz
        obtain ⟨⟨g0, g1, g2, g3, g4, g5, g6⟩, gz⟩ := id G2
        obtain ⟨⟨k0, k1, k2, k3, k4, k5, k6⟩, kz⟩ := id H2
        simp only [Nat.zero_add] at g0 g1 g2 g3 g4 g5 g6 k0 k1 k2 k3 k4 k5 k6
        generalize hA : (sl.all fun x => h'.contains x) = al at *
        have HA := hideH hA
        clear hA
        cases al with
        | false =>
          go_wp2
          go_ret2
          exact ⟨ret_t2i (by rw [HR.out]; simp) rfl, B2⟩
        | true =>
          go_wp2_with (go_at_call 44; fail)
          refine (HW.out _).mono ?_
          rintro e w3 ⟨rfl, hb3⟩
          go_wp2
          go_ret2
          exact ⟨ret_t2i (by rw [HR.out]; simp) rfl, B2.trans (hb3.mono B2.size)⟩
end Go.Proofs.YtmapdpcfanecdaaGreat
