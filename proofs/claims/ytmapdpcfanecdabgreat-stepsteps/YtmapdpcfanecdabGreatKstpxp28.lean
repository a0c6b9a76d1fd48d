/- The document's own answer: are edges the same? -/
import Derived.Test.YtmapdpcfanecdabGreatKstpxp01
import Derived.Test.YtmapdpcfanecdabGreatKstpxp27
import Derived.Test.YtmapdpcfanecdabGreatKstpxp09
import Derived.Deep.DeepCutAuto
import Derived.Test.YtmapdpcfanecdabGreatKstpxp15
import Derived.Test.YtmapdpcfanecdabGreatKstpxp13
set_option linter.unusedSimpArgs false
set_option linter.unusedVariables false
namespace Go.Proofs.YtmapdpcfanecdabGreat
section
set_option maxHeartbeats 4000000
set_option maxRecDepth 10000
open Go.RowKit

theorem togetherG_join (V F : Int) (s : Option Addr) (c : List Ins) (cap : Nat) (g : Gs) (ss : Option Addr) (gc : Nat) (h : Gs) (st : Option Addr) (hc : Nat) (w : World)
  (hcd : CodeAt w s c) (hs : IntsAt w ss g.s) (h1 : g.s.length ≤ gc) (h2 : gc ≤ maxLen) (ht : IntsAt w st h.s) (h3 : h.s.length ≤ hc) (h4 : hc ≤ maxLen) (hck : ckAllG V F c [g, h] = 0) (hlen : ([g, h].flatMap Gs.s).length ≤ 1000000) :
  Calls Tryz.prog 109 #[pv V F s c cap, gv g ss gc, gv h st hc, .func (.func 110) #[] #[]] w fun e w' => ∃ v, e = .returned (.tuple #[.agg #[.bool (g.n || h.n), .bool (joinSp g.sp h.sp).n, .int .i64 (joinSp g.sp h.sp).lo, .int .i64 (joinSp g.sp h.sp).hi, .bool (g.t || h.t), .bool (g.f || h.f), v], .int .i64 0]) ∧ w'.ownsRow w.heap.size 3 1 v (sitesOf [g, h]).length ((sitesOf [g, h]).map (.int .i64)) ∧ Below w.heap.size w w' := by
 obtain ⟨P0, G0, H0, R0, F0⟩ := togW_at w V F s c cap g ss gc h st hc
 have B0 := togW_below w V F s c cap g ss gc h st hc
 have C0 : CodeAt (togW w V F s c cap g ss gc h st hc) s c := hcd.below B0 (Nat.le_refl _)
 have I0 : IntsAt (togW w V F s c cap g ss gc h st hc) ss g.s := hs.below B0 (Nat.le_refl _)
 have J0 : IntsAt (togW w V F s c cap g ss gc h st hc) st h.s := ht.below B0 (Nat.le_refl _)
 have L0 := GsAt.new2 (togW w V F s c cap g ss gc h st hc) g ss gc h st hc I0 h1 h2 J0 h3 h4
 simp only [World.size_alloc] at L0
 have hJ0 := fun w => joinF_any g.sp h.sp w
 rw [ckAllG_spans hck, show ∀ r, spIf 0 r = r from fun r => rfl] at hJ0
 have hJ := hideH hJ0
 have HK := hideH hck
 clear hck hJ0
 generalize joinSp g.sp h.sp = J at hJ ⊢
 go_enter Tryz.func109, Tryz.ntmps109
 go_wp2_with (go_at_call 114; fail)
 refine (checkAllG_any V F s c cap _ [g, h] 2 _ (C0.alloc _) L0 (by simp)).mono ?_
 rintro e w1 ⟨rfl, hb1⟩
 rw [HK.out]
 have G1 := (G0.alloc _).call hb1
 have H1 := (H0.alloc _).call hb1
 have R1 := (R0.alloc _).call hb1
 have I1 := (I0.alloc _).call hb1
 have J1 := (J0.alloc _).call hb1
 have F1 : Fr7 w1 (w.heap.size + 1 + 1 + 1) := (F0.alloc _).call hb1
 have B1 : Below w.heap.size w w1 := (B0.alloc B0.size _).trans (hb1.mono (by simp; omega))
 clear hb1 G0 H0 R0 I0 J0 F0 B0 C0 P0 L0 hcd hs ht HK
 obtain ⟨⟨g0, g1, g2, g3, g4, g5, g6⟩, gz⟩ := id G1
 obtain ⟨⟨k0, k1, k2, k3, k4, k5, k6⟩, kz⟩ := id H1
 simp only [Nat.zero_add] at g0 g1 g2 g3 g4 g5 g6 k0 k1 k2 k3 k4 k5 k6
 go_wp2_with (go_at_call 110; fail)
 exact prf_86e381
end
section
set_option maxHeartbeats 2000000
set_option maxRecDepth 10000
open Go.RowKit

theorem checkG_any (V F : Int) (s : Option Addr) (c : List Ins) (cap : Nat) (g : Gs) (ss : Option Addr) (gc : Nat) (w : World) (hcd : CodeAt w s c) (hs : IntsAt w ss g.s) (h1 : g.s.length ≤ gc) (h2 : gc ≤ maxLen) :
  Calls Tryz.prog 107 #[pv V F s c cap, gv g ss gc] w fun e w' => e = .returned (.int .i64 (ckAllG V F c [g])) ∧ Below w.heap.size w w' := by
 have B0 : Below w.heap.size w (pgW w V F s c cap g ss gc) := by go_grown
 have L0 := GsAt.new1 (pgW w V F s c cap g ss gc) g ss gc ((hs.alloc _).alloc _) h1 h2
 simp only [World.size_alloc] at L0
 have HC := hideH (checkAllG_any V F s c cap (some ⟨w.heap.size + 1 + 1, 0, none⟩) [g] 1 _ (((hcd.alloc _).alloc _).alloc _) L0 (by simp))
 generalize ckAllG V F c [g] = ce at HC ⊢
 clear hcd hs L0
 go_enter Tryz.func107, Tryz.ntmps107
 go_wp2_with (go_at_call 114; fail)
 refine HC.out.mono ?_
 rintro e w1 ⟨rfl, hb1⟩
 go_wp2
 go_ret
 exact ⟨rfl, (B0.alloc B0.size _).trans (hb1.mono (by simp; omega))⟩

theorem joinG_ok (V F : Int) (s : Option Addr) (c : List Ins) (cap : Nat) (g : Gs) (ss : Option Addr) (gc : Nat) (h : Gs) (st : Option Addr) (hc : Nat) (w : World)
  (hcd : CodeAt w s c) (hs : IntsAt w ss g.s) (h1 : g.s.length ≤ gc) (h2 : gc ≤ maxLen) (ht : IntsAt w st h.s) (h3 : h.s.length ≤ hc) (h4 : hc ≤ maxLen) (hck : ckAllG V F c [g, h] = 0) (hlen : ([g, h].flatMap Gs.s).length ≤ 1000000) :
  Calls Tryz.prog 82 #[pv V F s c cap, gv g ss gc, gv h st hc] w fun e w' => ∃ v, e = .returned (.tuple #[.agg #[.bool (g.n || h.n), .bool (joinSp g.sp h.sp).n, .int .i64 (joinSp g.sp h.sp).lo, .int .i64 (joinSp g.sp h.sp).hi, .bool (g.t || h.t), .bool (g.f || h.f), v], .int .i64 0]) ∧ w'.ownsRow w.heap.size 3 1 v (sitesOf [g, h]).length ((sitesOf [g, h]).map (.int .i64)) ∧ Below w.heap.size w w' := by
 obtain ⟨P0, G0, H0, R0, F0⟩ := togW_at w V F s c cap g ss gc h st hc
 have B0 := togW_below w V F s c cap g ss gc h st hc
 have C0 : CodeAt (togW w V F s c cap g ss gc h st hc) s c := hcd.below B0 (Nat.le_refl _)
 have I0 : IntsAt (togW w V F s c cap g ss gc h st hc) ss g.s := hs.below B0 (Nat.le_refl _)
 have J0 : IntsAt (togW w V F s c cap g ss gc h st hc) st h.s := ht.below B0 (Nat.le_refl _)
 have HT := hideH (togetherG_join V F s c cap g ss gc h st hc _ C0 I0 h1 h2 J0 h3 h4 hck hlen)
 clear hck hlen hcd hs ht P0 G0 H0 C0 I0 J0
 generalize joinSp g.sp h.sp = J at HT ⊢
 generalize sitesOf [g, h] = T at HT ⊢
 go_enter Tryz.func82, Tryz.ntmps82
 go_wp2_with (go_at_call 109; fail)
 refine HT.out.mono ?_
 rintro e w1 ⟨v, rfl, hown, hb1⟩
 have R1 := R0.call hb1
 have F1 : Fr7 w1 (w.heap.size + 1 + 1 + 1) := F0.call hb1
 have B1 : Below w.heap.size w w1 := B0.trans (hb1.mono B0.size)
 simp only [World.size_alloc] at hown
 have O1 := hown
 obtain ⟨vs, vc, rfl, -, -, -, -⟩ := IntsAt.own hown
 clear hb1 R0 F0 B0 HT hown
 obtain ⟨⟨r0, r1, r2, r3, r4, r5, r6⟩, rz⟩ := id R1
 simp only [Nat.zero_add, zeroG] at r0 r1 r2 r3 r4 r5 r6
 have fz := F1.1
 go_wp2
 refine bodyPost_ret (v := .tuple #[.agg #[.bool (g.n || h.n), .bool J.n, .int .i64 J.lo, .int .i64 J.hi, .bool (g.t || h.t), .bool (g.f || h.f), .slice vs T.length vc], .int .i64 0]) (by simp [results, Tryz.results82, go_sem, r0, r1, r2, r3, r4, r5, r6]) rfl ⟨_, rfl, ?_, ?_⟩
 ·exact ownsRow_base (ownsRow_put7 O1 (by omega)) (by omega)
 ·exact below_put7 B1 (by omega)
end
section
set_option maxHeartbeats 4000000
set_option maxRecDepth 100000
open Go.RowKit

/-- The boxes of Within: program, two guesses. -/
abbrev winW (w : World) (V F : Int) (s : Option Addr) (c : List Ins) (cap : Nat) (g : Gs) (ss : Option Addr) (gc : Nat) (h : Gs) (st : Option Addr) (hc : Nat) : World :=
 ((w.alloc (.cells #[.int .i64 V, .int .i64 F, .slice s c.length cap] 24)).alloc (.cells #[.bool g.n, .bool g.sp.n, .int .i64 g.sp.lo, .int .i64 g.sp.hi, .bool g.t, .bool g.f, .slice ss g.s.length gc] 61)).alloc (.cells #[.bool h.n, .bool h.sp.n, .int .i64 h.sp.lo, .int .i64 h.sp.hi, .bool h.t, .bool h.f, .slice st h.s.length hc] 61)
theorem winW_at (w : World) (V F : Int) (s : Option Addr) (c : List Ins) (cap : Nat) (g : Gs) (ss : Option Addr) (gc : Nat) (h : Gs) (st : Option Addr) (hc : Nat) :
  GuAt (winW w V F s c cap g ss gc h st hc) (w.heap.size + 1) 0 g ss gc ∧ GuAt (winW w V F s c cap g ss gc h st hc) (w.heap.size + 1 + 1) 0 h st hc ∧ Below w.heap.size w (winW w V F s c cap g ss gc h st hc) := by
 refine ⟨?_, ?_, by go_grown⟩
 ·have := GuAt.new (w.alloc (.cells #[.int .i64 V, .int .i64 F, .slice s c.length cap] 24)) g ss gc
  rw [World.size_alloc] at this
  exact this.alloc _
 ·have := GuAt.new ((w.alloc (.cells #[.int .i64 V, .int .i64 F, .slice s c.length cap] 24)).alloc (.cells #[.bool g.n, .bool g.sp.n, .int .i64 g.sp.lo, .int .i64 g.sp.hi, .bool g.t, .bool g.f, .slice ss g.s.length gc] 61)) h st hc
  simp only [World.size_alloc] at this
  exact this

theorem ret_t2i {a c : Bool} {b d : Int} (h : a = c) (h' : b = d) : Ending.returned (.tuple #[.bool a, .int .i64 b]) = .returned (.tuple #[.bool c, .int .i64 d]) := by rw [h, h']
theorem three_ways (a b : Bool) : (a = true ∧ b = false) ∨ a = false ∨ (a = true ∧ b = true) := by cases a <;> cases b <;> simp

/-- All of s is in t just if what both have is s. -/
theorem meet_inG {s t : Sp} (hs : s.Ok) (ht : t.Ok) : @decide _ ((meetSp s t).dq s) = spIn s t := by
 obtain ⟨n, lo, hi⟩ := s
 obtain ⟨n', lo', hi'⟩ := t
 obtain ⟨-, -, hz, hl⟩ := hs
 obtain ⟨-, -, hz', hl'⟩ := ht
 cases n with
 | true =>
  obtain ⟨h1, h2⟩ := hz rfl
  simp only at h1 h2
  subst h1 h2
  rfl
 | false =>
  cases n' with
  | true =>
   have e0 : meetSp ⟨false, lo, hi⟩ ⟨true, lo', hi'⟩ = ⟨true, 0, 0⟩ := rfl
   rw [e0]
   simp [spIn, Sp.has]
  | false =>
   simp only at hl hl'
   rw [Bool.eq_iff_iff, @decide_eq_true_eq _ (Sp.dq _ _)]
   unfold meetSp spIn Sp.has
   simp only [Bool.false_or, Bool.not_false, Bool.true_and, decide_eq_true_eq, Bool.and_eq_true]
   constructor
   ·intro h
    split at h
    ·cases h
    ·simp only [Sp.mk.injEq, true_and] at h
     omega
   ·intro h
    rw [if_neg (by omega)]
    simp only [Sp.mk.injEq, true_and]
    omega

theorem prf_39bfb5 {p : Prop} (h : p := by
 rintro e w2 ⟨rfl, hb2⟩
 rw [any_not_all]
 have G2 := G1.call hb2
 have H2 := H1.call hb2
 have B2 := B1.trans (hb2.mono B1.size)
 clear hb2 G1 H1 B1 I1 J1 g0 g1 g2 g3 g4 g5 g6 gz k0 k1 k2 k3 k4 k5 k6 kz
 obtain ⟨⟨g0, g1, g2, g3, g4, g5, g6⟩, gz⟩ := id G2
 obtain ⟨⟨k0, k1, k2, k3, k4, k5, k6⟩, kz⟩ := id H2
 simp only [Nat.zero_add] at g0 g1 g2 g3 g4 g5 g6 k0 k1 k2 k3 k4 k5 k6
 generalize hA : (sl.all fun x => h'.contains x) = al at *
 have HA := hideH hA
 clear hA
 cases al with
 | false =>
  go_wp2
  go_ret2
  exact ⟨ret_t2i (by rw [HR.out]; simp) rfl, B2⟩
 | true =>
  go_wp2_with (go_at_call 119; fail)
  refine (HW.out _).mono ?_
  rintro e w3 ⟨rfl, hb3⟩
  go_wp2
  go_ret2
  exact ⟨ret_t2i (by rw [HR.out]; simp) rfl, B2.trans (hb3.mono B2.size)⟩) : p := h
theorem withinG_ok (V F : Int) (s : Option Addr) (c : List Ins) (cap : Nat) (g : Gs) (ss : Option Addr) (gc : Nat) (h : Gs) (st : Option Addr) (hc : Nat) (w : World)
  (hcd : CodeAt w s c) (hs : IntsAt w ss g.s) (h1 : g.s.length ≤ gc) (h2 : gc ≤ maxLen) (ht : IntsAt w st h.s) (h3 : h.s.length ≤ hc) (h4 : hc ≤ maxLen) (hck : ckAllG V F c [g, h] = 0) :
  Calls Tryz.prog 89 #[pv V F s c cap, gv g ss gc, gv h st hc] w fun e w' => e = .returned (.tuple #[.bool (inGs g h), .int .i64 0]) ∧ Below w.heap.size w w' := by
 obtain ⟨G0, H0, B0⟩ := winW_at w V F s c cap g ss gc h st hc
 have I0 : IntsAt (winW w V F s c cap g ss gc h st hc) ss g.s := hs.below B0 (Nat.le_refl _)
 have J0 : IntsAt (winW w V F s c cap g ss gc h st hc) st h.s := ht.below B0 (Nat.le_refl _)
 have L0 := GsAt.new2 (winW w V F s c cap g ss gc h st hc) g ss gc h st hc I0 h1 h2 J0 h3 h4
 simp only [World.size_alloc] at L0
 have HC := hideH (checkAllG_any V F s c cap (some ⟨w.heap.size + 1 + 1 + 1, 0, none⟩) [g, h] 2 _ ((hcd.below B0 (Nat.le_refl _)).alloc _) L0 (by simp))
 obtain ⟨hos, hot⟩ := ckSps_ok.1 (ckAllG_spans hck)
 have hW := fun w => within_any g.sp h.sp w
 rw [ckAllG_spans hck, show (decide ((0 : Int) = 0) && @decide _ ((meetSp g.sp h.sp).dq g.sp)) = spIn g.sp h.sp by rw [meet_inG hos hot]; rfl] at hW
 have HW := hideH hW
 have hgl : g.s.length ≤ 9223372036854775807 := by unfold maxLen at h2; omega
 have hlt : h.s.length ≤ 9223372036854775807 := by unfold maxLen at h4; omega
 have HR : Hid (inGs g h = (!(g.n && !h.n) && (!(g.t && !h.t) && (!(g.f && !h.f) && (spIn g.sp h.sp && g.s.all fun x => h.s.contains x))))) := rfl
 generalize inGs g h = res at HR ⊢
 generalize spIn g.sp h.sp = si at HR HW
 rw [hck] at HC
 clear hck hcd hs ht L0 hW hos hot
 go_enter Tryz.func89, Tryz.ntmps89
 go_wp2_with (go_at_call 114; fail)
 refine HC.out.mono ?_
 rintro e w1 ⟨rfl, hb1⟩
 have G1 := (G0.alloc _).call hb1
 have H1 := (H0.alloc _).call hb1
 have I1 := (I0.alloc _).call hb1
 have J1 := (J0.alloc _).call hb1
 have B1 : Below w.heap.size w w1 := (B0.alloc B0.size _).trans (hb1.mono (by simp; omega))
 clear hb1 G0 H0 I0 J0 B0 HC
 obtain ⟨⟨g0, g1, g2, g3, g4, g5, g6⟩, gz⟩ := id G1
 obtain ⟨⟨k0, k1, k2, k3, k4, k5, k6⟩, kz⟩ := id H1
 simp only [Nat.zero_add] at g0 g1 g2 g3 g4 g5 g6 k0 k1 k2 k3 k4 k5 k6
 obtain ⟨n, sp, t, f, sl⟩ := g
 obtain ⟨n', sp', t', f', h'⟩ := h
 simp only at hgl hlt
 rcases three_ways n n' with ⟨rfl, rfl⟩ | rfl | ⟨rfl, rfl⟩
 ·go_wp2
  go_ret2
  exact ⟨ret_t2i (by rw [HR.out]; rfl) rfl, B1⟩
 ·rcases three_ways t t' with ⟨rfl, rfl⟩ | rfl | ⟨rfl, rfl⟩
  ·go_wp2
   go_ret2
   exact ⟨ret_t2i (by rw [HR.out]; rfl) rfl, B1⟩
  ·rcases three_ways f f' with ⟨rfl, rfl⟩ | rfl | ⟨rfl, rfl⟩
   ·go_wp2
    go_ret2
    exact ⟨ret_t2i (by rw [HR.out]; rfl) rfl, B1⟩
   ·go_wp2_with (go_at_call 118; fail)
    refine (containsFunc_more (w.heap.size + 1 + 1) (fun x => !h'.contains x) ss gc sl _ (by omega) I1 fun x wx hbx => more_any x _ ⟨n', sp', t', f', h'⟩ st hc wx (H1.call hbx) (J1.call hbx) (by simpa using hlt)).mono ?_
    exact prf_39bfb5
   ·go_wp2_with (go_at_call 118; fail)
    refine (containsFunc_more (w.heap.size + 1 + 1) (fun x => !h'.contains x) ss gc sl _ (by omega) I1 fun x wx hbx => more_any x _ ⟨n', sp', t', true, h'⟩ st hc wx (H1.call hbx) (J1.call hbx) (by simpa using hlt)).mono ?_
    exact prf_39bfb5
  ·rcases three_ways f f' with ⟨rfl, rfl⟩ | rfl | ⟨rfl, rfl⟩
   ·go_wp2
    go_ret2
    exact ⟨ret_t2i (by rw [HR.out]; rfl) rfl, B1⟩
   ·go_wp2_with (go_at_call 118; fail)
    refine (containsFunc_more (w.heap.size + 1 + 1) (fun x => !h'.contains x) ss gc sl _ (by omega) I1 fun x wx hbx => more_any x _ ⟨n', sp', true, f', h'⟩ st hc wx (H1.call hbx) (J1.call hbx) (by simpa using hlt)).mono ?_
    exact prf_39bfb5
   ·go_wp2_with (go_at_call 118; fail)
    refine (containsFunc_more (w.heap.size + 1 + 1) (fun x => !h'.contains x) ss gc sl _ (by omega) I1 fun x wx hbx => more_any x _ ⟨n', sp', true, true, h'⟩ st hc wx (H1.call hbx) (J1.call hbx) (by simpa using hlt)).mono ?_
    exact prf_39bfb5
 ·rcases three_ways t t' with ⟨rfl, rfl⟩ | rfl | ⟨rfl, rfl⟩
  ·go_wp2
   go_ret2
   exact ⟨ret_t2i (by rw [HR.out]; rfl) rfl, B1⟩
  ·rcases three_ways f f' with ⟨rfl, rfl⟩ | rfl | ⟨rfl, rfl⟩
   ·go_wp2
    go_ret2
    exact ⟨ret_t2i (by rw [HR.out]; rfl) rfl, B1⟩
   ·go_wp2_with (go_at_call 118; fail)
    refine (containsFunc_more (w.heap.size + 1 + 1) (fun x => !h'.contains x) ss gc sl _ (by omega) I1 fun x wx hbx => more_any x _ ⟨true, sp', t', f', h'⟩ st hc wx (H1.call hbx) (J1.call hbx) (by simpa using hlt)).mono ?_
    exact prf_39bfb5
   ·go_wp2_with (go_at_call 118; fail)
    refine (containsFunc_more (w.heap.size + 1 + 1) (fun x => !h'.contains x) ss gc sl _ (by omega) I1 fun x wx hbx => more_any x _ ⟨true, sp', t', true, h'⟩ st hc wx (H1.call hbx) (J1.call hbx) (by simpa using hlt)).mono ?_
    exact prf_39bfb5
  ·rcases three_ways f f' with ⟨rfl, rfl⟩ | rfl | ⟨rfl, rfl⟩
   ·go_wp2
    go_ret2
    exact ⟨ret_t2i (by rw [HR.out]; rfl) rfl, B1⟩
   ·go_wp2_with (go_at_call 118; fail)
    refine (containsFunc_more (w.heap.size + 1 + 1) (fun x => !h'.contains x) ss gc sl _ (by omega) I1 fun x wx hbx => more_any x _ ⟨true, sp', true, f', h'⟩ st hc wx (H1.call hbx) (J1.call hbx) (by simpa using hlt)).mono ?_
    exact prf_39bfb5
   ·go_wp2_with (go_at_call 118; fail)
    refine (containsFunc_more (w.heap.size + 1 + 1) (fun x => !h'.contains x) ss gc sl _ (by omega) I1 fun x wx hbx => more_any x _ ⟨true, sp', true, true, h'⟩ st hc wx (H1.call hbx) (J1.call hbx) (by simpa using hlt)).mono ?_
    exact prf_39bfb5
end
section
set_option maxHeartbeats 2000000
set_option maxRecDepth 10000
open Go.RowKit

theorem truthOf_any (g : Gs) (ss : Option Addr) (gc : Nat) (w : World) :
  Calls Tryz.prog 24 #[gv g ss gc] w fun e w' => e = .returned (.tuple #[.bool (yesGs g), .bool (noGs g)]) ∧ Below w.heap.size w w' := by
 have HI := hideH (fun w => inSpan_any g.sp 0 w)
 have HY : Hid (yesGs g = ((!g.sp.n && !decide (g.sp.lo = 0 ∧ g.sp.hi = 0)) || (g.t || decide (0 < g.s.length)))) := rfl
 have HN : Hid (noGs g = (g.sp.has 0 || (g.n || g.f))) := rfl
 generalize yesGs g = yy at *
 generalize noGs g = nn at *
 generalize g.sp.has 0 = z at *
 obtain ⟨n, ⟨sn, lo, hi⟩, t, f, s⟩ := g
 cases n
 ·cases f
  ·cases t
   ·by_cases hl : 0 < s.length
    ·have hl' : (0 : Int) < (s.length : Int) := by omega
     go_enter Tryz.func24, Tryz.ntmps24
     go_wp2_with (go_at_call 25; fail)
     refine (HI.out _).mono ?_
     rintro e w1 ⟨rfl, hb1⟩
     go_wp2
     go_ret2
     exact ⟨ret_t2 (by rw [HY.out]; simp_all) (by rw [HN.out]; simp), Below.trans (by go_grown) (hb1.mono (by simp))⟩
    ·have hl' : ¬ (0 : Int) < (s.length : Int) := by omega
     cases sn
     ·by_cases h1 : lo = 0
      ·subst h1
       by_cases h2 : hi = 0
       ·subst h2
        go_enter Tryz.func24, Tryz.ntmps24
        go_wp2_with (go_at_call 25; fail)
        refine (HI.out _).mono ?_
        rintro e w1 ⟨rfl, hb1⟩
        go_wp2
        go_ret2
        exact ⟨ret_t2 (by rw [HY.out]; simp_all) (by rw [HN.out]; simp), Below.trans (by go_grown) (hb1.mono (by simp))⟩
       ·have h2' : (hi != 0) = true := by simpa using h2
        go_enter Tryz.func24, Tryz.ntmps24
        go_wp2_with (go_at_call 25; fail)
        refine (HI.out _).mono ?_
        rintro e w1 ⟨rfl, hb1⟩
        go_wp2
        go_ret2
        exact ⟨ret_t2 (by rw [HY.out]; simp_all) (by rw [HN.out]; simp), Below.trans (by go_grown) (hb1.mono (by simp))⟩
      ·have h1' : (lo != 0) = true := by simpa using h1
       go_enter Tryz.func24, Tryz.ntmps24
       go_wp2_with (go_at_call 25; fail)
       refine (HI.out _).mono ?_
       rintro e w1 ⟨rfl, hb1⟩
       go_wp2
       go_ret2
       exact ⟨ret_t2 (by rw [HY.out]; simp_all) (by rw [HN.out]; simp), Below.trans (by go_grown) (hb1.mono (by simp))⟩
     ·go_enter Tryz.func24, Tryz.ntmps24
      go_wp2_with (go_at_call 25; fail)
      refine (HI.out _).mono ?_
      rintro e w1 ⟨rfl, hb1⟩
      go_wp2
      go_ret2
      exact ⟨ret_t2 (by rw [HY.out]; simp_all) (by rw [HN.out]; simp), Below.trans (by go_grown) (hb1.mono (by simp))⟩
   ·go_enter Tryz.func24, Tryz.ntmps24
    go_wp2_with (go_at_call 25; fail)
    refine (HI.out _).mono ?_
    rintro e w1 ⟨rfl, hb1⟩
    go_wp2
    go_ret2
    exact ⟨ret_t2 (by rw [HY.out]; simp_all) (by rw [HN.out]; simp), Below.trans (by go_grown) (hb1.mono (by simp))⟩
  ·cases t
   ·by_cases hl : 0 < s.length
    ·have hl' : (0 : Int) < (s.length : Int) := by omega
     go_enter Tryz.func24, Tryz.ntmps24
     go_wp2
     go_ret2
     exact ⟨ret_t2 (by rw [HY.out]; simp_all) (by rw [HN.out]; simp), by go_grown⟩
    ·have hl' : ¬ (0 : Int) < (s.length : Int) := by omega
     cases sn
     ·by_cases h1 : lo = 0
      ·subst h1
       by_cases h2 : hi = 0
       ·subst h2
        go_enter Tryz.func24, Tryz.ntmps24
        go_wp2
        go_ret2
        exact ⟨ret_t2 (by rw [HY.out]; simp_all) (by rw [HN.out]; simp), by go_grown⟩
       ·have h2' : (hi != 0) = true := by simpa using h2
        go_enter Tryz.func24, Tryz.ntmps24
        go_wp2
        go_ret2
        exact ⟨ret_t2 (by rw [HY.out]; simp_all) (by rw [HN.out]; simp), by go_grown⟩
      ·have h1' : (lo != 0) = true := by simpa using h1
       go_enter Tryz.func24, Tryz.ntmps24
       go_wp2
       go_ret2
       exact ⟨ret_t2 (by rw [HY.out]; simp_all) (by rw [HN.out]; simp), by go_grown⟩
     ·go_enter Tryz.func24, Tryz.ntmps24
      go_wp2
      go_ret2
      exact ⟨ret_t2 (by rw [HY.out]; simp_all) (by rw [HN.out]; simp), by go_grown⟩
   ·go_enter Tryz.func24, Tryz.ntmps24
    go_wp2
    go_ret2
    exact ⟨ret_t2 (by rw [HY.out]; simp_all) (by rw [HN.out]; simp), by go_grown⟩
 ·cases t
  ·by_cases hl : 0 < s.length
   ·have hl' : (0 : Int) < (s.length : Int) := by omega
    go_enter Tryz.func24, Tryz.ntmps24
    go_wp2
    go_ret2
    exact ⟨ret_t2 (by rw [HY.out]; simp_all) (by rw [HN.out]; simp), by go_grown⟩
   ·have hl' : ¬ (0 : Int) < (s.length : Int) := by omega
    cases sn
    ·by_cases h1 : lo = 0
     ·subst h1
      by_cases h2 : hi = 0
      ·subst h2
       go_enter Tryz.func24, Tryz.ntmps24
       go_wp2
       go_ret2
       exact ⟨ret_t2 (by rw [HY.out]; simp_all) (by rw [HN.out]; simp), by go_grown⟩
      ·have h2' : (hi != 0) = true := by simpa using h2
       go_enter Tryz.func24, Tryz.ntmps24
       go_wp2
       go_ret2
       exact ⟨ret_t2 (by rw [HY.out]; simp_all) (by rw [HN.out]; simp), by go_grown⟩
     ·have h1' : (lo != 0) = true := by simpa using h1
      go_enter Tryz.func24, Tryz.ntmps24
      go_wp2
      go_ret2
      exact ⟨ret_t2 (by rw [HY.out]; simp_all) (by rw [HN.out]; simp), by go_grown⟩
    ·go_enter Tryz.func24, Tryz.ntmps24
     go_wp2
     go_ret2
     exact ⟨ret_t2 (by rw [HY.out]; simp_all) (by rw [HN.out]; simp), by go_grown⟩
  ·go_enter Tryz.func24, Tryz.ntmps24
   go_wp2
   go_ret2
   exact ⟨ret_t2 (by rw [HY.out]; simp_all) (by rw [HN.out]; simp), by go_grown⟩

theorem two_at (w : World) (g : Gs) (ss : Option Addr) (gc : Nat) (h : Gs) (st : Option Addr) (hc : Nat) :
  GuAt ((w.alloc (.cells #[.bool g.n, .bool g.sp.n, .int .i64 g.sp.lo, .int .i64 g.sp.hi, .bool g.t, .bool g.f, .slice ss g.s.length gc] 61)).alloc (.cells #[.bool h.n, .bool h.sp.n, .int .i64 h.sp.lo, .int .i64 h.sp.hi, .bool h.t, .bool h.f, .slice st h.s.length hc] 61)) w.heap.size 0 g ss gc ∧ GuAt ((w.alloc (.cells #[.bool g.n, .bool g.sp.n, .int .i64 g.sp.lo, .int .i64 g.sp.hi, .bool g.t, .bool g.f, .slice ss g.s.length gc] 61)).alloc (.cells #[.bool h.n, .bool h.sp.n, .int .i64 h.sp.lo, .int .i64 h.sp.hi, .bool h.t, .bool h.f, .slice st h.s.length hc] 61)) (w.heap.size + 1) 0 h st hc ∧ Below w.heap.size w ((w.alloc (.cells #[.bool g.n, .bool g.sp.n, .int .i64 g.sp.lo, .int .i64 g.sp.hi, .bool g.t, .bool g.f, .slice ss g.s.length gc] 61)).alloc (.cells #[.bool h.n, .bool h.sp.n, .int .i64 h.sp.lo, .int .i64 h.sp.hi, .bool h.t, .bool h.f, .slice st h.s.length hc] 61)) := by
 refine ⟨(GuAt.new w g ss gc).alloc _, ?_, by go_grown⟩
 have := GuAt.new (w.alloc (.cells #[.bool g.n, .bool g.sp.n, .int .i64 g.sp.lo, .int .i64 g.sp.hi, .bool g.t, .bool g.f, .slice ss g.s.length gc] 61)) h st hc
 rw [World.size_alloc] at this
 exact this

/-- Two guesses that read alike are the same. -/
theorem sameGuess_any (g : Gs) (ss : Option Addr) (gc : Nat) (st : Option Addr) (hc : Nat) (w : World) (hs : IntsAt w ss g.s) (ht : IntsAt w st g.s) (hgl : g.s.length ≤ maxLen) :
  Calls Tryz.prog 99 #[gv g ss gc, gv g st hc] w fun e w' => e = .returned (.bool true) ∧ Below w.heap.size w w' := by
 obtain ⟨G0, H0, B0⟩ := two_at w g ss gc g st hc
 have I0 := hs.below B0 (Nat.le_refl _)
 have J0 := ht.below B0 (Nat.le_refl _)
 obtain ⟨n, sp, t, f, sl⟩ := g
 go_enter Tryz.func99, Tryz.ntmps99
 go_wp2_with (go_at_call 129; fail)
 refine (sameInts_any ss st gc hc sl _ hgl I0 J0).mono ?_
 rintro e w1 ⟨rfl, hb1⟩
 go_wp2
 go_ret
 exact ⟨rfl, B0.trans (hb1.mono (by simp; omega))⟩
end
section
set_option maxHeartbeats 4000000
set_option maxRecDepth 10000
open Go.RowKit
attribute [local go_sem ↓] Go.wp_at_zero Go.wp_at_succ

theorem checkPicture_none (V F : Int) (s : Option Addr) (c : List Ins) (cap : Nat) (vars : List Gs) (flds : List (List Gs)) (vs : Option Addr) (vc : Nat) (fs : Option Addr) (fc : Nat) (w : World) :
  Calls Tryz.prog 19 #[pv V F s c cap, xv ⟨true, vars, flds⟩ vs vc fs fc] w fun e w' => e = .returned (.int .i64 (ckPic V F c ⟨true, vars, flds⟩)) ∧ Below w.heap.size w w' := by
 have e1 : ckPic V F c ⟨true, vars, flds⟩ = if vars.length = 0 ∧ flds.length = 0 then 0 else 1 := by
  unfold ckPic formedPic
  simp only [if_true]
  by_cases h1 : vars.length = 0
  ·by_cases h2 : flds.length = 0
   ·have e1 : vars = [] := List.eq_nil_of_length_eq_zero h1
    have e2 : flds = [] := List.eq_nil_of_length_eq_zero h2
    subst e1 e2
    rfl
   ·simp [h1, h2]
  ·simp [h1]
 rw [e1]
 clear e1
 cases vars with
 | nil =>
  cases flds with
  | nil =>
   rw [if_pos ⟨rfl, rfl⟩]
   go_enter Tryz.func19, Tryz.ntmps19
   go_wp2
   go_ret
   exact ⟨rfl, by go_grown⟩
  | cons r flds =>
   rw [if_neg (fun h => by cases h.2)]
   go_enter Tryz.func19, Tryz.ntmps19
   go_wp2
   go_ret
   exact ⟨rfl, by go_grown⟩
 | cons g vars =>
  rw [if_neg (fun h => by cases h.1)]
  go_enter Tryz.func19, Tryz.ntmps19
  go_wp2
  go_ret
  exact ⟨rfl, by go_grown⟩

theorem checkPicture_vars (V F : Int) (s : Option Addr) (c : List Ins) (cap : Nat) (vars : List Gs) (flds : List (List Gs)) (vs : Option Addr) (vc : Nat) (fs : Option Addr) (fc : Nat) (w : World) (h : ¬ (vars.length : Int) = V) :
  Calls Tryz.prog 19 #[pv V F s c cap, xv ⟨false, vars, flds⟩ vs vc fs fc] w fun e w' => e = .returned (.int .i64 1) ∧ Below w.heap.size w w' := by
 have hb0 : Below w.heap.size w ((w.alloc (.cells #[.int .i64 V, .int .i64 F, .slice s c.length cap] 24)).alloc (.cells #[.bool false, .slice vs vars.length vc, .slice fs flds.length fc] 28)) := by go_grown
 have P0 := (PrAt.new w V F s c cap).call (w' := ((w.alloc (.cells #[.int .i64 V, .int .i64 F, .slice s c.length cap] 24)).alloc (.cells #[.bool false, .slice vs vars.length vc, .slice fs flds.length fc] 28))) (by go_grown)
 have X0 := XAt.new (w.alloc (.cells #[.int .i64 V, .int .i64 F, .slice s c.length cap] 24)) ⟨false, vars, flds⟩ vs vc fs fc
 rw [World.size_alloc] at X0
 simp only at X0
 have n1 : ((vars.length : Int) == V) = false := by simpa using h
 clear h
 go_enter Tryz.func19, Tryz.ntmps19
 go_wp2
 go_ret
 exact ⟨rfl, by go_grown⟩

theorem checkPicture_flds (V F : Int) (s : Option Addr) (c : List Ins) (cap : Nat) (vars : List Gs) (flds : List (List Gs)) (vs : Option Addr) (vc : Nat) (fs : Option Addr) (fc : Nat) (w : World) (h0 : (vars.length : Int) = V) (h : ¬ flds.length = c.length) :
  Calls Tryz.prog 19 #[pv V F s c cap, xv ⟨false, vars, flds⟩ vs vc fs fc] w fun e w' => e = .returned (.int .i64 1) ∧ Below w.heap.size w w' := by
 subst h0
 have hb0 : Below w.heap.size w ((w.alloc (.cells #[.int .i64 (vars.length : Int), .int .i64 F, .slice s c.length cap] 24)).alloc (.cells #[.bool false, .slice vs vars.length vc, .slice fs flds.length fc] 28)) := by go_grown
 have P0 := (PrAt.new w (vars.length : Int) F s c cap).call (w' := ((w.alloc (.cells #[.int .i64 (vars.length : Int), .int .i64 F, .slice s c.length cap] 24)).alloc (.cells #[.bool false, .slice vs vars.length vc, .slice fs flds.length fc] 28))) (by go_grown)
 have X0 := XAt.new (w.alloc (.cells #[.int .i64 (vars.length : Int), .int .i64 F, .slice s c.length cap] 24)) ⟨false, vars, flds⟩ vs vc fs fc
 rw [World.size_alloc] at X0
 simp only at X0
 have n1 : ((flds.length : Int) == (c.length : Int)) = false := by simp; omega
 clear h
 go_enter Tryz.func19, Tryz.ntmps19
 go_wp2
 go_ret
 exact ⟨rfl, by go_grown⟩

theorem checkPicture_row (F : Int) (s : Option Addr) (c : List Ins) (cap : Nat) (vars : List Gs) (flds : List (List Gs)) (vs : Option Addr) (vc : Nat) (fs : Option Addr) (fc : Nat) (w : World) (hP : PicAt w ⟨false, vars, flds⟩ vs fs) (h60 : c.length ≤ 60) (hfc : flds.length = c.length) (hb : ∃ r ∈ flds, ¬ (r.length : Int) = F) :
  Calls Tryz.prog 19 #[pv (vars.length : Int) F s c cap, xv ⟨false, vars, flds⟩ vs vc fs fc] w fun e w' => e = .returned (.int .i64 1) ∧ Below w.heap.size w w' := by
 have hb0 : Below w.heap.size w ((w.alloc (.cells #[.int .i64 (vars.length : Int), .int .i64 F, .slice s c.length cap] 24)).alloc (.cells #[.bool false, .slice vs vars.length vc, .slice fs flds.length fc] 28)) := by go_grown
 have P0 := (PrAt.new w (vars.length : Int) F s c cap).call (w' := ((w.alloc (.cells #[.int .i64 (vars.length : Int), .int .i64 F, .slice s c.length cap] 24)).alloc (.cells #[.bool false, .slice vs vars.length vc, .slice fs flds.length fc] 28))) (by go_grown)
 have X0 := XAt.new (w.alloc (.cells #[.int .i64 (vars.length : Int), .int .i64 F, .slice s c.length cap] 24)) ⟨false, vars, flds⟩ vs vc fs fc
 rw [World.size_alloc] at X0
 simp only at X0
 have hfl : ((flds.length : Int) != (c.length : Int)) = false := by simp; omega
 have hl60 : flds.length ≤ 60 := by omega
 have RW0 := hP.2.below hb0 (Nat.le_refl _)
 have HB := hideH hb
 clear hP hfc hb
 simp only at RW0
 go_enter Tryz.func19, Tryz.ntmps19
 go_upto_region 7 with fail
 generalize ((w.alloc (.cells #[.int .i64 (vars.length : Int), .int .i64 F, .slice s c.length cap] 24)).alloc (.cells #[.bool false, .slice vs vars.length vc, .slice fs flds.length fc] 28)) = w1 at *
 have P1 := P0
 have X1 := X0
 have RW := RW0
 clear P0 X0 RW0 hfl
 go_wp2
 go_loopw [5] (fun i wr => ∃ k : Nat, k ≤ flds.length ∧ i = .int .i64 k ∧ Below w1.heap.size w1 wr ∧ Hid (∀ j (h : j < flds.length), j < k → (flds[j].length : Int) = F)) (fun i _ => flds.length - (intOf i).toNat)
 case atStart => exact ⟨0, Nat.zero_le _, rfl, Below.refl _ _, fun j _ h => absurd h (by omega)⟩
 case round =>
  obtain ⟨k, hk, rfl, hbr, HJ⟩ := hrel
  obtain ⟨⟨p0, p1', p2⟩, pz⟩ := id (P1.call hbr)
  obtain ⟨⟨x0, x1, x2⟩, xz, -⟩ := id (X1.call hbr)
  by_cases hlt : k < flds.length
  ·have n0 : (0 : Int) ≤ (k : Int) := by omega
   have n1 : (k : Int) < (flds.length : Int) := by omega
   obtain ⟨p1, q1, rfl, zp1, r1, rc1, C1, k1, m1, -⟩ := RW.below hbr (Nat.le_refl _) k hlt
   have HKZ : Hid (∀ wx, Below wr.heap.size wr wx → wx.cell? ⟨w.heap.size, 1, none⟩ = some (.int .i64 F) ∧ wx.cell? ⟨w.heap.size + 1, 2, none⟩ = some (.slice (some ⟨p1, q1, none⟩) flds.length fc) ∧ wx.cell? ⟨p1, q1 + k, none⟩ = some (.slice r1 flds[k].length rc1)) := fun wx hx => ⟨by rw [hx.cell (by simp only; exact pz)]; exact p1', by rw [hx.cell (by simp only; exact xz)]; exact x2, by rw [hx.cell (by simp only; exact zp1)]; exact C1⟩
   have HD : Below wr.heap.size wr wr.drew := (Below.refl _ _).drew
   go_wp2
   refine wp_region_z (S := (fun wx => wx.cell? ⟨w.heap.size, 1, none⟩ = some (.int .i64 F) ∧ wx.cell? ⟨w.heap.size + 1, 2, none⟩ = some (.slice (some ⟨p1, q1, none⟩) flds.length fc) ∧ wx.cell? ⟨p1, q1 + k, none⟩ = some (.slice r1 flds[k].length rc1))) [] (by kernel_rfl) (HKZ.out _ HD) (fun hHeld => ?_)
   refine tZ 0 ?_ ?_;refine sm ?_
   refine tZ 1 ?_ ?_;refine sm ?_
   refine tZ 2 ?_ ?_;refine sm ?_
   refine tZ 3 ?_ ?_;refine sm ?_
   refine tZ 4 ?_ ?_;refine sm ?_
   refine tZ 5 ?_ ?_;refine sm ?_
   refine tZ 6 ?_ ?_;refine sm ?_
   refine tZ 7 ?_ ?_;refine sm ?_
   refine tZ 8 ?_ ?_;refine sm ?_
   refine wpAnyZ_done (by kernel_rfl) ?_ _
   by_cases hF : (flds[k].length : Int) = F
   ·have e1 : ((flds[k].length : Int) != F) = false := by simpa using hF
    go_wp2
    go_roundw
    case rel => exact ⟨k + 1, by omega, by go_num, hbr.trans (HD.mono hbr.size), fun j hj hjk => by
     by_cases e : j = k
     ·subst e; exact hF
     ·exact HJ.out j hj (by omega)⟩
    case measure => simp [intOf]; omega
   ·have e1 : ((flds[k].length : Int) != F) = true := by simpa using hF
    go_wp2
    go_ret
    exact ⟨rfl, hb0.trans ((hbr.trans (HD.mono hbr.size)).mono hb0.size)⟩
  ·have n1 : ¬ (k : Int) < (flds.length : Int) := by omega
   exfalso
   obtain ⟨r, hr, hne⟩ := HB.out
   obtain ⟨j, hj, rfl⟩ := List.getElem_of_mem hr
   exact hne (HJ.out j hj (by omega))
end
section
set_option maxHeartbeats 4000000
set_option maxRecDepth 10000
open Go.RowKit

theorem doG_5 (V F : Int) (s : Option Addr) (c : List Ins) (cap : Nat) (g : Gs) (ss : Option Addr) (gc : Nat) (h : Gs) (st : Option Addr) (hc : Nat) (w : World)
  (hcd : CodeAt w s c) (hs : IntsAt w ss g.s) (h1 : g.s.length ≤ gc) (h2 : gc ≤ maxLen) (ht : IntsAt w st h.s) (h3 : h.s.length ≤ hc) (h4 : hc ≤ maxLen) (hck : ckAllG V F c [g, h] = 0) :
  Calls Tryz.prog 92 #[pv V F s c cap, .int .i64 5, gv g ss gc, gv h st hc] w fun e w' => e = .returned (.tuple #[gv ⟨false, doSp 5 g.sp h.sp, false, false, []⟩ none 0, .bool ([g, h].any otherGs && ![g, h].any nothingGs), .int .i64 0]) ∧ Below w.heap.size w w' := by
 obtain ⟨P0, G0, H0, R0, F0⟩ := togW_at w V F s c cap g ss gc h st hc
 have B0 := togW_below w V F s c cap g ss gc h st hc
 have C0 : CodeAt (togW w V F s c cap g ss gc h st hc) s c := hcd.below B0 (Nat.le_refl _)
 have I0 : IntsAt (togW w V F s c cap g ss gc h st hc) ss g.s := hs.below B0 (Nat.le_refl _)
 have J0 : IntsAt (togW w V F s c cap g ss gc h st hc) st h.s := ht.below B0 (Nat.le_refl _)
 have L0 := GsAt.new2 (togW w V F s c cap g ss gc h st hc) g ss gc h st hc I0 h1 h2 J0 h3 h4
 simp only [World.size_alloc] at L0
 have hJ0 := fun w => do_any 5 g.sp h.sp w
 rw [show doErr 5 g.sp h.sp = 0 by unfold doErr; rw [if_pos (ckAllG_spans hck), if_pos (by decide)], show ∀ r, spIf 0 r = r from fun r => rfl] at hJ0
 have hJ := hideH hJ0
 have HK := hideH hck
 clear hck hJ0
 generalize doSp 5 g.sp h.sp = J at hJ ⊢
 exact prf_c1fa82
end
section
set_option maxHeartbeats 4000000
set_option maxRecDepth 10000
open Go.RowKit

theorem doG_6 (V F : Int) (s : Option Addr) (c : List Ins) (cap : Nat) (g : Gs) (ss : Option Addr) (gc : Nat) (h : Gs) (st : Option Addr) (hc : Nat) (w : World)
  (hcd : CodeAt w s c) (hs : IntsAt w ss g.s) (h1 : g.s.length ≤ gc) (h2 : gc ≤ maxLen) (ht : IntsAt w st h.s) (h3 : h.s.length ≤ hc) (h4 : hc ≤ maxLen) (hck : ckAllG V F c [g, h] = 0) :
  Calls Tryz.prog 92 #[pv V F s c cap, .int .i64 6, gv g ss gc, gv h st hc] w fun e w' => e = .returned (.tuple #[gv ⟨false, doSp 6 g.sp h.sp, false, false, []⟩ none 0, .bool ([g, h].any otherGs && ![g, h].any nothingGs), .int .i64 0]) ∧ Below w.heap.size w w' := by
 obtain ⟨P0, G0, H0, R0, F0⟩ := togW_at w V F s c cap g ss gc h st hc
 have B0 := togW_below w V F s c cap g ss gc h st hc
 have C0 : CodeAt (togW w V F s c cap g ss gc h st hc) s c := hcd.below B0 (Nat.le_refl _)
 have I0 : IntsAt (togW w V F s c cap g ss gc h st hc) ss g.s := hs.below B0 (Nat.le_refl _)
 have J0 : IntsAt (togW w V F s c cap g ss gc h st hc) st h.s := ht.below B0 (Nat.le_refl _)
 have L0 := GsAt.new2 (togW w V F s c cap g ss gc h st hc) g ss gc h st hc I0 h1 h2 J0 h3 h4
 simp only [World.size_alloc] at L0
 have hJ0 := fun w => do_any 6 g.sp h.sp w
 rw [show doErr 6 g.sp h.sp = 0 by unfold doErr; rw [if_pos (ckAllG_spans hck), if_pos (by decide)], show ∀ r, spIf 0 r = r from fun r => rfl] at hJ0
 have hJ := hideH hJ0
 have HK := hideH hck
 clear hck hJ0
 generalize doSp 6 g.sp h.sp = J at hJ ⊢
 exact prf_c1fa82
end
section
set_option maxHeartbeats 4000000
set_option maxRecDepth 10000
open Go.RowKit

theorem doG_7 (V F : Int) (s : Option Addr) (c : List Ins) (cap : Nat) (g : Gs) (ss : Option Addr) (gc : Nat) (h : Gs) (st : Option Addr) (hc : Nat) (w : World)
  (hcd : CodeAt w s c) (hs : IntsAt w ss g.s) (h1 : g.s.length ≤ gc) (h2 : gc ≤ maxLen) (ht : IntsAt w st h.s) (h3 : h.s.length ≤ hc) (h4 : hc ≤ maxLen) (hck : ckAllG V F c [g, h] = 0) :
  Calls Tryz.prog 92 #[pv V F s c cap, .int .i64 7, gv g ss gc, gv h st hc] w fun e w' => e = .returned (.tuple #[gv ⟨false, doSp 7 g.sp h.sp, false, false, []⟩ none 0, .bool ([g, h].any otherGs && ![g, h].any nothingGs), .int .i64 0]) ∧ Below w.heap.size w w' := by
 obtain ⟨P0, G0, H0, R0, F0⟩ := togW_at w V F s c cap g ss gc h st hc
 have B0 := togW_below w V F s c cap g ss gc h st hc
 have C0 : CodeAt (togW w V F s c cap g ss gc h st hc) s c := hcd.below B0 (Nat.le_refl _)
 have I0 : IntsAt (togW w V F s c cap g ss gc h st hc) ss g.s := hs.below B0 (Nat.le_refl _)
 have J0 : IntsAt (togW w V F s c cap g ss gc h st hc) st h.s := ht.below B0 (Nat.le_refl _)
 have L0 := GsAt.new2 (togW w V F s c cap g ss gc h st hc) g ss gc h st hc I0 h1 h2 J0 h3 h4
 simp only [World.size_alloc] at L0
 have hJ0 := fun w => do_any 7 g.sp h.sp w
 rw [show doErr 7 g.sp h.sp = 0 by unfold doErr; rw [if_pos (ckAllG_spans hck), if_pos (by decide)], show ∀ r, spIf 0 r = r from fun r => rfl] at hJ0
 have hJ := hideH hJ0
 have HK := hideH hck
 clear hck hJ0
 generalize doSp 7 g.sp h.sp = J at hJ ⊢
 exact prf_c1fa82
end
section
open Go.RowKit
/-- Rows of guesses, in blocks of which S is true. -/
def RowsIn (S : Nat → Prop) (w : World) (fs : Option Addr) (L : List (List Gs)) : Prop :=
 ∀ i (h : i < L.length), ∃ b off, fs = some ⟨b, off, none⟩ ∧ S b ∧ b < w.heap.size ∧ ∃ rs rc, w.cell? ⟨b, off + i, none⟩ = some (.slice rs L[i].length rc) ∧ L[i].length ≤ rc ∧ rc ≤ maxLen ∧ GsIn S w rs L[i]
/-- A world whose blocks hold nothing where S is not true. -/
theorem bare_world (S : Nat → Prop) (w : World) : ∃ w3 : World, w3.heap.size = w.heap.size ∧ (∀ b, S b → w3.heap[b]? = w.heap[b]?) ∧ ∀ b o, ¬ S b → w3.cell? ⟨b, o, none⟩ = none := by
 classical
 refine ⟨{ w with heap := w.heap.mapIdx fun k x => if S k then x else .cells #[] 0 }, by simp, fun b hb => ?_, fun b o hb => ?_⟩
 ·simp only [Array.getElem?_mapIdx]
  cases w.heap[b]? with
  | none => rfl
  | some x => simp [hb]
 ·simp only [World.cell?, Array.getElem?_mapIdx]
  cases w.heap[b]? with
  | none => rfl
  | some x => simp [hb]
section
variable {S : Nat → Prop} {w : World} {x : Pic} {vs fs : Option Addr}
theorem PicOn.in (h : PicOn S w x vs fs) : GsIn S w vs x.vars ∧ RowsIn S w fs x.flds := by
 obtain ⟨w3, hz, hs, hn⟩ := bare_world S w
 have h3 := h w3 (fun b hb _ => hs b hb) (by omega)
 have hS : ∀ {b o : Nat} {v : Value}, w3.cell? ⟨b, o, none⟩ = some v → S b ∧ b < w.heap.size ∧ w.cell? ⟨b, o, none⟩ = some v := by
  intro b o v hc
  have hb : S b := Classical.byContradiction fun hb => by rw [hn b o hb] at hc; cases hc
  have hb2 := World.block_lt_of_cell? w3 _ hc
  refine ⟨hb, by simpa [hz] using hb2, ?_⟩
  rw [← World.cell?_of_block (a := ⟨b, o, none⟩) (hs b hb)]
  exact hc
 have hI : ∀ {ss : Option Addr} {l : List Int}, IntsAt w3 ss l → IntsIn S w ss l := by
  intro ss l h
  rcases h with h | ⟨b, off, e, hb, hc⟩
  ·exact .inl h
  ·cases l with
   | nil => exact .inl rfl
   | cons a r =>
    have h0 := hS (hc 0 (by simp))
    exact .inr ⟨b, off, e, h0.1, h0.2.1, fun k hk => (hS (hc k hk)).2.2⟩
 have hG : ∀ {ls : Option Addr} {L : List Gs}, GsAt w3 ls L → GsIn S w ls L := by
  intro ls L h i hi
  obtain ⟨b, off, e, ss, cap, ⟨⟨c0, c1, c2, c3, c4, c5, c6⟩, _⟩, h2, h4, h5⟩ := h i hi
  have a0 := hS c0
  exact ⟨b, off, e, a0.1, ss, cap, ⟨⟨a0.2.2, (hS c1).2.2, (hS c2).2.2, (hS c3).2.2, (hS c4).2.2, (hS c5).2.2, (hS c6).2.2⟩, a0.2.1⟩, hI h2, h4, h5⟩
 refine ⟨hG h3.1, fun i hi => ?_⟩
 obtain ⟨b, off, e, _, rs, rc, h1, h2, h4, h5⟩ := h3.2 i hi
 have a0 := hS h1
 exact ⟨b, off, e, a0.1, a0.2.1, rs, rc, a0.2.2, h2, h4, hG h5⟩
end
/-- Edges that are answered: their pictures lie where S is true. -/
def EdsOn (S : Nat → Prop) (w : World) (es : Option Addr) (L : List Edg) : Prop :=
 ∀ i (h : i < L.length), ∃ b off, es = some ⟨b, off, none⟩ ∧ S b ∧ b < w.heap.size ∧ ∃ vs vc fs fc, (w.cell? ⟨b, off + i * 4, none⟩ = some (.int .i64 L[i].tgt) ∧ w.cell? ⟨b, off + i * 4 + 1, none⟩ = some (.bool L[i].pic.none) ∧ w.cell? ⟨b, off + i * 4 + 2, none⟩ = some (.slice vs L[i].pic.vars.length vc) ∧ w.cell? ⟨b, off + i * 4 + 3, none⟩ = some (.slice fs L[i].pic.flds.length fc)) ∧ PicOn S w L[i].pic vs fs ∧ (L[i].pic.vars.length ≤ vc ∧ vc ≤ maxLen) ∧ (L[i].pic.flds.length ≤ fc ∧ fc ≤ maxLen)
section
variable {S S' : Nat → Prop} {w w' : World} {es : Option Addr} {L : List Edg}
theorem EdsOn.nil : EdsOn S w es [] := fun i h => absurd h (by simp)
theorem EdsOn.same (h : EdsOn S w es L) (hs : ∀ b, S b → b < w.heap.size → w'.heap[b]? = w.heap[b]?) (hz : w.heap.size ≤ w'.heap.size) : EdsOn S w' es L := by
 intro i hi
 obtain ⟨b, off, e, hS, hb, vs, vc, fs, fc, ⟨c0, c1, c2, c3⟩, hp, hv, hf⟩ := h i hi
 have hc : ∀ j, w'.cell? ⟨b, j, none⟩ = w.cell? ⟨b, j, none⟩ := fun j => World.cell?_of_block (a := ⟨b, j, none⟩) (hs b hS hb)
 exact ⟨b, off, e, hS, Nat.lt_of_lt_of_le hb hz, vs, vc, fs, fc, ⟨(hc _).trans c0, (hc _).trans c1, (hc _).trans c2, (hc _).trans c3⟩, (hp.same hs hz).mono fun b hb _ => hb.1, hv, hf⟩
theorem EdsOn.mono (h : EdsOn S w es L) (hs : ∀ b, S b → b < w.heap.size → S' b) : EdsOn S' w es L := by
 intro i hi
 obtain ⟨b, off, e, hS, hb, vs, vc, fs, fc, hc, hp, hv, hf⟩ := h i hi
 exact ⟨b, off, e, hs b hS hb, hb, vs, vc, fs, fc, hc, hp.mono hs, hv, hf⟩
theorem EdsOn.call (h : EdsOn S w es L) (hb : Below w.heap.size w w') : EdsOn S w' es L := h.same (fun b _ hlt => hb.block b hlt) hb.size
end
/-- What the program's row of edges is. -/
theorem ERow.eds {n sb : Nat} {w : World} {es : Option Addr} {ec : Nat} {L : List Ed} (h : ERow n sb w (.slice es L.length ec) L) : EdsOn (fun b => n ≤ b) w es (L.map edG) := by
 intro i hi
 have hil : i < L.length := by simpa using hi
 have ei : (L.map edG)[i] = edG L[i] := by simp
 rw [ei]
 rcases h.own.2 with ⟨e, h0⟩ | ⟨g, cap, cur, e, hb, hg, k1, k2, k3, k4⟩
 ·omega
 ·simp only [Value.slice.injEq] at e
  obtain ⟨e1, -, -⟩ := e
  subst e1
  obtain ⟨p1, p2, p3⟩ := h.pics _ (List.getElem_mem hil)
  have hc : ∀ j, j < 4 → w.cell? ⟨g, i * 4 + j, none⟩ = (edCells L[i])[j]? := fun j hj => by
   rw [← edCells_get L i hil j hj]
   exact World.ownsRow.cellAt h.own _ (by omega)
  refine ⟨g, 0, rfl, hb, (Array.getElem?_eq_some_iff.1 hg).1, L[i].vs, L[i].vc, L[i].fs, L[i].fc, ?_, p1.mono fun b hb _ => hb.1, p2, p3⟩
  simp only [Nat.zero_add]
  exact ⟨hc 0 (by omega), hc 1 (by omega), hc 2 (by omega), hc 3 (by omega)⟩
/-- What a step answers. -/
def StpAns (S : Nat → Prop) (w' : World) (e : Ending) (r : List Edg × Bool × Bool) : Prop := ∃ es ec, e = .returned (.tuple #[.slice es r.1.length ec, .bool r.2.1, .bool r.2.2]) ∧ EdsOn S w' es r.1
end
section
set_option maxHeartbeats 4000000
set_option maxRecDepth 20000
open Go.RowKit
attribute [local go_sem ↓] Go.wp_at_zero Go.wp_at_succ

theorem sameGuesses_any (l : List Gs) (s1 : Option Addr) (c1 : Nat) (s2 : Option Addr) (c2 : Nat) (w : World) (hl : l.length ≤ maxLen) (h1 : GsAt w s1 l) (h2 : GsAt w s2 l) :
  Calls Tryz.prog 67 #[.slice s1 l.length c1, .slice s2 l.length c2] w fun e w' => e = .returned (.bool true) ∧ Below w.heap.size w w' := by
 have hm : maxLen ≤ 9223372036854775807 := by decide
 go_enter Tryz.func67, Tryz.ntmps67
 go_wp2
 go_loopw [5] (fun i wr => ∃ k : Nat, k ≤ l.length ∧ i = .int .i64 k ∧ Below w.heap.size w wr) (fun i _ => l.length - (intOf i).toNat)
 case atStart => exact ⟨0, Nat.zero_le _, rfl, Below.refl _ _⟩
 case round =>
  obtain ⟨k, hk, rfl, hbr⟩ := hrel
  by_cases hlt : k < l.length
  ·have n0 : (0 : Int) ≤ (k : Int) := by omega
   have n1 : (k : Int) < (l.length : Int) := by omega
   obtain ⟨b1, o1, rfl, ss1, g1, G1, I1, k1, m1⟩ := h1.below hbr (Nat.le_refl _) k hlt
   obtain ⟨b2, o2, rfl, ss2, g2, G2, I2, k2, m2⟩ := h2.below hbr (Nat.le_refl _) k hlt
   have hgl : l[k].s.length ≤ maxLen := Nat.le_trans k1 m1
   have HKZ := hideH (fun wx (hx : Below wr.heap.size wr wx) => And.intro (G1.call hx).1 (G2.call hx).1)
   have HD : Below wr.heap.size wr wr.drew := (Below.refl _ _).drew
   go_wp2
   refine wp_region_z (S := (fun wx => (wx.cell? ⟨b1, o1 + k * 7, none⟩ = some (.bool l[k].n) ∧ wx.cell? ⟨b1, o1 + k * 7 + 1, none⟩ = some (.bool l[k].sp.n) ∧ wx.cell? ⟨b1, o1 + k * 7 + 2, none⟩ = some (.int .i64 l[k].sp.lo) ∧ wx.cell? ⟨b1, o1 + k * 7 + 3, none⟩ = some (.int .i64 l[k].sp.hi) ∧ wx.cell? ⟨b1, o1 + k * 7 + 4, none⟩ = some (.bool l[k].t) ∧ wx.cell? ⟨b1, o1 + k * 7 + 5, none⟩ = some (.bool l[k].f) ∧ wx.cell? ⟨b1, o1 + k * 7 + 6, none⟩ = some (.slice ss1 l[k].s.length g1)) ∧ (wx.cell? ⟨b2, o2 + k * 7, none⟩ = some (.bool l[k].n) ∧ wx.cell? ⟨b2, o2 + k * 7 + 1, none⟩ = some (.bool l[k].sp.n) ∧ wx.cell? ⟨b2, o2 + k * 7 + 2, none⟩ = some (.int .i64 l[k].sp.lo) ∧ wx.cell? ⟨b2, o2 + k * 7 + 3, none⟩ = some (.int .i64 l[k].sp.hi) ∧ wx.cell? ⟨b2, o2 + k * 7 + 4, none⟩ = some (.bool l[k].t) ∧ wx.cell? ⟨b2, o2 + k * 7 + 5, none⟩ = some (.bool l[k].f) ∧ wx.cell? ⟨b2, o2 + k * 7 + 6, none⟩ = some (.slice ss2 l[k].s.length g2)))) [] (by kernel_rfl) (HKZ.out _ HD) (fun hHeld => ?_)
   refine tZ 0 ?_ ?_;refine sm ?_
   refine tZ 1 ?_ ?_;refine sm ?_
   refine tZ 2 ?_ ?_;refine sm ?_
   refine tZ 3 ?_ ?_;refine sm ?_
   refine tZ 4 ?_ ?_;refine sm ?_
   refine tZ 5 ?_ ?_;refine sm ?_
   refine tZ 6 ?_ ?_;refine sm ?_
   refine tZ 7 ?_ ?_;refine sm ?_
   refine wpAnyZ_one (i := 8) rfl (by kernel_rfl) (fun K hK => ?_)
   go_simp
   go_at_call 99
   refine (sameGuess_any l[k] ss1 g1 ss2 g2 _ (I1.call HD) (I2.call HD) hgl).mono ?_
   rintro e w5 ⟨rfl, hb5⟩
   have HB5 : Below wr.heap.size wr w5 := HD.trans (hb5.mono HD.size)
   go_wp2_with fail
   refine hK.out _ _ (HKZ.out _ HB5) (fun hHeld => ?_)
   clear hK K
   refine sm ?_
   refine tZ 9 ?_ ?_;refine sm ?_
   refine wpAnyZ_done (by kernel_rfl) ?_ _
   go_wp2
   go_roundw
   case rel => exact ⟨k + 1, by omega, by go_num, hbr.trans (HB5.mono hbr.size)⟩
   case measure => simp [intOf]; omega
  ·have n1 : ¬ (k : Int) < (l.length : Int) := by omega
   go_wp2
   go_ret
   exact ⟨rfl, hbr⟩

theorem samePicture_any (x : Pic) (vs1 : Option Addr) (vc1 : Nat) (fs1 : Option Addr) (fc1 : Nat) (vs2 : Option Addr) (vc2 : Nat) (fs2 : Option Addr) (fc2 : Nat) (w : World) (hl : LenPic x) (h1 : PicAt w x vs1 fs1) (h2 : PicAt w x vs2 fs2) :
  Calls Tryz.prog 31 #[xv x vs1 vc1 fs1 fc1, xv x vs2 vc2 fs2 fc2] w fun e w' => e = .returned (.bool true) ∧ Below w.heap.size w w' := by
 obtain ⟨hl1, hl2⟩ := hl
 have hm : maxLen ≤ 9223372036854775807 := by decide
 have hb0 : Below w.heap.size w ((w.alloc (.cells #[.bool x.none, .slice vs1 x.vars.length vc1, .slice fs1 x.flds.length fc1] 28)).alloc (.cells #[.bool x.none, .slice vs2 x.vars.length vc2, .slice fs2 x.flds.length fc2] 28)) := by go_grown
 have A0 := (XAt.new w x vs1 vc1 fs1 fc1).call (w' := ((w.alloc (.cells #[.bool x.none, .slice vs1 x.vars.length vc1, .slice fs1 x.flds.length fc1] 28)).alloc (.cells #[.bool x.none, .slice vs2 x.vars.length vc2, .slice fs2 x.flds.length fc2] 28))) (by go_grown)
 have B0 := XAt.new (w.alloc (.cells #[.bool x.none, .slice vs1 x.vars.length vc1, .slice fs1 x.flds.length fc1] 28)) x vs2 vc2 fs2 fc2
 rw [World.size_alloc] at B0
 have hP1 := h1.below hb0 (Nat.le_refl _)
 have hP2 := h2.below hb0 (Nat.le_refl _)
 have HS := hideH (sameGuesses_any x.vars vs1 vc1 vs2 vc2 ((w.alloc (.cells #[.bool x.none, .slice vs1 x.vars.length vc1, .slice fs1 x.flds.length fc1] 28)).alloc (.cells #[.bool x.none, .slice vs2 x.vars.length vc2, .slice fs2 x.flds.length fc2] 28)) hl1 hP1.1 hP2.1)
 clear h1 h2
 go_enter Tryz.func31, Tryz.ntmps31
 go_wp2_with (go_at_call 67; fail)
 refine HS.out.mono ?_
 rintro e w1 ⟨rfl, hb1⟩
 clear HS
 have R1 := hP1.2.below hb1 (Nat.le_refl _)
 have R2 := hP2.2.below hb1 (Nat.le_refl _)
 have A1 := A0.call hb1
 have B1 := B0.call hb1
 have H1 := hb0.trans (hb1.mono hb0.size)
 clear A0 B0 hP1 hP2 hb0 hb1
 obtain ⟨⟨a0, a1, a2⟩, az, -⟩ := id A1
 obtain ⟨⟨b0, b1, b2⟩, bz, -⟩ := id B1
 go_wp2
 clear a0 a1 a2 az b0 b1 b2 bz
 go_loopw [5] (fun i wr => ∃ k : Nat, k ≤ x.flds.length ∧ i = .int .i64 k ∧ Below w1.heap.size w1 wr) (fun i _ => x.flds.length - (intOf i).toNat)
 case atStart => exact ⟨0, Nat.zero_le _, rfl, Below.refl _ _⟩
 case round =>
  obtain ⟨k, hk, rfl, hbr⟩ := hrel
  obtain ⟨⟨a0, a1, a2⟩, az, -⟩ := id (A1.call hbr)
  obtain ⟨⟨b0, b1, b2⟩, bz, -⟩ := id (B1.call hbr)
  by_cases hlt : k < x.flds.length
  ·have n0 : (0 : Int) ≤ (k : Int) := by omega
   have n1 : (k : Int) < (x.flds.length : Int) := by omega
   obtain ⟨p1, q1, rfl, zp1, r1, rc1, C1, k1, m1, J1⟩ := R1.below hbr (Nat.le_refl _) k hlt
   obtain ⟨p2, q2, rfl, zp2, r2, rc2, C2, k2, m2, J2⟩ := R2.below hbr (Nat.le_refl _) k hlt
   have hgl : x.flds[k].length ≤ maxLen := Nat.le_trans k1 m1
   have HKZ : Hid (∀ wx, Below wr.heap.size wr wx → (wx.cell? ⟨w.heap.size, 2, none⟩ = some (.slice (some ⟨p1, q1, none⟩) x.flds.length fc1) ∧ wx.cell? ⟨p1, q1 + k, none⟩ = some (.slice r1 x.flds[k].length rc1)) ∧ (wx.cell? ⟨w.heap.size + 1, 2, none⟩ = some (.slice (some ⟨p2, q2, none⟩) x.flds.length fc2) ∧ wx.cell? ⟨p2, q2 + k, none⟩ = some (.slice r2 x.flds[k].length rc2))) := fun wx hx => ⟨⟨by rw [hx.cell (by simp only; exact az)]; exact a2, by rw [hx.cell (by simp only; exact zp1)]; exact C1⟩, by rw [hx.cell (by simp only; exact bz)]; exact b2, by rw [hx.cell (by simp only; exact zp2)]; exact C2⟩
   have HD : Below wr.heap.size wr wr.drew := (Below.refl _ _).drew
   go_wp2
   refine wp_region_z (S := (fun wx => (wx.cell? ⟨w.heap.size, 2, none⟩ = some (.slice (some ⟨p1, q1, none⟩) x.flds.length fc1) ∧ wx.cell? ⟨p1, q1 + k, none⟩ = some (.slice r1 x.flds[k].length rc1)) ∧ (wx.cell? ⟨w.heap.size + 1, 2, none⟩ = some (.slice (some ⟨p2, q2, none⟩) x.flds.length fc2) ∧ wx.cell? ⟨p2, q2 + k, none⟩ = some (.slice r2 x.flds[k].length rc2)))) [] (by kernel_rfl) (HKZ.out _ HD) (fun hHeld => ?_)
   refine tZ 0 ?_ ?_;refine sm ?_
   refine tZ 1 ?_ ?_;refine sm ?_
   refine tZ 2 ?_ ?_;refine sm ?_
   refine tZ 3 ?_ ?_;refine sm ?_
   refine tZ 4 ?_ ?_;refine sm ?_
   refine tZ 5 ?_ ?_;refine sm ?_
   refine tZ 6 ?_ ?_;refine sm ?_
   refine tZ 7 ?_ ?_;refine sm ?_
   refine tZ 8 ?_ ?_;refine sm ?_
   refine tZ 9 ?_ ?_;refine sm ?_
   refine wpAnyZ_one (i := 10) rfl (by kernel_rfl) (fun K hK => ?_)
   go_simp
   go_at_call 67
   refine (sameGuesses_any x.flds[k] r1 rc1 r2 rc2 _ hgl (J1.call HD) (J2.call HD)).mono ?_
   rintro e w5 ⟨rfl, hb5⟩
   have HB5 : Below wr.heap.size wr w5 := HD.trans (hb5.mono HD.size)
   go_wp2_with fail
   refine hK.out _ _ (HKZ.out _ HB5) (fun hHeld => ?_)
   clear hK K
   refine sm ?_
   refine tZ 11 ?_ ?_;refine sm ?_
   refine wpAnyZ_done (by kernel_rfl) ?_ _
   go_wp2
   go_roundw
   case rel => exact ⟨k + 1, by omega, by go_num, hbr.trans (HB5.mono hbr.size)⟩
   case measure => simp [intOf]; omega
  ·have n1 : ¬ (k : Int) < (x.flds.length : Int) := by omega
   go_wp2
   go_ret
   exact ⟨rfl, H1.trans (hbr.mono H1.size)⟩
end
section
set_option maxHeartbeats 4000000
set_option maxRecDepth 10000
open Go.RowKit
attribute [local go_sem ↓] Go.wp_at_zero Go.wp_at_succ

theorem sameEdges_any {S1 S2 : Nat → Prop} (L : List Edg) (s1 : Option Addr) (c1 : Nat) (s2 : Option Addr) (c2 : Nat) (w : World) (hl : L.length ≤ maxLen) (h1 : EdsOn S1 w s1 L) (h2 : EdsOn S2 w s2 L) :
  Calls Tryz.prog 9 #[.slice s1 L.length c1, .slice s2 L.length c2] w fun e w' => e = .returned (.bool true) ∧ Below w.heap.size w w' := by
 have hm : maxLen ≤ 9223372036854775807 := by decide
 go_enter Tryz.func9, Tryz.ntmps9
 go_wp2
 go_loopw [5] (fun i wr => ∃ k : Nat, k ≤ L.length ∧ i = .int .i64 k ∧ Below w.heap.size w wr) (fun i _ => L.length - (intOf i).toNat)
 case atStart => exact ⟨0, Nat.zero_le _, rfl, Below.refl _ _⟩
 case round =>
  obtain ⟨k, hk, rfl, hbr⟩ := hrel
  by_cases hlt : k < L.length
  ·have n0 : (0 : Int) ≤ (k : Int) := by omega
   have n1 : (k : Int) < (L.length : Int) := by omega
   obtain ⟨b1, o1, rfl, -, zb1, v1, vc1, f1, fc1, ⟨a0, a1, a2, a3⟩, P1, q1, q2⟩ := h1.call hbr k hlt
   obtain ⟨b2, o2, rfl, -, zb2, v2, vc2, f2, fc2, ⟨e0, e1, e2, e3⟩, P2, q3, q4⟩ := h2.call hbr k hlt
   have hlp : LenPic L[k].pic := ⟨Nat.le_trans q1.1 q1.2, Nat.le_trans q2.1 q2.2⟩
   have HKZ : Hid (∀ wx, Below wr.heap.size wr wx → (wx.cell? ⟨b1, o1 + k * 4, none⟩ = some (.int .i64 L[k].tgt) ∧ wx.cell? ⟨b1, o1 + k * 4 + 1, none⟩ = some (.bool L[k].pic.none) ∧ wx.cell? ⟨b1, o1 + k * 4 + 2, none⟩ = some (.slice v1 L[k].pic.vars.length vc1) ∧ wx.cell? ⟨b1, o1 + k * 4 + 3, none⟩ = some (.slice f1 L[k].pic.flds.length fc1)) ∧ (wx.cell? ⟨b2, o2 + k * 4, none⟩ = some (.int .i64 L[k].tgt) ∧ wx.cell? ⟨b2, o2 + k * 4 + 1, none⟩ = some (.bool L[k].pic.none) ∧ wx.cell? ⟨b2, o2 + k * 4 + 2, none⟩ = some (.slice v2 L[k].pic.vars.length vc2) ∧ wx.cell? ⟨b2, o2 + k * 4 + 3, none⟩ = some (.slice f2 L[k].pic.flds.length fc2))) := fun wx hx => ⟨⟨by rw [hx.cell (by simp only; exact zb1)]; exact a0, by rw [hx.cell (by simp only; exact zb1)]; exact a1, by rw [hx.cell (by simp only; exact zb1)]; exact a2, by rw [hx.cell (by simp only; exact zb1)]; exact a3⟩, by rw [hx.cell (by simp only; exact zb2)]; exact e0, by rw [hx.cell (by simp only; exact zb2)]; exact e1, by rw [hx.cell (by simp only; exact zb2)]; exact e2, by rw [hx.cell (by simp only; exact zb2)]; exact e3⟩
   have HD : Below wr.heap.size wr wr.drew := (Below.refl _ _).drew
   clear a0 a1 a2 a3 e0 e1 e2 e3
   go_wp2
   refine wp_region_z (S := (fun wx => (wx.cell? ⟨b1, o1 + k * 4, none⟩ = some (.int .i64 L[k].tgt) ∧ wx.cell? ⟨b1, o1 + k * 4 + 1, none⟩ = some (.bool L[k].pic.none) ∧ wx.cell? ⟨b1, o1 + k * 4 + 2, none⟩ = some (.slice v1 L[k].pic.vars.length vc1) ∧ wx.cell? ⟨b1, o1 + k * 4 + 3, none⟩ = some (.slice f1 L[k].pic.flds.length fc1)) ∧ (wx.cell? ⟨b2, o2 + k * 4, none⟩ = some (.int .i64 L[k].tgt) ∧ wx.cell? ⟨b2, o2 + k * 4 + 1, none⟩ = some (.bool L[k].pic.none) ∧ wx.cell? ⟨b2, o2 + k * 4 + 2, none⟩ = some (.slice v2 L[k].pic.vars.length vc2) ∧ wx.cell? ⟨b2, o2 + k * 4 + 3, none⟩ = some (.slice f2 L[k].pic.flds.length fc2)))) [] (by kernel_rfl) (HKZ.out _ HD) (fun hHeld => ?_)
   refine tZ 0 ?_ ?_;refine sm ?_
   refine tZ 1 ?_ ?_;refine sm ?_
   refine tZ 2 ?_ ?_;refine sm ?_
   refine tZ 3 ?_ ?_;refine sm ?_
   refine tZ 4 ?_ ?_;refine sm ?_
   refine tZ 5 ?_ ?_;refine sm ?_
   refine tZ 6 ?_ ?_;refine sm ?_
   refine tZ 7 ?_ ?_;refine sm ?_
   refine tZ 8 ?_ ?_;refine sm ?_
   refine tZ 9 ?_ ?_;refine sm ?_
   refine wpAnyZ_take (i := 10) (v := .bool false) rfl (by kernel_rfl) (by kernel_rfl) (by kernel_rfl) (fun _ _ _ h => h) (Or.inl ⟨?_, ?_⟩) (by assumption) ?_
   ·rfl
   ·(intro w hSw; (try dsimp only at hSw); go_simp)
   refine sm ?_
   refine tZ 11 ?_ ?_;refine sm ?_
   refine tZ 12 ?_ ?_;refine sm ?_
   refine tZ 13 ?_ ?_;refine sm ?_
   refine tZ 14 ?_ ?_;refine sm ?_
   refine tZ 15 ?_ ?_;refine sm ?_
   refine tZ 16 ?_ ?_;refine sm ?_
   refine tZ 17 ?_ ?_;refine sm ?_
   refine tZ 18 ?_ ?_;refine sm ?_
   refine tZ 19 ?_ ?_;refine sm ?_
   refine tZ 20 ?_ ?_;refine sm ?_
   refine tZ 21 ?_ ?_;refine sm ?_
   refine wpAnyZ_one (i := 22) rfl (by kernel_rfl) (fun K hK => ?_)
   go_simp
   go_at_call 31
   refine (samePicture_any L[k].pic v1 vc1 f1 fc1 v2 vc2 f2 fc2 _ hlp (P1.at.call HD) (P2.at.call HD)).mono ?_
   rintro e w5 ⟨rfl, hb5⟩
   have HB5 : Below wr.heap.size wr w5 := HD.trans (hb5.mono HD.size)
   go_wp2_with fail
   refine hK.out _ _ (HKZ.out _ HB5) (fun hHeld => ?_)
   clear hK K
   refine sm ?_
   refine tZ 23 ?_ ?_;refine sm ?_
   refine tZ 24 ?_ ?_;refine sm ?_
   refine wpAnyZ_done (by kernel_rfl) ?_ _
   go_wp2
   go_roundw
   case rel => exact ⟨k + 1, by omega, by go_num, hbr.trans (HB5.mono hbr.size)⟩
   case measure => simp [intOf]; omega
  ·have n1 : ¬ (k : Int) < (L.length : Int) := by omega
   go_wp2
   go_ret
   exact ⟨rfl, hbr⟩
end
end Go.Proofs.YtmapdpcfanecdabGreat
