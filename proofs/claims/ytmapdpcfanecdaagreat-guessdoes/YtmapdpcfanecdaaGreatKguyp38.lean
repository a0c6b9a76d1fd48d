/- Walks over package guess: may two be the same value; may they not? -/
import Derived.Test.YtmapdpcfanecdaaGreatKguyp37
import Derived.Test.YtmapdpcfanecdaaGreatKguyp20
namespace Go.Proofs.YtmapdpcfanecdaaGreat
set_option linter.unusedVariables false
set_option linter.unusedSimpArgs false
open Go.RowKit

theorem three_ways2 (a b : Bool) : (a = true ∧ b = true) ∨ a = false ∨ (a = true ∧ b = false) := by cases a <;> cases b <;> simp

set_option maxHeartbeats 2000000 in
set_option maxRecDepth 10000 in
theorem same_none (g : Gs) (ss : Option Addr) (gc : Nat) (h : Gs) (st : Option Addr) (hc : Nat) (w : World) (hn : [g, h].any nothingGs = true) :
    Calls Tryz.prog 58 #[gv g ss gc, gv h st hc] w fun e w' => e = .returned (.tuple #[.bool false, .bool false]) ∧ Below w.heap.size w w' := by
  have B0 : Below w.heap.size w ((w.alloc (.cells #[.bool g.n, .bool g.sp.n, .int .i64 g.sp.lo, .int .i64 g.sp.hi, .bool g.t, .bool g.f, .slice ss g.s.length gc] 29)).alloc (.cells #[.bool h.n, .bool h.sp.n, .int .i64 h.sp.lo, .int .i64 h.sp.hi, .bool h.t, .bool h.f, .slice st h.s.length hc] 29)) := by go_grown
  have G0 := (GuAt.new w g ss gc).alloc (.cells #[.bool h.n, .bool h.sp.n, .int .i64 h.sp.lo, .int .i64 h.sp.hi, .bool h.t, .bool h.f, .slice st h.s.length hc] 29)
  have H0 := GuAt.new (w.alloc (.cells #[.bool g.n, .bool g.sp.n, .int .i64 g.sp.lo, .int .i64 g.sp.hi, .bool g.t, .bool g.f, .slice ss g.s.length gc] 29)) h st hc
  rw [World.size_alloc] at H0
  have L0 := GhAt.new2 ((w.alloc (.cells #[.bool g.n, .bool g.sp.n, .int .i64 g.sp.lo, .int .i64 g.sp.hi, .bool g.t, .bool g.f, .slice ss g.s.length gc] 29)).alloc (.cells #[.bool h.n, .bool h.sp.n, .int .i64 h.sp.lo, .int .i64 h.sp.hi, .bool h.t, .bool h.f, .slice st h.s.length hc] 29)) g ss gc h st hc
  simp only [World.size_alloc] at L0
  have HN := hideH (fun lc wx hL => anyNothing_any (some ⟨w.heap.size + 1 + 1, 0, none⟩) [g, h] lc wx (by simp) hL)
  rw [hn] at HN
  clear hn
  go_enter Tryz.func58, Tryz.ntmps58
  go_wp2_with (go_at_call 102; fail)
  refine (HN.out 2 _ L0).mono ?_
  rintro e w1 ⟨rfl, hb1⟩
  go_wp2
  go_ret2
  exact ⟨rfl, (B0.alloc B0.size _).trans (hb1.mono (by simp; omega))⟩

set_option maxHeartbeats 8000000 in
set_option maxRecDepth 10000 in
theorem same_some (g : Gs) (ss : Option Addr) (gc : Nat) (h : Gs) (st : Option Addr) (hc : Nat) (w : World) (hs : IntsAt w ss g.s) (hgl : g.s.length ≤ 9223372036854775807) (ht : IntsAt w st h.s) (hlt : h.s.length ≤ 9223372036854775807) (hsp : ckSps g.sp h.sp = 0) (hn : [g, h].any nothingGs = false) :
    Calls Tryz.prog 58 #[gv g ss gc, gv h st hc] w fun e w' => e = .returned (.tuple #[.bool ((g.n && h.n) || (!(meetSp g.sp h.sp).n || ((g.t && h.t) || ((g.f && h.f) || g.s.any fun x => h.s.contains x)))), .bool (!alikeGs g h)]) ∧ Below w.heap.size w w' := by
  have B0 : Below w.heap.size w ((w.alloc (.cells #[.bool g.n, .bool g.sp.n, .int .i64 g.sp.lo, .int .i64 g.sp.hi, .bool g.t, .bool g.f, .slice ss g.s.length gc] 29)).alloc (.cells #[.bool h.n, .bool h.sp.n, .int .i64 h.sp.lo, .int .i64 h.sp.hi, .bool h.t, .bool h.f, .slice st h.s.length hc] 29)) := by go_grown
  have G0 := (GuAt.new w g ss gc).alloc (.cells #[.bool h.n, .bool h.sp.n, .int .i64 h.sp.lo, .int .i64 h.sp.hi, .bool h.t, .bool h.f, .slice st h.s.length hc] 29)
  have H0 := GuAt.new (w.alloc (.cells #[.bool g.n, .bool g.sp.n, .int .i64 g.sp.lo, .int .i64 g.sp.hi, .bool g.t, .bool g.f, .slice ss g.s.length gc] 29)) h st hc
  rw [World.size_alloc] at H0
  have L0 := GhAt.new2 ((w.alloc (.cells #[.bool g.n, .bool g.sp.n, .int .i64 g.sp.lo, .int .i64 g.sp.hi, .bool g.t, .bool g.f, .slice ss g.s.length gc] 29)).alloc (.cells #[.bool h.n, .bool h.sp.n, .int .i64 h.sp.lo, .int .i64 h.sp.hi, .bool h.t, .bool h.f, .slice st h.s.length hc] 29)) g ss gc h st hc
  simp only [World.size_alloc] at L0
  have HN := hideH (fun lc wx hL => anyNothing_any (some ⟨w.heap.size + 1 + 1, 0, none⟩) [g, h] lc wx (by simp) hL)
  rw [hn] at HN
  have hM := fun w => meetF_any g.sp h.sp w
  rw [hsp, show ∀ r, spIf 0 r = r from fun r => rfl] at hM
  have HM := hideH hM
  clear hn hsp hM
  have HA := hideH (fun w => isAlike_any g ss gc h st hc w)
  have HY : Hid (((g.n && h.n) || (!(meetSp g.sp h.sp).n || ((g.t && h.t) || ((g.f && h.f) || g.s.any fun x => h.s.contains x)))) = ((g.n && h.n) || (!(meetSp g.sp h.sp).n || ((g.t && h.t) || ((g.f && h.f) || g.s.any fun x => h.s.contains x))))) := rfl
  generalize hy : ((g.n && h.n) || (!(meetSp g.sp h.sp).n || ((g.t && h.t) || ((g.f && h.f) || g.s.any fun x => h.s.contains x)))) = yy
  have HY := hideH hy.symm
  clear hy
  generalize meetSp g.sp h.sp = M at HM HY
  generalize alikeGs g h = ak at HA ⊢
  have I0 := hs.below B0 (Nat.le_refl _)
  have J0 := ht.below B0 (Nat.le_refl _)
  clear hs ht
  go_enter Tryz.func58, Tryz.ntmps58
  go_wp2_with (go_at_call 102; fail)
  refine (HN.out 2 _ L0).mono ?_
  rintro e w1 ⟨rfl, hb1⟩
  have G1 := (G0.alloc _).call hb1
  have H1 := (H0.alloc _).call hb1
  have I1 := (I0.alloc _).call hb1
  have J1 := (J0.alloc _).call hb1
  have B1 : Below w.heap.size w w1 := (B0.alloc B0.size _).trans (hb1.mono (by simp; omega))
  clear hb1 G0 H0 I0 J0 B0 L0 HN
  obtain ⟨⟨g0, g1, g2, g3, g4, g5, g6⟩, gz⟩ := id G1
  obtain ⟨⟨k0, k1, k2, k3, k4, k5, k6⟩, kz⟩ := id H1
  simp only [Nat.zero_add] at g0 g1 g2 g3 g4 g5 g6 k0 k1 k2 k3 k4 k5 k6
  go_wp2_with (go_at_call 90; fail)
  refine (HM.out _).mono ?_
  rintro e w2 ⟨rfl, hb2⟩
  have G3 := (G1.call hb2).alloc (.cells #[.bool M.n, .int .i64 M.lo, .int .i64 M.hi] 26)
  have H3 := (H1.call hb2).alloc (.cells #[.bool M.n, .int .i64 M.lo, .int .i64 M.hi] 26)
  have I3 := (I1.call hb2).alloc (.cells #[.bool M.n, .int .i64 M.lo, .int .i64 M.hi] 26)
  have J3 := (J1.call hb2).alloc (.cells #[.bool M.n, .int .i64 M.lo, .int .i64 M.hi] 26)
  have B2 := B1.trans (hb2.mono B1.size)
  have B3 := B2.alloc B2.size (.cells #[.bool M.n, .int .i64 M.lo, .int .i64 M.hi] 26)
  have G2 := G1.call hb2
  have H2 := H1.call hb2
  clear hb2 G1 H1 I1 J1 B1 B2 g0 g1 g2 g3 g4 g5 g6 gz k0 k1 k2 k3 k4 k5 k6 kz HM
  obtain ⟨⟨g0, g1, g2, g3, g4, g5, g6⟩, gz⟩ := id G2
  obtain ⟨⟨k0, k1, k2, k3, k4, k5, k6⟩, kz⟩ := id H2
  simp only [Nat.zero_add] at g0 g1 g2 g3 g4 g5 g6 k0 k1 k2 k3 k4 k5 k6
  obtain ⟨n, sp, t, f, sl⟩ := g
  obtain ⟨n', sp', t', f', h'⟩ := h
  obtain ⟨mn, ml, mh⟩ := M
  simp only at hgl hlt
  have HY := HY
  rcases three_ways2 n n' with ⟨rfl, rfl⟩ | rfl | ⟨rfl, rfl⟩
  · go_wp2_with (go_at_call 104; fail)
    refine (HA.out _).mono ?_
    rintro e w9 ⟨rfl, hb9⟩
    go_wp2
    go_ret2
    exact ⟨ret_t2 (by rw [HY.out]; simp_all) rfl, B3.trans (hb9.mono B3.size)⟩
  · cases mn with
    | false =>
      go_wp2_with (go_at_call 104; fail)
      refine (HA.out _).mono ?_
      rintro e w9 ⟨rfl, hb9⟩
      go_wp2
      go_ret2
      exact ⟨ret_t2 (by rw [HY.out]; simp_all) rfl, B3.trans (hb9.mono B3.size)⟩
    | true =>
      rcases three_ways2 t t' with ⟨rfl, rfl⟩ | rfl | ⟨rfl, rfl⟩
      · go_wp2_with (go_at_call 104; fail)
        refine (HA.out _).mono ?_
        rintro e w9 ⟨rfl, hb9⟩
        go_wp2
        go_ret2
        exact ⟨ret_t2 (by rw [HY.out]; simp_all) rfl, B3.trans (hb9.mono B3.size)⟩
      · rcases three_ways2 f f' with ⟨rfl, rfl⟩ | rfl | ⟨rfl, rfl⟩
        · go_wp2_with (go_at_call 104; fail)
          refine (HA.out _).mono ?_
          rintro e w9 ⟨rfl, hb9⟩
          go_wp2
          go_ret2
          exact ⟨ret_t2 (by rw [HY.out]; simp_all) rfl, B3.trans (hb9.mono B3.size)⟩
        · go_wp2_with (go_at_call 43; fail)
          refine (containsFunc_common (w.heap.size + 1) (fun x => h'.contains x) ss gc sl _ hgl I3 fun x wx hbx => common_any x _ ⟨n', sp', t', f', h'⟩ st hc wx (H3.call hbx) (J3.call hbx) (by simpa using hlt)).mono ?_
          rintro e w4 ⟨rfl, hb4⟩
          have G4 := G3.call hb4
          have H4 := H3.call hb4
          have B4 := B3.trans (hb4.mono B3.size)
          clear hb4 G3 H3 B3 I3 J3 G2 H2 g0 g1 g2 g3 g4 g5 g6 gz k0 k1 k2 k3 k4 k5 k6 kz
          obtain ⟨⟨g0, g1, g2, g3, g4, g5, g6⟩, gz⟩ := id G4
          obtain ⟨⟨k0, k1, k2, k3, k4, k5, k6⟩, kz⟩ := id H4
          simp only [Nat.zero_add] at g0 g1 g2 g3 g4 g5 g6 k0 k1 k2 k3 k4 k5 k6
          generalize hA' : (sl.any fun x => h'.contains x) = al at *
          have HAL := hideH hA'
          clear hA'
          go_wp2_with (go_at_call 104; fail)
          refine (HA.out _).mono ?_
          rintro e w9 ⟨rfl, hb9⟩
          go_wp2
          go_ret2
          exact ⟨ret_t2 (by rw [HY.out]; simp_all) rfl, B4.trans (hb9.mono B4.size)⟩
        · go_wp2_with (go_at_call 43; fail)
          refine (containsFunc_common (w.heap.size + 1) (fun x => h'.contains x) ss gc sl _ hgl I3 fun x wx hbx => common_any x _ ⟨n', sp', t', false, h'⟩ st hc wx (H3.call hbx) (J3.call hbx) (by simpa using hlt)).mono ?_
          rintro e w4 ⟨rfl, hb4⟩
          have G4 := G3.call hb4
          have H4 := H3.call hb4
          have B4 := B3.trans (hb4.mono B3.size)
          clear hb4 G3 H3 B3 I3 J3 G2 H2 g0 g1 g2 g3 g4 g5 g6 gz k0 k1 k2 k3 k4 k5 k6 kz
          obtain ⟨⟨g0, g1, g2, g3, g4, g5, g6⟩, gz⟩ := id G4
          obtain ⟨⟨k0, k1, k2, k3, k4, k5, k6⟩, kz⟩ := id H4
          simp only [Nat.zero_add] at g0 g1 g2 g3 g4 g5 g6 k0 k1 k2 k3 k4 k5 k6
          generalize hA' : (sl.any fun x => h'.contains x) = al at *
          have HAL := hideH hA'
          clear hA'
          go_wp2_with (go_at_call 104; fail)
          refine (HA.out _).mono ?_
          rintro e w9 ⟨rfl, hb9⟩
          go_wp2
          go_ret2
          exact ⟨ret_t2 (by rw [HY.out]; simp_all) rfl, B4.trans (hb9.mono B4.size)⟩
      · rcases three_ways2 f f' with ⟨rfl, rfl⟩ | rfl | ⟨rfl, rfl⟩
        · go_wp2_with (go_at_call 104; fail)
          refine (HA.out _).mono ?_
          rintro e w9 ⟨rfl, hb9⟩
          go_wp2
          go_ret2
          exact ⟨ret_t2 (by rw [HY.out]; simp_all) rfl, B3.trans (hb9.mono B3.size)⟩
        · go_wp2_with (go_at_call 43; fail)
          refine (containsFunc_common (w.heap.size + 1) (fun x => h'.contains x) ss gc sl _ hgl I3 fun x wx hbx => common_any x _ ⟨n', sp', false, f', h'⟩ st hc wx (H3.call hbx) (J3.call hbx) (by simpa using hlt)).mono ?_
          rintro e w4 ⟨rfl, hb4⟩
          have G4 := G3.call hb4
          have H4 := H3.call hb4
          have B4 := B3.trans (hb4.mono B3.size)
          clear hb4 G3 H3 B3 I3 J3 G2 H2 g0 g1 g2 g3 g4 g5 g6 gz k0 k1 k2 k3 k4 k5 k6 kz
          obtain ⟨⟨g0, g1, g2, g3, g4, g5, g6⟩, gz⟩ := id G4
          obtain ⟨⟨k0, k1, k2, k3, k4, k5, k6⟩, kz⟩ := id H4
          simp only [Nat.zero_add] at g0 g1 g2 g3 g4 g5 g6 k0 k1 k2 k3 k4 k5 k6
          generalize hA' : (sl.any fun x => h'.contains x) = al at *
          have HAL := hideH hA'
          clear hA'
          go_wp2_with (go_at_call 104; fail)
          refine (HA.out _).mono ?_
          rintro e w9 ⟨rfl, hb9⟩
          go_wp2
          go_ret2
          exact ⟨ret_t2 (by rw [HY.out]; simp_all) rfl, B4.trans (hb9.mono B4.size)⟩
        · go_wp2_with (go_at_call 43; fail)
          refine (containsFunc_common (w.heap.size + 1) (fun x => h'.contains x) ss gc sl _ hgl I3 fun x wx hbx => common_any x _ ⟨n', sp', false, false, h'⟩ st hc wx (H3.call hbx) (J3.call hbx) (by simpa using hlt)).mono ?_
          rintro e w4 ⟨rfl, hb4⟩
          have G4 := G3.call hb4
          have H4 := H3.call hb4
          have B4 := B3.trans (hb4.mono B3.size)
          clear hb4 G3 H3 B3 I3 J3 G2 H2 g0 g1 g2 g3 g4 g5 g6 gz k0 k1 k2 k3 k4 k5 k6 kz
          obtain ⟨⟨g0, g1, g2, g3, g4, g5, g6⟩, gz⟩ := id G4
          obtain ⟨⟨k0, k1, k2, k3, k4, k5, k6⟩, kz⟩ := id H4
          simp only [Nat.zero_add] at g0 g1 g2 g3 g4 g5 g6 k0 k1 k2 k3 k4 k5 k6
          generalize hA' : (sl.any fun x => h'.contains x) = al at *
          have HAL := hideH hA'
          clear hA'
          go_wp2_with (go_at_call 104; fail)
          refine (HA.out _).mono ?_
          rintro e w9 ⟨rfl, hb9⟩
          go_wp2
          go_ret2
          exact ⟨ret_t2 (by rw [HY.out]; simp_all) rfl, B4.trans (hb9.mono B4.size)⟩
  · cases mn with
    | false =>
      go_wp2_with (go_at_call 104; fail)
      refine (HA.out _).mono ?_
      rintro e w9 ⟨rfl, hb9⟩
      go_wp2
      go_ret2
      exact ⟨ret_t2 (by rw [HY.out]; simp_all) rfl, B3.trans (hb9.mono B3.size)⟩
    | true =>
      rcases three_ways2 t t' with ⟨rfl, rfl⟩ | rfl | ⟨rfl, rfl⟩
      · go_wp2_with (go_at_call 104; fail)
        refine (HA.out _).mono ?_
        rintro e w9 ⟨rfl, hb9⟩
        go_wp2
        go_ret2
        exact ⟨ret_t2 (by rw [HY.out]; simp_all) rfl, B3.trans (hb9.mono B3.size)⟩
      · rcases three_ways2 f f' with ⟨rfl, rfl⟩ | rfl | ⟨rfl, rfl⟩
        · go_wp2_with (go_at_call 104; fail)
          refine (HA.out _).mono ?_
          rintro e w9 ⟨rfl, hb9⟩
          go_wp2
          go_ret2
          exact ⟨ret_t2 (by rw [HY.out]; simp_all) rfl, B3.trans (hb9.mono B3.size)⟩
        · go_wp2_with (go_at_call 43; fail)
          refine (containsFunc_common (w.heap.size + 1) (fun x => h'.contains x) ss gc sl _ hgl I3 fun x wx hbx => common_any x _ ⟨false, sp', t', f', h'⟩ st hc wx (H3.call hbx) (J3.call hbx) (by simpa using hlt)).mono ?_
          rintro e w4 ⟨rfl, hb4⟩
          have G4 := G3.call hb4
          have H4 := H3.call hb4
          have B4 := B3.trans (hb4.mono B3.size)
          clear hb4 G3 H3 B3 I3 J3 G2 H2 g0 g1 g2 g3 g4 g5 g6 gz k0 k1 k2 k3 k4 k5 k6 kz
          obtain ⟨⟨g0, g1, g2, g3, g4, g5, g6⟩, gz⟩ := id G4
          obtain ⟨⟨k0, k1, k2, k3, k4, k5, k6⟩, kz⟩ := id H4
          simp only [Nat.zero_add] at g0 g1 g2 g3 g4 g5 g6 k0 k1 k2 k3 k4 k5 k6
          generalize hA' : (sl.any fun x => h'.contains x) = al at *
          have HAL := hideH hA'
          clear hA'
          go_wp2_with (go_at_call 104; fail)
          refine (HA.out _).mono ?_
          rintro e w9 ⟨rfl, hb9⟩
          go_wp2
          go_ret2
          exact ⟨ret_t2 (by rw [HY.out]; simp_all) rfl, B4.trans (hb9.mono B4.size)⟩
        · go_wp2_with (go_at_call 43; fail)
          refine (containsFunc_common (w.heap.size + 1) (fun x => h'.contains x) ss gc sl _ hgl I3 fun x wx hbx => common_any x _ ⟨false, sp', t', false, h'⟩ st hc wx (H3.call hbx) (J3.call hbx) (by simpa using hlt)).mono ?_
          rintro e w4 ⟨rfl, hb4⟩
          have G4 := G3.call hb4
          have H4 := H3.call hb4
          have B4 := B3.trans (hb4.mono B3.size)
          clear hb4 G3 H3 B3 I3 J3 G2 H2 g0 g1 g2 g3 g4 g5 g6 gz k0 k1 k2 k3 k4 k5 k6 kz
          obtain ⟨⟨g0, g1, g2, g3, g4, g5, g6⟩, gz⟩ := id G4
          obtain ⟨⟨k0, k1, k2, k3, k4, k5, k6⟩, kz⟩ := id H4
          simp only [Nat.zero_add] at g0 g1 g2 g3 g4 g5 g6 k0 k1 k2 k3 k4 k5 k6
          generalize hA' : (sl.any fun x => h'.contains x) = al at *
          have HAL := hideH hA'
          clear hA'
          go_wp2_with (go_at_call 104; fail)
          refine (HA.out _).mono ?_
          rintro e w9 ⟨rfl, hb9⟩
          go_wp2
          go_ret2
          exact ⟨ret_t2 (by rw [HY.out]; simp_all) rfl, B4.trans (hb9.mono B4.size)⟩
      · rcases three_ways2 f f' with ⟨rfl, rfl⟩ | rfl | ⟨rfl, rfl⟩
        · go_wp2_with (go_at_call 104; fail)
          refine (HA.out _).mono ?_
          rintro e w9 ⟨rfl, hb9⟩
          go_wp2
          go_ret2
          exact ⟨ret_t2 (by rw [HY.out]; simp_all) rfl, B3.trans (hb9.mono B3.size)⟩
        · go_wp2_with (go_at_call 43; fail)
          refine (containsFunc_common (w.heap.size + 1) (fun x => h'.contains x) ss gc sl _ hgl I3 fun x wx hbx => common_any x _ ⟨false, sp', false, f', h'⟩ st hc wx (H3.call hbx) (J3.call hbx) (by simpa using hlt)).mono ?_
          rintro e w4 ⟨rfl, hb4⟩
          have G4 := G3.call hb4
          have H4 := H3.call hb4
          have B4 := B3.trans (hb4.mono B3.size)
          clear hb4 G3 H3 B3 I3 J3 G2 H2 g0 g1 g2 g3 g4 g5 g6 gz k0 k1 k2 k3 k4 k5 k6 kz
          obtain ⟨⟨g0, g1, g2, g3, g4, g5, g6⟩, gz⟩ := id G4
          obtain ⟨⟨k0, k1, k2, k3, k4, k5, k6⟩, kz⟩ := id H4
          simp only [Nat.zero_add] at g0 g1 g2 g3 g4 g5 g6 k0 k1 k2 k3 k4 k5 k6
          generalize hA' : (sl.any fun x => h'.contains x) = al at *
          have HAL := hideH hA'
          clear hA'
          go_wp2_with (go_at_call 104; fail)
          refine (HA.out _).mono ?_
          rintro e w9 ⟨rfl, hb9⟩
          go_wp2
          go_ret2
          exact ⟨ret_t2 (by rw [HY.out]; simp_all) rfl, B4.trans (hb9.mono B4.size)⟩
        · go_wp2_with (go_at_call 43; fail)
          refine (containsFunc_common (w.heap.size + 1) (fun x => h'.contains x) ss gc sl _ hgl I3 fun x wx hbx => common_any x _ ⟨false, sp', false, false, h'⟩ st hc wx (H3.call hbx) (J3.call hbx) (by simpa using hlt)).mono ?_
          rintro e w4 ⟨rfl, hb4⟩
          have G4 := G3.call hb4
          have H4 := H3.call hb4
          have B4 := B3.trans (hb4.mono B3.size)
          clear hb4 G3 H3 B3 I3 J3 G2 H2 g0 g1 g2 g3 g4 g5 g6 gz k0 k1 k2 k3 k4 k5 k6 kz
          obtain ⟨⟨g0, g1, g2, g3, g4, g5, g6⟩, gz⟩ := id G4
          obtain ⟨⟨k0, k1, k2, k3, k4, k5, k6⟩, kz⟩ := id H4
          simp only [Nat.zero_add] at g0 g1 g2 g3 g4 g5 g6 k0 k1 k2 k3 k4 k5 k6
          generalize hA' : (sl.any fun x => h'.contains x) = al at *
          have HAL := hideH hA'
          clear hA'
          go_wp2_with (go_at_call 104; fail)
          refine (HA.out _).mono ?_
          rintro e w9 ⟨rfl, hb9⟩
          go_wp2
          go_ret2
          exact ⟨ret_t2 (by rw [HY.out]; simp_all) rfl, B4.trans (hb9.mono B4.size)⟩
end Go.Proofs.YtmapdpcfanecdaaGreat
