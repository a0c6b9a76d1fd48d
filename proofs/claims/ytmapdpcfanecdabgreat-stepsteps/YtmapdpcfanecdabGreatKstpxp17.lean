/- Walks over package guess: may two be the same value; may they not? -/
import Derived.Test.YtmapdpcfanecdabGreatKstpxp14
import Derived.Deep.QuietTactic
import Derived.BigQuiet
import Derived.Test.YtmapdpcfanecdabGreatKstpxp16
import Derived.Test.YtmapdpcfanecdabGreatKstpxp09
set_option linter.unusedSimpArgs false
set_option linter.unusedVariables false
namespace Go.Proofs.YtmapdpcfanecdabGreat
section
set_option maxHeartbeats 1000000
open Go.RowKit

/-- What may stand in a part, and what is told of another number. -/
def lo (q : Int) : Int := if q = 4 then -2147483648 else 0
def hi (V F L q : Int) : Int := if q = 4 then 2147483647 else if q = 5 then 1 else if q = 6 then 1000000 else if q = 7 then F - 1 else if q = 3 then L else V - 1
def er (q : Int) : Int := if q = 4 ∨ q = 5 ∨ q = 6 then 3 else 5

theorem bounds_any (V F : Int) (s : Option Addr) (len cap : Nat) (q : Int) (w : World) (_hV : 1 ≤ V) (_hV' : V ≤ 8) (_hF : 0 ≤ F) (_hF' : F ≤ 3) (_hL : len ≤ 60) (hq : 0 ≤ q ∧ q ≤ 7) :
  Calls Tryz.prog 127 #[.agg #[.int .i64 V, .int .i64 F, .slice s len cap], .int .i64 q] w fun e w' => e = .returned (.tuple #[.int .i64 (lo q), .int .i64 (hi V F len q), .int .i64 (er q)]) ∧ Below w.heap.size w w' := by
 have : q = 0 ∨ q = 1 ∨ q = 2 ∨ q = 3 ∨ q = 4 ∨ q = 5 ∨ q = 6 ∨ q = 7 := by omega
 rcases this with rfl | rfl | rfl | rfl | rfl | rfl | rfl | rfl
 all_goals
  go_enter Tryz.func127, Tryz.ntmps127
  go_wp2
  try (go_quiet (fail); go_wp2)
  go_ret3
  exact ⟨rfl, by first | (go_grown; done) | exact below_drewN (by go_grown) _⟩
end
section
set_option maxRecDepth 100000
open Go.RowKit

theorem part_cell {N : Nat} {w : World} (h : ShpAt N shps w) (j i : Nat) (hj : j < shps.length) (hne : shps[j].2.2 ≠ []) (v : Value) (hv : (partCells shps[j].2.2)[i]? = some v) : w.cell? ⟨N + 1 + j, i, none⟩ = some v ∧ N + 1 + j < w.heap.size := by
 have hb := h.parts j hj hne
 exact ⟨by simp [World.cell?, hb, hv], (Array.getElem?_eq_some_iff.1 hb).1⟩
theorem prf_ci {p : Prop} (h : p := by
 have l0 : lo 0 = 0 := rfl
 have m0 : hi V F len 0 = V - 1 := rfl
 have e0 : er 0 = 5 := rfl
 have l1 : lo 1 = 0 := rfl
 have m1 : hi V F len 1 = V - 1 := rfl
 have e1 : er 1 = 5 := rfl
 have l2 : lo 2 = 0 := rfl
 have m2 : hi V F len 2 = V - 1 := rfl
 have e2 : er 2 = 5 := rfl
 have l3 : lo 3 = 0 := rfl
 have m3 : hi V F len 3 = (len : Int) := rfl
 have e3 : er 3 = 5 := rfl
 have l4 : lo 4 = -2147483648 := rfl
 have m4 : hi V F len 4 = 2147483647 := rfl
 have e4 : er 4 = 3 := rfl
 have l5 : lo 5 = 0 := rfl
 have m5 : hi V F len 5 = 1 := rfl
 have e5 : er 5 = 3 := rfl
 have l6 : lo 6 = 0 := rfl
 have m6 : hi V F len 6 = 1000000 := rfl
 have e6 : er 6 = 3 := rfl
 have l7 : lo 7 = 0 := rfl
 have m7 : hi V F len 7 = F - 1 := rfl
 have e7 : er 7 = 5 := rfl
 have z1 := Nat.lt_add_right 1 hz
 have z2 := Nat.lt_add_right 1 z1
 have z3 := Nat.lt_add_right 1 z2
 have z4 := Nat.lt_add_right 1 z3
 have x3 : ¬ _ := Nat.ne_of_lt z3
 go_enter Tryz.func97, Tryz.ntmps97
 go_wp2
 refine wp_loop_rounds 4 ?_
 iterate 4 (try any_goals (rw [rounds_succ]; go_wp2_with (first | (go_at_call 127; refine (bounds_any V F _ _ _ _ _ hV hV' hF hF' hL ?hq).mono ?_; (case hq => decide); rintro e w1 ⟨rfl, hb1⟩; obtain ⟨hc1, hf1⟩ := bcell hb1; have hz1 : w.heap.size + 3 < w1.heap.size := (by have := hb1.size; simp at this; omega); have hz2 : w.heap.size < w1.heap.size := (by omega); have hz3 : w.heap.size + 1 < w1.heap.size := (by omega); have hz4 : w.heap.size + 1 + 1 < w1.heap.size := (by omega); have hz5 : w.heap.size + 1 + 1 + 1 < w1.heap.size := (by omega); have hz6 := Nat.lt_trans hz hz2; have HB : Below w.heap.size w w1 := Below.trans (by go_grown) (hb1.mono (by go_size))) | go_in)))
 all_goals go_ret
 all_goals refine ⟨ret_int ?_, by go_grown⟩
 all_goals clear hl
 all_goals (try clear p0)
 all_goals (try clear p1)
 all_goals (try clear p2)
 all_goals simp [ckOne, nTo, nA, nB, nN, nG, btw]
 all_goals omega) : p := h
end
section
set_option maxHeartbeats 8000000
set_option maxRecDepth 100000
open Go.RowKit

theorem three_ways2 (a b : Bool) : (a = true ∧ b = true) ∨ a = false ∨ (a = true ∧ b = false) := by cases a <;> cases b <;> simp

theorem same_none (g : Gs) (ss : Option Addr) (gc : Nat) (h : Gs) (st : Option Addr) (hc : Nat) (w : World) (hn : [g, h].any nothingGs = true) :
  Calls Tryz.prog 124 #[gv g ss gc, gv h st hc] w fun e w' => e = .returned (.tuple #[.bool false, .bool false]) ∧ Below w.heap.size w w' := by
 have B0 : Below w.heap.size w ((w.alloc (.cells #[.bool g.n, .bool g.sp.n, .int .i64 g.sp.lo, .int .i64 g.sp.hi, .bool g.t, .bool g.f, .slice ss g.s.length gc] 61)).alloc (.cells #[.bool h.n, .bool h.sp.n, .int .i64 h.sp.lo, .int .i64 h.sp.hi, .bool h.t, .bool h.f, .slice st h.s.length hc] 61)) := by go_grown
 have G0 := (GuAt.new w g ss gc).alloc (.cells #[.bool h.n, .bool h.sp.n, .int .i64 h.sp.lo, .int .i64 h.sp.hi, .bool h.t, .bool h.f, .slice st h.s.length hc] 61)
 have H0 := GuAt.new (w.alloc (.cells #[.bool g.n, .bool g.sp.n, .int .i64 g.sp.lo, .int .i64 g.sp.hi, .bool g.t, .bool g.f, .slice ss g.s.length gc] 61)) h st hc
 rw [World.size_alloc] at H0
 have L0 := GhAt.new2 ((w.alloc (.cells #[.bool g.n, .bool g.sp.n, .int .i64 g.sp.lo, .int .i64 g.sp.hi, .bool g.t, .bool g.f, .slice ss g.s.length gc] 61)).alloc (.cells #[.bool h.n, .bool h.sp.n, .int .i64 h.sp.lo, .int .i64 h.sp.hi, .bool h.t, .bool h.f, .slice st h.s.length hc] 61)) g ss gc h st hc
 simp only [World.size_alloc] at L0
 have HN := hideH (fun lc wx hL => anyNothing_any (some ⟨w.heap.size + 1 + 1, 0, none⟩) [g, h] lc wx (by simp) hL)
 rw [hn] at HN
 clear hn
 go_enter Tryz.func124, Tryz.ntmps124
 go_wp2_with (go_at_call 150; fail)
 refine (HN.out 2 _ L0).mono ?_
 rintro e w1 ⟨rfl, hb1⟩
 go_wp2
 go_ret2
 exact ⟨rfl, (B0.alloc B0.size _).trans (hb1.mono (by simp; omega))⟩

theorem prf_f25c54 {p : Prop} (h : p := by
 rintro e w4 ⟨rfl, hb4⟩
 have G4 := G3.call hb4
 have H4 := H3.call hb4
 have B4 := B3.trans (hb4.mono B3.size)
 clear hb4 G3 H3 B3 I3 J3 G2 H2 g0 g1 g2 g3 g4 g5 g6 gz k0 k1 k2 k3 k4 k5 k6 kz
 obtain ⟨⟨g0, g1, g2, g3, g4, g5, g6⟩, gz⟩ := id G4
 obtain ⟨⟨k0, k1, k2, k3, k4, k5, k6⟩, kz⟩ := id H4
 simp only [Nat.zero_add] at g0 g1 g2 g3 g4 g5 g6 k0 k1 k2 k3 k4 k5 k6
 generalize hA' : (sl.any fun x => h'.contains x) = al at *
 have HAL := hideH hA'
 clear hA'
 go_wp2_with (go_at_call 152; fail)
 refine (HA.out _).mono ?_
 rintro e w9 ⟨rfl, hb9⟩
 go_wp2
 go_ret2
 exact ⟨ret_t2 (by rw [HY.out]; simp_all) rfl, B4.trans (hb9.mono B4.size)⟩) : p := h
theorem same_some (g : Gs) (ss : Option Addr) (gc : Nat) (h : Gs) (st : Option Addr) (hc : Nat) (w : World) (hs : IntsAt w ss g.s) (hgl : g.s.length ≤ 9223372036854775807) (ht : IntsAt w st h.s) (hlt : h.s.length ≤ 9223372036854775807) (hsp : ckSps g.sp h.sp = 0) (hn : [g, h].any nothingGs = false) :
  Calls Tryz.prog 124 #[gv g ss gc, gv h st hc] w fun e w' => e = .returned (.tuple #[.bool ((g.n && h.n) || (!(meetSp g.sp h.sp).n || ((g.t && h.t) || ((g.f && h.f) || g.s.any fun x => h.s.contains x)))), .bool (!alikeGs g h)]) ∧ Below w.heap.size w w' := by
 have B0 : Below w.heap.size w ((w.alloc (.cells #[.bool g.n, .bool g.sp.n, .int .i64 g.sp.lo, .int .i64 g.sp.hi, .bool g.t, .bool g.f, .slice ss g.s.length gc] 61)).alloc (.cells #[.bool h.n, .bool h.sp.n, .int .i64 h.sp.lo, .int .i64 h.sp.hi, .bool h.t, .bool h.f, .slice st h.s.length hc] 61)) := by go_grown
 have G0 := (GuAt.new w g ss gc).alloc (.cells #[.bool h.n, .bool h.sp.n, .int .i64 h.sp.lo, .int .i64 h.sp.hi, .bool h.t, .bool h.f, .slice st h.s.length hc] 61)
 have H0 := GuAt.new (w.alloc (.cells #[.bool g.n, .bool g.sp.n, .int .i64 g.sp.lo, .int .i64 g.sp.hi, .bool g.t, .bool g.f, .slice ss g.s.length gc] 61)) h st hc
 rw [World.size_alloc] at H0
 have L0 := GhAt.new2 ((w.alloc (.cells #[.bool g.n, .bool g.sp.n, .int .i64 g.sp.lo, .int .i64 g.sp.hi, .bool g.t, .bool g.f, .slice ss g.s.length gc] 61)).alloc (.cells #[.bool h.n, .bool h.sp.n, .int .i64 h.sp.lo, .int .i64 h.sp.hi, .bool h.t, .bool h.f, .slice st h.s.length hc] 61)) g ss gc h st hc
 simp only [World.size_alloc] at L0
 have HN := hideH (fun lc wx hL => anyNothing_any (some ⟨w.heap.size + 1 + 1, 0, none⟩) [g, h] lc wx (by simp) hL)
 rw [hn] at HN
 have hM := fun w => meetF_any g.sp h.sp w
 rw [hsp, show ∀ r, spIf 0 r = r from fun r => rfl] at hM
 have HM := hideH hM
 clear hn hsp hM
 have HA := hideH (fun w => isAlike_any g ss gc h st hc w)
 have HY : Hid (((g.n && h.n) || (!(meetSp g.sp h.sp).n || ((g.t && h.t) || ((g.f && h.f) || g.s.any fun x => h.s.contains x)))) = ((g.n && h.n) || (!(meetSp g.sp h.sp).n || ((g.t && h.t) || ((g.f && h.f) || g.s.any fun x => h.s.contains x))))) := rfl
 generalize hy : ((g.n && h.n) || (!(meetSp g.sp h.sp).n || ((g.t && h.t) || ((g.f && h.f) || g.s.any fun x => h.s.contains x)))) = yy
 have HY := hideH hy.symm
 clear hy
 generalize meetSp g.sp h.sp = M at HM HY
 generalize alikeGs g h = ak at HA ⊢
 have I0 := hs.below B0 (Nat.le_refl _)
 have J0 := ht.below B0 (Nat.le_refl _)
 clear hs ht
 go_enter Tryz.func124, Tryz.ntmps124
 go_wp2_with (go_at_call 150; fail)
 refine (HN.out 2 _ L0).mono ?_
 rintro e w1 ⟨rfl, hb1⟩
 have G1 := (G0.alloc _).call hb1
 have H1 := (H0.alloc _).call hb1
 have I1 := (I0.alloc _).call hb1
 have J1 := (J0.alloc _).call hb1
 have B1 : Below w.heap.size w w1 := (B0.alloc B0.size _).trans (hb1.mono (by simp; omega))
 clear hb1 G0 H0 I0 J0 B0 L0 HN
 obtain ⟨⟨g0, g1, g2, g3, g4, g5, g6⟩, gz⟩ := id G1
 obtain ⟨⟨k0, k1, k2, k3, k4, k5, k6⟩, kz⟩ := id H1
 simp only [Nat.zero_add] at g0 g1 g2 g3 g4 g5 g6 k0 k1 k2 k3 k4 k5 k6
 go_wp2_with (go_at_call 86; fail)
 refine (HM.out _).mono ?_
 rintro e w2 ⟨rfl, hb2⟩
 have G3 := (G1.call hb2).alloc (.cells #[.bool M.n, .int .i64 M.lo, .int .i64 M.hi] 58)
 have H3 := (H1.call hb2).alloc (.cells #[.bool M.n, .int .i64 M.lo, .int .i64 M.hi] 58)
 have I3 := (I1.call hb2).alloc (.cells #[.bool M.n, .int .i64 M.lo, .int .i64 M.hi] 58)
 have J3 := (J1.call hb2).alloc (.cells #[.bool M.n, .int .i64 M.lo, .int .i64 M.hi] 58)
 have B2 := B1.trans (hb2.mono B1.size)
 have B3 := B2.alloc B2.size (.cells #[.bool M.n, .int .i64 M.lo, .int .i64 M.hi] 58)
 have G2 := G1.call hb2
 have H2 := H1.call hb2
 clear hb2 G1 H1 I1 J1 B1 B2 g0 g1 g2 g3 g4 g5 g6 gz k0 k1 k2 k3 k4 k5 k6 kz HM
 obtain ⟨⟨g0, g1, g2, g3, g4, g5, g6⟩, gz⟩ := id G2
 obtain ⟨⟨k0, k1, k2, k3, k4, k5, k6⟩, kz⟩ := id H2
 simp only [Nat.zero_add] at g0 g1 g2 g3 g4 g5 g6 k0 k1 k2 k3 k4 k5 k6
 obtain ⟨n, sp, t, f, sl⟩ := g
 obtain ⟨n', sp', t', f', h'⟩ := h
 obtain ⟨mn, ml, mh⟩ := M
 simp only at hgl hlt
 have HY := HY
 rcases three_ways2 n n' with ⟨rfl, rfl⟩ | rfl | ⟨rfl, rfl⟩
 ·go_wp2_with (go_at_call 152; fail)
  refine (HA.out _).mono ?_
  rintro e w9 ⟨rfl, hb9⟩
  go_wp2
  go_ret2
  exact ⟨ret_t2 (by rw [HY.out]; simp_all) rfl, B3.trans (hb9.mono B3.size)⟩
 ·cases mn with
  | false =>
   go_wp2_with (go_at_call 152; fail)
   refine (HA.out _).mono ?_
   rintro e w9 ⟨rfl, hb9⟩
   go_wp2
   go_ret2
   exact ⟨ret_t2 (by rw [HY.out]; simp_all) rfl, B3.trans (hb9.mono B3.size)⟩
  | true =>
   rcases three_ways2 t t' with ⟨rfl, rfl⟩ | rfl | ⟨rfl, rfl⟩
   ·go_wp2_with (go_at_call 152; fail)
    refine (HA.out _).mono ?_
    rintro e w9 ⟨rfl, hb9⟩
    go_wp2
    go_ret2
    exact ⟨ret_t2 (by rw [HY.out]; simp_all) rfl, B3.trans (hb9.mono B3.size)⟩
   ·rcases three_ways2 f f' with ⟨rfl, rfl⟩ | rfl | ⟨rfl, rfl⟩
    ·go_wp2_with (go_at_call 152; fail)
     refine (HA.out _).mono ?_
     rintro e w9 ⟨rfl, hb9⟩
     go_wp2
     go_ret2
     exact ⟨ret_t2 (by rw [HY.out]; simp_all) rfl, B3.trans (hb9.mono B3.size)⟩
    ·go_wp2_with (go_at_call 118; fail)
     refine (containsFunc_common (w.heap.size + 1) (fun x => h'.contains x) ss gc sl _ hgl I3 fun x wx hbx => common_any x _ ⟨n', sp', t', f', h'⟩ st hc wx (H3.call hbx) (J3.call hbx) (by simpa using hlt)).mono ?_
     exact prf_f25c54
    ·go_wp2_with (go_at_call 118; fail)
     refine (containsFunc_common (w.heap.size + 1) (fun x => h'.contains x) ss gc sl _ hgl I3 fun x wx hbx => common_any x _ ⟨n', sp', t', false, h'⟩ st hc wx (H3.call hbx) (J3.call hbx) (by simpa using hlt)).mono ?_
     exact prf_f25c54
   ·rcases three_ways2 f f' with ⟨rfl, rfl⟩ | rfl | ⟨rfl, rfl⟩
    ·go_wp2_with (go_at_call 152; fail)
     refine (HA.out _).mono ?_
     rintro e w9 ⟨rfl, hb9⟩
     go_wp2
     go_ret2
     exact ⟨ret_t2 (by rw [HY.out]; simp_all) rfl, B3.trans (hb9.mono B3.size)⟩
    ·go_wp2_with (go_at_call 118; fail)
     refine (containsFunc_common (w.heap.size + 1) (fun x => h'.contains x) ss gc sl _ hgl I3 fun x wx hbx => common_any x _ ⟨n', sp', false, f', h'⟩ st hc wx (H3.call hbx) (J3.call hbx) (by simpa using hlt)).mono ?_
     exact prf_f25c54
    ·go_wp2_with (go_at_call 118; fail)
     refine (containsFunc_common (w.heap.size + 1) (fun x => h'.contains x) ss gc sl _ hgl I3 fun x wx hbx => common_any x _ ⟨n', sp', false, false, h'⟩ st hc wx (H3.call hbx) (J3.call hbx) (by simpa using hlt)).mono ?_
     exact prf_f25c54
 ·cases mn with
  | false =>
   go_wp2_with (go_at_call 152; fail)
   refine (HA.out _).mono ?_
   rintro e w9 ⟨rfl, hb9⟩
   go_wp2
   go_ret2
   exact ⟨ret_t2 (by rw [HY.out]; simp_all) rfl, B3.trans (hb9.mono B3.size)⟩
  | true =>
   rcases three_ways2 t t' with ⟨rfl, rfl⟩ | rfl | ⟨rfl, rfl⟩
   ·go_wp2_with (go_at_call 152; fail)
    refine (HA.out _).mono ?_
    rintro e w9 ⟨rfl, hb9⟩
    go_wp2
    go_ret2
    exact ⟨ret_t2 (by rw [HY.out]; simp_all) rfl, B3.trans (hb9.mono B3.size)⟩
   ·rcases three_ways2 f f' with ⟨rfl, rfl⟩ | rfl | ⟨rfl, rfl⟩
    ·go_wp2_with (go_at_call 152; fail)
     refine (HA.out _).mono ?_
     rintro e w9 ⟨rfl, hb9⟩
     go_wp2
     go_ret2
     exact ⟨ret_t2 (by rw [HY.out]; simp_all) rfl, B3.trans (hb9.mono B3.size)⟩
    ·go_wp2_with (go_at_call 118; fail)
     refine (containsFunc_common (w.heap.size + 1) (fun x => h'.contains x) ss gc sl _ hgl I3 fun x wx hbx => common_any x _ ⟨false, sp', t', f', h'⟩ st hc wx (H3.call hbx) (J3.call hbx) (by simpa using hlt)).mono ?_
     exact prf_f25c54
    ·go_wp2_with (go_at_call 118; fail)
     refine (containsFunc_common (w.heap.size + 1) (fun x => h'.contains x) ss gc sl _ hgl I3 fun x wx hbx => common_any x _ ⟨false, sp', t', false, h'⟩ st hc wx (H3.call hbx) (J3.call hbx) (by simpa using hlt)).mono ?_
     exact prf_f25c54
   ·rcases three_ways2 f f' with ⟨rfl, rfl⟩ | rfl | ⟨rfl, rfl⟩
    ·go_wp2_with (go_at_call 152; fail)
     refine (HA.out _).mono ?_
     rintro e w9 ⟨rfl, hb9⟩
     go_wp2
     go_ret2
     exact ⟨ret_t2 (by rw [HY.out]; simp_all) rfl, B3.trans (hb9.mono B3.size)⟩
    ·go_wp2_with (go_at_call 118; fail)
     refine (containsFunc_common (w.heap.size + 1) (fun x => h'.contains x) ss gc sl _ hgl I3 fun x wx hbx => common_any x _ ⟨false, sp', false, f', h'⟩ st hc wx (H3.call hbx) (J3.call hbx) (by simpa using hlt)).mono ?_
     exact prf_f25c54
    ·go_wp2_with (go_at_call 118; fail)
     refine (containsFunc_common (w.heap.size + 1) (fun x => h'.contains x) ss gc sl _ hgl I3 fun x wx hbx => common_any x _ ⟨false, sp', false, false, h'⟩ st hc wx (H3.call hbx) (J3.call hbx) (by simpa using hlt)).mono ?_
     exact prf_f25c54
end
end Go.Proofs.YtmapdpcfanecdabGreat
