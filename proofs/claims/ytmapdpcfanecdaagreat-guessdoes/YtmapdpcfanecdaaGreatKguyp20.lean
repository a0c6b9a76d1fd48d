/- Walks over package guess: lists of sites that are looked through by a function literal. -/
import Derived.Test.YtmapdpcfanecdaaGreatKguyp18
import Derived.Test.YtmapdpcfanecdaaGreatKguyp19
import Derived.Test.YtmapdpcfanecdaaGreatKguyp05
import Derived.Test.YtmapdpcfanecdaaGreatKguyp17
import Derived.Deep.QuietTactic
import Derived.BigQuiet
import Derived.Lib.QuietBelow
namespace Go.Proofs.YtmapdpcfanecdaaGreat
set_option linter.unusedVariables false
set_option linter.unusedSimpArgs false
open Go.RowKit

set_option maxHeartbeats 1000000 in
theorem checkG_any (V F : Int) (s : Option Addr) (c : List Ins) (cap : Nat) (g : Gs) (ss : Option Addr) (gc : Nat) (w : World) (hcd : CodeAt w s c) (hs : IntsAt w ss g.s) (h1 : g.s.length ≤ gc) (h2 : gc ≤ maxLen) :
    Calls Tryz.prog 18 #[pv V F s c cap, gv g ss gc] w fun e w' => e = .returned (.int .i64 (ckAllG V F c [g])) ∧ Below w.heap.size w w' := by
  have B0 : Below w.heap.size w (pgW w V F s c cap g ss gc) := by go_grown
  have L0 := GsAt.new1 (pgW w V F s c cap g ss gc) g ss gc ((hs.alloc _).alloc _) h1 h2
  simp only [World.size_alloc] at L0
  have HC := hideH (checkAllG_any V F s c cap (some ⟨w.heap.size + 1 + 1, 0, none⟩) [g] 1 _ (((hcd.alloc _).alloc _).alloc _) L0 (by simp))
  generalize ckAllG V F c [g] = ce at HC ⊢
  clear hcd hs L0
  go_enter Tryz.func18, Tryz.ntmps18
  go_wp2_with (go_at_call 40; fail)
  refine HC.out.mono ?_
  rintro e w1 ⟨rfl, hb1⟩
  go_wp2
  go_ret
  exact ⟨rfl, (B0.alloc B0.size _).trans (hb1.mono (by simp; omega))⟩

set_option maxHeartbeats 2000000 in
set_option maxRecDepth 10000 in
theorem joinG_ok (V F : Int) (s : Option Addr) (c : List Ins) (cap : Nat) (g : Gs) (ss : Option Addr) (gc : Nat) (h : Gs) (st : Option Addr) (hc : Nat) (w : World)
    (hcd : CodeAt w s c) (hs : IntsAt w ss g.s) (h1 : g.s.length ≤ gc) (h2 : gc ≤ maxLen) (ht : IntsAt w st h.s) (h3 : h.s.length ≤ hc) (h4 : hc ≤ maxLen) (hck : ckAllG V F c [g, h] = 0) (hlen : ([g, h].flatMap Gs.s).length ≤ 1000000) :
    Calls Tryz.prog 7 #[pv V F s c cap, gv g ss gc, gv h st hc] w fun e w' => ∃ v, e = .returned (.tuple #[.agg #[.bool (g.n || h.n), .bool (joinSp g.sp h.sp).n, .int .i64 (joinSp g.sp h.sp).lo, .int .i64 (joinSp g.sp h.sp).hi, .bool (g.t || h.t), .bool (g.f || h.f), v], .int .i64 0]) ∧ w'.ownsRow w.heap.size 3 1 v (sitesOf [g, h]).length ((sitesOf [g, h]).map (.int .i64)) ∧ Below w.heap.size w w' := by
  obtain ⟨P0, G0, H0, R0, F0⟩ := togW_at w V F s c cap g ss gc h st hc
  have B0 := togW_below w V F s c cap g ss gc h st hc
  have C0 : CodeAt (togW w V F s c cap g ss gc h st hc) s c := hcd.below B0 (Nat.le_refl _)
  have I0 : IntsAt (togW w V F s c cap g ss gc h st hc) ss g.s := hs.below B0 (Nat.le_refl _)
  have J0 : IntsAt (togW w V F s c cap g ss gc h st hc) st h.s := ht.below B0 (Nat.le_refl _)
  have HT := hideH (togetherG_join V F s c cap g ss gc h st hc _ C0 I0 h1 h2 J0 h3 h4 hck hlen)
  clear hck hlen hcd hs ht P0 G0 H0 C0 I0 J0
  generalize joinSp g.sp h.sp = J at HT ⊢
  generalize sitesOf [g, h] = T at HT ⊢
  go_enter Tryz.func7, Tryz.ntmps7
  go_wp2_with (go_at_call 37; fail)
  refine HT.out.mono ?_
  rintro e w1 ⟨v, rfl, hown, hb1⟩
  have R1 := R0.call hb1
  have F1 : Fr7 w1 (w.heap.size + 1 + 1 + 1) := F0.call hb1
  have B1 : Below w.heap.size w w1 := B0.trans (hb1.mono B0.size)
  simp only [World.size_alloc] at hown
  have O1 := hown
  obtain ⟨vs, vc, rfl, -, -, -, -⟩ := IntsAt.own hown
  clear hb1 R0 F0 B0 HT hown
  obtain ⟨⟨r0, r1, r2, r3, r4, r5, r6⟩, rz⟩ := id R1
  simp only [Nat.zero_add, zeroG] at r0 r1 r2 r3 r4 r5 r6
  have fz := F1.1
  go_wp2
  refine bodyPost_ret (v := .tuple #[.agg #[.bool (g.n || h.n), .bool J.n, .int .i64 J.lo, .int .i64 J.hi, .bool (g.t || h.t), .bool (g.f || h.f), .slice vs T.length vc], .int .i64 0]) (by simp [results, Tryz.results7, go_sem, r0, r1, r2, r3, r4, r5, r6]) rfl ⟨_, rfl, ?_, ?_⟩
  · exact ownsRow_base (ownsRow_put7 O1 (by omega)) (by omega)
  · exact below_put7 B1 (by omega)

set_option maxHeartbeats 2000000 in
set_option maxRecDepth 10000 in
theorem joinG_err (V F : Int) (s : Option Addr) (c : List Ins) (cap : Nat) (g : Gs) (ss : Option Addr) (gc : Nat) (h : Gs) (st : Option Addr) (hc : Nat) (w : World)
    (hcd : CodeAt w s c) (hs : IntsAt w ss g.s) (h1 : g.s.length ≤ gc) (h2 : gc ≤ maxLen) (ht : IntsAt w st h.s) (h3 : h.s.length ≤ hc) (h4 : hc ≤ maxLen) (hck : ckAllG V F c [g, h] ≠ 0) :
    Calls Tryz.prog 7 #[pv V F s c cap, gv g ss gc, gv h st hc] w fun e w' => e = .returned (.tuple #[gv zeroG none 0, .int .i64 (ckAllG V F c [g, h])]) ∧ Below w.heap.size w w' := by
  obtain ⟨P0, G0, H0, R0, F0⟩ := togW_at w V F s c cap g ss gc h st hc
  have B0 := togW_below w V F s c cap g ss gc h st hc
  have C0 : CodeAt (togW w V F s c cap g ss gc h st hc) s c := hcd.below B0 (Nat.le_refl _)
  have I0 : IntsAt (togW w V F s c cap g ss gc h st hc) ss g.s := hs.below B0 (Nat.le_refl _)
  have J0 : IntsAt (togW w V F s c cap g ss gc h st hc) st h.s := ht.below B0 (Nat.le_refl _)
  have HT := hideH (togetherG_err 38 V F s c cap g ss gc h st hc _ C0 I0 h1 h2 J0 h3 h4 hck)
  clear hck hcd hs ht P0 G0 H0 C0 I0 J0
  generalize ckAllG V F c [g, h] = ce at HT ⊢
  go_enter Tryz.func7, Tryz.ntmps7
  go_wp2_with (go_at_call 37; fail)
  refine HT.out.mono ?_
  rintro e w1 ⟨rfl, hb1⟩
  have R1 := R0.call hb1
  have F1 : Fr7 w1 (w.heap.size + 1 + 1 + 1) := F0.call hb1
  have B1 : Below w.heap.size w w1 := B0.trans (hb1.mono B0.size)
  clear hb1 R0 F0 B0 HT
  obtain ⟨⟨r0, r1, r2, r3, r4, r5, r6⟩, rz⟩ := id R1
  simp only [Nat.zero_add, zeroG] at r0 r1 r2 r3 r4 r5 r6
  have fz := F1.1
  simp only [zeroG]
  go_wp2
  refine bodyPost_ret (v := .tuple #[gv zeroG none 0, .int .i64 ce]) (by simp [results, Tryz.results7, go_sem, r0, r1, r2, r3, r4, r5, r6, zeroG]) rfl ⟨rfl, ?_⟩
  exact below_put7 B1 (by omega)

set_option maxHeartbeats 2000000 in
set_option maxRecDepth 10000 in
theorem wideG_ok (V F : Int) (s : Option Addr) (c : List Ins) (cap : Nat) (g : Gs) (ss : Option Addr) (gc : Nat) (h : Gs) (st : Option Addr) (hc : Nat) (w : World)
    (hcd : CodeAt w s c) (hs : IntsAt w ss g.s) (h1 : g.s.length ≤ gc) (h2 : gc ≤ maxLen) (ht : IntsAt w st h.s) (h3 : h.s.length ≤ hc) (h4 : hc ≤ maxLen) (hck : ckAllG V F c [g, h] = 0) (hlen : ([g, h].flatMap Gs.s).length ≤ 1000000) :
    Calls Tryz.prog 8 #[pv V F s c cap, gv g ss gc, gv h st hc] w fun e w' => ∃ v, e = .returned (.tuple #[.agg #[.bool (g.n || h.n), .bool (wideSp g.sp h.sp).n, .int .i64 (wideSp g.sp h.sp).lo, .int .i64 (wideSp g.sp h.sp).hi, .bool (g.t || h.t), .bool (g.f || h.f), v], .int .i64 0]) ∧ w'.ownsRow w.heap.size 3 1 v (sitesOf [g, h]).length ((sitesOf [g, h]).map (.int .i64)) ∧ Below w.heap.size w w' := by
  obtain ⟨P0, G0, H0, R0, F0⟩ := togW_at w V F s c cap g ss gc h st hc
  have B0 := togW_below w V F s c cap g ss gc h st hc
  have C0 : CodeAt (togW w V F s c cap g ss gc h st hc) s c := hcd.below B0 (Nat.le_refl _)
  have I0 : IntsAt (togW w V F s c cap g ss gc h st hc) ss g.s := hs.below B0 (Nat.le_refl _)
  have J0 : IntsAt (togW w V F s c cap g ss gc h st hc) st h.s := ht.below B0 (Nat.le_refl _)
  have HT := hideH (togetherG_wide V F s c cap g ss gc h st hc _ C0 I0 h1 h2 J0 h3 h4 hck hlen)
  clear hck hlen hcd hs ht P0 G0 H0 C0 I0 J0
  generalize wideSp g.sp h.sp = J at HT ⊢
  generalize sitesOf [g, h] = T at HT ⊢
  go_enter Tryz.func8, Tryz.ntmps8
  go_wp2_with (go_at_call 37; fail)
  refine HT.out.mono ?_
  rintro e w1 ⟨v, rfl, hown, hb1⟩
  have R1 := R0.call hb1
  have F1 : Fr7 w1 (w.heap.size + 1 + 1 + 1) := F0.call hb1
  have B1 : Below w.heap.size w w1 := B0.trans (hb1.mono B0.size)
  simp only [World.size_alloc] at hown
  have O1 := hown
  obtain ⟨vs, vc, rfl, -, -, -, -⟩ := IntsAt.own hown
  clear hb1 R0 F0 B0 HT hown
  obtain ⟨⟨r0, r1, r2, r3, r4, r5, r6⟩, rz⟩ := id R1
  simp only [Nat.zero_add, zeroG] at r0 r1 r2 r3 r4 r5 r6
  have fz := F1.1
  go_wp2
  refine bodyPost_ret (v := .tuple #[.agg #[.bool (g.n || h.n), .bool J.n, .int .i64 J.lo, .int .i64 J.hi, .bool (g.t || h.t), .bool (g.f || h.f), .slice vs T.length vc], .int .i64 0]) (by simp [results, Tryz.results8, go_sem, r0, r1, r2, r3, r4, r5, r6]) rfl ⟨_, rfl, ?_, ?_⟩
  · exact ownsRow_base (ownsRow_put7 O1 (by omega)) (by omega)
  · exact below_put7 B1 (by omega)

set_option maxHeartbeats 2000000 in
set_option maxRecDepth 10000 in
theorem wideG_err (V F : Int) (s : Option Addr) (c : List Ins) (cap : Nat) (g : Gs) (ss : Option Addr) (gc : Nat) (h : Gs) (st : Option Addr) (hc : Nat) (w : World)
    (hcd : CodeAt w s c) (hs : IntsAt w ss g.s) (h1 : g.s.length ≤ gc) (h2 : gc ≤ maxLen) (ht : IntsAt w st h.s) (h3 : h.s.length ≤ hc) (h4 : hc ≤ maxLen) (hck : ckAllG V F c [g, h] ≠ 0) :
    Calls Tryz.prog 8 #[pv V F s c cap, gv g ss gc, gv h st hc] w fun e w' => e = .returned (.tuple #[gv zeroG none 0, .int .i64 (ckAllG V F c [g, h])]) ∧ Below w.heap.size w w' := by
  obtain ⟨P0, G0, H0, R0, F0⟩ := togW_at w V F s c cap g ss gc h st hc
  have B0 := togW_below w V F s c cap g ss gc h st hc
  have C0 : CodeAt (togW w V F s c cap g ss gc h st hc) s c := hcd.below B0 (Nat.le_refl _)
  have I0 : IntsAt (togW w V F s c cap g ss gc h st hc) ss g.s := hs.below B0 (Nat.le_refl _)
  have J0 : IntsAt (togW w V F s c cap g ss gc h st hc) st h.s := ht.below B0 (Nat.le_refl _)
  have HT := hideH (togetherG_err 39 V F s c cap g ss gc h st hc _ C0 I0 h1 h2 J0 h3 h4 hck)
  clear hck hcd hs ht P0 G0 H0 C0 I0 J0
  generalize ckAllG V F c [g, h] = ce at HT ⊢
  go_enter Tryz.func8, Tryz.ntmps8
  go_wp2_with (go_at_call 37; fail)
  refine HT.out.mono ?_
  rintro e w1 ⟨rfl, hb1⟩
  have R1 := R0.call hb1
  have F1 : Fr7 w1 (w.heap.size + 1 + 1 + 1) := F0.call hb1
  have B1 : Below w.heap.size w w1 := B0.trans (hb1.mono B0.size)
  clear hb1 R0 F0 B0 HT
  obtain ⟨⟨r0, r1, r2, r3, r4, r5, r6⟩, rz⟩ := id R1
  simp only [Nat.zero_add, zeroG] at r0 r1 r2 r3 r4 r5 r6
  have fz := F1.1
  simp only [zeroG]
  go_wp2
  refine bodyPost_ret (v := .tuple #[gv zeroG none 0, .int .i64 ce]) (by simp [results, Tryz.results8, go_sem, r0, r1, r2, r3, r4, r5, r6, zeroG]) rfl ⟨rfl, ?_⟩
  exact below_put7 B1 (by omega)
end Go.Proofs.YtmapdpcfanecdaaGreat

namespace Go.Proofs.YtmapdpcfanecdaaGreat
set_option linter.unusedVariables false
set_option linter.unusedSimpArgs false
open Go.RowKit

theorem ret_t2 {a b c d : Bool} (h : a = c) (h' : b = d) : Ending.returned (.tuple #[.bool a, .bool b]) = .returned (.tuple #[.bool c, .bool d]) := by rw [h, h']

set_option maxHeartbeats 2000000 in
set_option maxRecDepth 10000 in
theorem truthG_any (g : Gs) (ss : Option Addr) (gc : Nat) (w : World) (hsp : ckSp g.sp = 0) :
    Calls Tryz.prog 46 #[gv g ss gc] w fun e w' => e = .returned (.tuple #[.bool (yesGs g), .bool (noGs g)]) ∧ Below w.heap.size w w' := by
  have hH := fun w => has_any g.sp 0 w
  rw [hsp, show (decide ((0 : Int) = 0) && g.sp.has 0) = g.sp.has 0 from rfl] at hH
  have HY : Hid (yesGs g = ((!g.sp.n && !decide (g.sp.lo = 0 ∧ g.sp.hi = 0)) || (g.t || decide (0 < g.s.length)))) := rfl
  have HN : Hid (noGs g = (g.sp.has 0 || (g.n || g.f))) := rfl
  generalize yesGs g = yy at *
  generalize noGs g = nn at *
  generalize g.sp.has 0 = z at *
  obtain ⟨n, ⟨sn, lo, hi⟩, t, f, s⟩ := g
  have G0 := GuAt.new w ⟨n, ⟨sn, lo, hi⟩, t, f, s⟩ ss gc
  go_enter Tryz.func46, Tryz.ntmps46
  go_wp2_with (go_at_call 45; fail)
  refine (hH _).mono ?_
  rintro e w1 ⟨rfl, hb1⟩
  have G1 := G0.call hb1
  have B1 : Below w.heap.size w w1 := Below.trans (by go_grown) (hb1.mono (by simp))
  obtain ⟨⟨g0, g1, g2, g3, g4, g5, g6⟩, gz⟩ := id G1
  simp only [Nat.zero_add] at g0 g1 g2 g3 g4 g5 g6
  clear G0 G1 hb1 hH hsp
  cases sn with
  | true =>
    go_wp2
    refine wp_region_quiet_lit (by kernel_rfl) (by kernel_rfl) ?_
    repeat (any_goals (first | go_big_quiet_step (fail) | quiet_step (fail) | (refine wpQuiet_step (fun K hK => ?_); go_simp; split <;> (refine hK _ ?_; clear hK K))))
    all_goals (refine wpQuiet_nil ?_; intro _ hw'; obtain ⟨nq, hw''⟩ := hw'; subst hw'')
    all_goals go_wp2
    all_goals go_ret2
    all_goals exact ⟨ret_t2 (by rw [HY.out]; simp_all) (by rw [HN.out]; simp_all), below_drewN B1 _⟩
  | false =>
    by_cases hz : lo = 0 ∧ hi = 0
    · obtain ⟨rfl, rfl⟩ := hz
      go_wp2
      refine wp_region_quiet_lit (by kernel_rfl) (by kernel_rfl) ?_
      repeat (any_goals (first | go_big_quiet_step (fail) | quiet_step (fail) | (refine wpQuiet_step (fun K hK => ?_); go_simp; split <;> (refine hK _ ?_; clear hK K))))
      all_goals (refine wpQuiet_nil ?_; intro _ hw'; obtain ⟨nq, hw''⟩ := hw'; subst hw'')
      all_goals go_wp2
      all_goals go_ret2
      all_goals exact ⟨ret_t2 (by rw [HY.out]; simp_all) (by rw [HN.out]; simp_all), below_drewN B1 _⟩
    · have HZ : Hid (decide (lo = 0 ∧ hi = 0) = false) := by show _ = _; simpa using hz
      have hm : yy = true := by rw [HY.out, HZ.out]; rfl
      subst hm
      clear HY
      by_cases h1 : lo = 0
      · subst h1
        have h2 : (hi == 0) = false := by simp only [beq_eq_false_iff_ne]; intro h; exact hz ⟨rfl, h⟩
        clear hz HZ
        go_wp2
        refine wp_region_quiet_lit (by kernel_rfl) (by kernel_rfl) ?_
        repeat (any_goals (first | go_big_quiet_step (fail) | quiet_step (fail) | (refine wpQuiet_step (fun K hK => ?_); go_simp; split <;> (refine hK _ ?_; clear hK K))))
        all_goals (refine wpQuiet_nil ?_; intro _ hw'; obtain ⟨nq, hw''⟩ := hw'; subst hw'')
        all_goals go_wp2
        all_goals go_ret2
        all_goals exact ⟨ret_t2 rfl (by rw [HN.out]; simp_all), below_drewN B1 _⟩
      · have h2 : (lo == 0) = false := by simpa using h1
        clear hz HZ
        go_wp2
        refine wp_region_quiet_lit (by kernel_rfl) (by kernel_rfl) ?_
        repeat (any_goals (first | go_big_quiet_step (fail) | quiet_step (fail) | (refine wpQuiet_step (fun K hK => ?_); go_simp; split <;> (refine hK _ ?_; clear hK K))))
        all_goals (refine wpQuiet_nil ?_; intro _ hw'; obtain ⟨nq, hw''⟩ := hw'; subst hw'')
        all_goals go_wp2
        all_goals go_ret2
        all_goals exact ⟨ret_t2 rfl (by rw [HN.out]; simp_all), below_drewN B1 _⟩

set_option maxHeartbeats 1000000 in
theorem more_any (x : Int) (q : Nat) (h : Gs) (ss : Option Addr) (gc : Nat) (w : World) (hg : GuAt w q 0 h ss gc) (hs : IntsAt w ss h.s) (hl : h.s.length ≤ 9223372036854775807) :
    Calls Tryz.prog 41 #[.int .i64 x, .pointer (some ⟨q, 0, none⟩)] w fun e w' => e = .returned (.bool (!h.s.contains x)) ∧ Below w.heap.size w w' := by
  obtain ⟨⟨g0, g1, g2, g3, g4, g5, g6⟩, gz⟩ := id hg
  simp only [Nat.zero_add] at g6
  go_enter Tryz.func41, Tryz.ntmps41
  go_wp2_with (go_at_call 42; fail)
  refine (containsI_any x ss gc h.s _ hl hs).mono ?_
  rintro e w1 ⟨rfl, rfl⟩
  go_wp2
  go_ret
  exact ⟨ret_bool (by simp), Below.refl _ _⟩

set_option maxHeartbeats 1000000 in
theorem common_any (x : Int) (q : Nat) (h : Gs) (ss : Option Addr) (gc : Nat) (w : World) (hg : GuAt w q 0 h ss gc) (hs : IntsAt w ss h.s) (hl : h.s.length ≤ 9223372036854775807) :
    Calls Tryz.prog 103 #[.int .i64 x, .pointer (some ⟨q, 0, none⟩)] w fun e w' => e = .returned (.bool (h.s.contains x)) ∧ Below w.heap.size w w' := by
  obtain ⟨⟨g0, g1, g2, g3, g4, g5, g6⟩, gz⟩ := id hg
  simp only [Nat.zero_add] at g6
  go_enter Tryz.func103, Tryz.ntmps103
  go_wp2_with (go_at_call 42; fail)
  refine (containsI_any x ss gc h.s _ hl hs).mono ?_
  rintro e w1 ⟨rfl, rfl⟩
  go_wp2
  go_ret
  exact ⟨ret_bool (by simp), Below.refl _ _⟩
end Go.Proofs.YtmapdpcfanecdaaGreat

namespace Go.Proofs.YtmapdpcfanecdaaGreat
set_option linter.unusedVariables false
set_option linter.unusedSimpArgs false
open Go.RowKit

set_option maxHeartbeats 1000000 in
set_option maxRecDepth 10000 in
theorem indexFunc_more (q : Nat) (p : Int → Bool) (ss : Option Addr) (cap : Nat) (l : List Int) (w : World) (hl : l.length ≤ 9223372036854775807) (hs : IntsAt w ss l)
    (hF : ∀ x wx, Below w.heap.size w wx → Calls Tryz.prog 41 #[.int .i64 x, .pointer (some ⟨q, 0, none⟩)] wx fun e w' => e = .returned (.bool (p x)) ∧ Below wx.heap.size wx w') :
    Calls Tryz.prog 89 #[.slice ss l.length cap, .func (.func 41) #[] #[.pointer (some ⟨q, 0, none⟩)]] w fun e w' => ∃ n : Int, e = .returned (.int .i64 n) ∧ decide (0 ≤ n) = l.any p ∧ Below w.heap.size w w' := by
  have HF := hideH hF
  clear hF
  go_enter Tryz.func89, Tryz.ntmps89
  go_wp2
  go_loopw [8] (fun i wr => ∃ k : Nat, k ≤ l.length ∧ i = .int .i64 k ∧ Below w.heap.size w wr ∧ Hid (l.any p = (l.drop k).any p)) (fun i _ => l.length - (intOf i).toNat)
  case atStart => exact ⟨0, Nat.zero_le _, rfl, Below.refl _ _, rfl⟩
  case round =>
    obtain ⟨k, hk, rfl, hbr, HA⟩ := hrel
    by_cases hlt : k < l.length
    · obtain ⟨b, off, rfl, hb, hc⟩ := hs.get k hlt
      have n0 : (0 : Int) ≤ (k : Int) := by omega
      have n1 : (k : Int) < (l.length : Int) := by omega
      have s0 := hbr.size
      have c0 : wr.cell? ⟨b, off + k, none⟩ = some (.int .i64 l[k]) := by rw [hbr.cell (by simpa using hb)]; exact hc k hlt
      have HN : Hid ((l.drop k).any p = (p l[k] || (l.drop (k + 1)).any p)) := any_drop_stepI l p k hlt
      clear hc hs
      go_wp2_with (go_at_call 41; fail)
      refine (HF.out _ _ hbr).mono ?_
      rintro e w1 ⟨rfl, hb1⟩
      cases hp : p l[k] with
      | true =>
        have HT : Hid (l.any p = true) := by show _ = _; rw [HA.out, HN.out, hp]; rfl
        clear HN HA
        go_wp2
        go_ret
        exact ⟨_, rfl, by rw [HT.out]; simp, hbr.trans (hb1.mono s0)⟩
      | false =>
        have HT : Hid (l.any p = (l.drop (k + 1)).any p) := by show _ = _; rw [HA.out, HN.out, hp]; rfl
        clear HN HA
        go_wp2
        go_roundw
        case rel => exact ⟨k + 1, by omega, by go_num, hbr.trans (hb1.mono s0), HT⟩
        case measure => simp [intOf]; omega
    · go_wp2
      go_ret
      exact ⟨_, rfl, by rw [HA.out, List.drop_eq_nil_of_le (by omega)]; rfl, hbr⟩

set_option maxHeartbeats 1000000 in
theorem containsFunc_more (q : Nat) (p : Int → Bool) (ss : Option Addr) (cap : Nat) (l : List Int) (w : World) (hl : l.length ≤ 9223372036854775807) (hs : IntsAt w ss l)
    (hF : ∀ x wx, Below w.heap.size w wx → Calls Tryz.prog 41 #[.int .i64 x, .pointer (some ⟨q, 0, none⟩)] wx fun e w' => e = .returned (.bool (p x)) ∧ Below wx.heap.size wx w') :
    Calls Tryz.prog 43 #[.slice ss l.length cap, .func (.func 41) #[] #[.pointer (some ⟨q, 0, none⟩)]] w fun e w' => e = .returned (.bool (l.any p)) ∧ Below w.heap.size w w' := by
  have HF := hideH hF
  clear hF
  go_enter Tryz.func43, Tryz.ntmps43
  go_wp2_with (go_at_call 89; fail)
  refine (indexFunc_more q p ss cap l _ hl hs HF.out).mono ?_
  rintro e w1 ⟨n, rfl, hn, hb1⟩
  go_wp2
  go_ret
  exact ⟨rfl, hb1⟩
end Go.Proofs.YtmapdpcfanecdaaGreat

namespace Go.Proofs.YtmapdpcfanecdaaGreat
set_option linter.unusedVariables false
set_option linter.unusedSimpArgs false
open Go.RowKit

set_option maxHeartbeats 1000000 in
set_option maxRecDepth 10000 in
theorem indexFunc_common (q : Nat) (p : Int → Bool) (ss : Option Addr) (cap : Nat) (l : List Int) (w : World) (hl : l.length ≤ 9223372036854775807) (hs : IntsAt w ss l)
    (hF : ∀ x wx, Below w.heap.size w wx → Calls Tryz.prog 103 #[.int .i64 x, .pointer (some ⟨q, 0, none⟩)] wx fun e w' => e = .returned (.bool (p x)) ∧ Below wx.heap.size wx w') :
    Calls Tryz.prog 89 #[.slice ss l.length cap, .func (.func 103) #[] #[.pointer (some ⟨q, 0, none⟩)]] w fun e w' => ∃ n : Int, e = .returned (.int .i64 n) ∧ decide (0 ≤ n) = l.any p ∧ Below w.heap.size w w' := by
  have HF := hideH hF
  clear hF
  go_enter Tryz.func89, Tryz.ntmps89
  go_wp2
  go_loopw [8] (fun i wr => ∃ k : Nat, k ≤ l.length ∧ i = .int .i64 k ∧ Below w.heap.size w wr ∧ Hid (l.any p = (l.drop k).any p)) (fun i _ => l.length - (intOf i).toNat)
  case atStart => exact ⟨0, Nat.zero_le _, rfl, Below.refl _ _, rfl⟩
  case round =>
    obtain ⟨k, hk, rfl, hbr, HA⟩ := hrel
    by_cases hlt : k < l.length
    · obtain ⟨b, off, rfl, hb, hc⟩ := hs.get k hlt
      have n0 : (0 : Int) ≤ (k : Int) := by omega
      have n1 : (k : Int) < (l.length : Int) := by omega
      have s0 := hbr.size
      have c0 : wr.cell? ⟨b, off + k, none⟩ = some (.int .i64 l[k]) := by rw [hbr.cell (by simpa using hb)]; exact hc k hlt
      have HN : Hid ((l.drop k).any p = (p l[k] || (l.drop (k + 1)).any p)) := any_drop_stepI l p k hlt
      clear hc hs
      go_wp2_with (go_at_call 103; fail)
      refine (HF.out _ _ hbr).mono ?_
      rintro e w1 ⟨rfl, hb1⟩
      cases hp : p l[k] with
      | true =>
        have HT : Hid (l.any p = true) := by show _ = _; rw [HA.out, HN.out, hp]; rfl
        clear HN HA
        go_wp2
        go_ret
        exact ⟨_, rfl, by rw [HT.out]; simp, hbr.trans (hb1.mono s0)⟩
      | false =>
        have HT : Hid (l.any p = (l.drop (k + 1)).any p) := by show _ = _; rw [HA.out, HN.out, hp]; rfl
        clear HN HA
        go_wp2
        go_roundw
        case rel => exact ⟨k + 1, by omega, by go_num, hbr.trans (hb1.mono s0), HT⟩
        case measure => simp [intOf]; omega
    · go_wp2
      go_ret
      exact ⟨_, rfl, by rw [HA.out, List.drop_eq_nil_of_le (by omega)]; rfl, hbr⟩

set_option maxHeartbeats 1000000 in
theorem containsFunc_common (q : Nat) (p : Int → Bool) (ss : Option Addr) (cap : Nat) (l : List Int) (w : World) (hl : l.length ≤ 9223372036854775807) (hs : IntsAt w ss l)
    (hF : ∀ x wx, Below w.heap.size w wx → Calls Tryz.prog 103 #[.int .i64 x, .pointer (some ⟨q, 0, none⟩)] wx fun e w' => e = .returned (.bool (p x)) ∧ Below wx.heap.size wx w') :
    Calls Tryz.prog 43 #[.slice ss l.length cap, .func (.func 103) #[] #[.pointer (some ⟨q, 0, none⟩)]] w fun e w' => e = .returned (.bool (l.any p)) ∧ Below w.heap.size w w' := by
  have HF := hideH hF
  clear hF
  go_enter Tryz.func43, Tryz.ntmps43
  go_wp2_with (go_at_call 89; fail)
  refine (indexFunc_common q p ss cap l _ hl hs HF.out).mono ?_
  rintro e w1 ⟨n, rfl, hn, hb1⟩
  go_wp2
  go_ret
  exact ⟨rfl, hb1⟩
end Go.Proofs.YtmapdpcfanecdaaGreat
