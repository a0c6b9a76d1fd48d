/- Walks over package guess: Check, Join, Widen. -/
import Derived.Test.YtmapdpcfanecdaaGreatKguxp28
import Derived.Test.YtmapdpcfanecdaaGreatKguxp29
namespace Go.Proofs.YtmapdpcfanecdaaGreat
set_option linter.unusedVariables false
set_option linter.unusedSimpArgs false
open Go.RowKit

set_option maxHeartbeats 1000000 in
theorem checkG_any (V F : Int) (s : Option Addr) (c : List Ins) (cap : Nat) (g : Gs) (ss : Option Addr) (gc : Nat) (w : World) (hcd : CodeAt w s c) (hs : IntsAt w ss g.s) (h1 : g.s.length ≤ gc) (h2 : gc ≤ maxLen) :
    Calls Tryz.prog 18 #[pv V F s c cap, gv g ss gc] w fun e w' => e = .returned (.int .i64 (ckAllG V F c [g])) ∧ Below w.heap.size w w' := by
  have B0 : Below w.heap.size w (pgW w V F s c cap g ss gc) := by go_grown
  have L0 := GsAt.new1 (pgW w V F s c cap g ss gc) g ss gc ((hs.alloc _).alloc _) h1 h2
  simp only [World.size_alloc] at L0
  have HC := hideH (checkAllG_any V F s c cap (some ⟨w.heap.size + 1 + 1, 0, none⟩) [g] 1 _ (((hcd.alloc _).alloc _).alloc _) L0 (by simp))
  generalize ckAllG V F c [g] = ce at HC ⊢
  clear hcd hs L0
  go_enter Tryz.func18, Tryz.ntmps18
  go_wp2_with (go_at_call 40; fail)
  refine HC.out.mono ?_
  rintro e w1 ⟨rfl, hb1⟩
  go_wp2
  go_ret
  exact ⟨rfl, (B0.alloc B0.size _).trans (hb1.mono (by simp; omega))⟩

set_option maxHeartbeats 2000000 in
set_option maxRecDepth 10000 in
theorem joinG_ok (V F : Int) (s : Option Addr) (c : List Ins) (cap : Nat) (g : Gs) (ss : Option Addr) (gc : Nat) (h : Gs) (st : Option Addr) (hc : Nat) (w : World)
    (hcd : CodeAt w s c) (hs : IntsAt w ss g.s) (h1 : g.s.length ≤ gc) (h2 : gc ≤ maxLen) (ht : IntsAt w st h.s) (h3 : h.s.length ≤ hc) (h4 : hc ≤ maxLen) (hck : ckAllG V F c [g, h] = 0) (hlen : ([g, h].flatMap Gs.s).length ≤ 1000000) :
    Calls Tryz.prog 7 #[pv V F s c cap, gv g ss gc, gv h st hc] w fun e w' => ∃ v, e = .returned (.tuple #[.agg #[.bool (g.n || h.n), .bool (joinSp g.sp h.sp).n, .int .i64 (joinSp g.sp h.sp).lo, .int .i64 (joinSp g.sp h.sp).hi, .bool (g.t || h.t), .bool (g.f || h.f), v], .int .i64 0]) ∧ w'.ownsRow w.heap.size 3 1 v (sitesOf [g, h]).length ((sitesOf [g, h]).map (.int .i64)) ∧ Below w.heap.size w w' := by
  obtain ⟨P0, G0, H0, R0, F0⟩ := togW_at w V F s c cap g ss gc h st hc
  have B0 := togW_below w V F s c cap g ss gc h st hc
  have C0 : CodeAt (togW w V F s c cap g ss gc h st hc) s c := hcd.below B0 (Nat.le_refl _)
  have I0 : IntsAt (togW w V F s c cap g ss gc h st hc) ss g.s := hs.below B0 (Nat.le_refl _)
  have J0 : IntsAt (togW w V F s c cap g ss gc h st hc) st h.s := ht.below B0 (Nat.le_refl _)
  have HT := hideH (togetherG_join V F s c cap g ss gc h st hc _ C0 I0 h1 h2 J0 h3 h4 hck hlen)
  clear hck hlen hcd hs ht P0 G0 H0 C0 I0 J0
  generalize joinSp g.sp h.sp = J at HT ⊢
  generalize sitesOf [g, h] = T at HT ⊢
  go_enter Tryz.func7, Tryz.ntmps7
  go_wp2_with (go_at_call 37; fail)
  refine HT.out.mono ?_
  rintro e w1 ⟨v, rfl, hown, hb1⟩
  have R1 := R0.call hb1
  have F1 : Fr7 w1 (w.heap.size + 1 + 1 + 1) := F0.call hb1
  have B1 : Below w.heap.size w w1 := B0.trans (hb1.mono B0.size)
  simp only [World.size_alloc] at hown
  have O1 := hown
  obtain ⟨vs, vc, rfl, -, -, -, -⟩ := IntsAt.own hown
  clear hb1 R0 F0 B0 HT hown
  obtain ⟨⟨r0, r1, r2, r3, r4, r5, r6⟩, rz⟩ := id R1
  simp only [Nat.zero_add, zeroG] at r0 r1 r2 r3 r4 r5 r6
  have fz := F1.1
  go_wp2
  refine bodyPost_ret (v := .tuple #[.agg #[.bool (g.n || h.n), .bool J.n, .int .i64 J.lo, .int .i64 J.hi, .bool (g.t || h.t), .bool (g.f || h.f), .slice vs T.length vc], .int .i64 0]) (by simp [results, Tryz.results7, go_sem, r0, r1, r2, r3, r4, r5, r6]) rfl ⟨_, rfl, ?_, ?_⟩
  · exact ownsRow_base (ownsRow_put7 O1 (by omega)) (by omega)
  · exact below_put7 B1 (by omega)

set_option maxHeartbeats 2000000 in
set_option maxRecDepth 10000 in
theorem joinG_err (V F : Int) (s : Option Addr) (c : List Ins) (cap : Nat) (g : Gs) (ss : Option Addr) (gc : Nat) (h : Gs) (st : Option Addr) (hc : Nat) (w : World)
    (hcd : CodeAt w s c) (hs : IntsAt w ss g.s) (h1 : g.s.length ≤ gc) (h2 : gc ≤ maxLen) (ht : IntsAt w st h.s) (h3 : h.s.length ≤ hc) (h4 : hc ≤ maxLen) (hck : ckAllG V F c [g, h] ≠ 0) :
    Calls Tryz.prog 7 #[pv V F s c cap, gv g ss gc, gv h st hc] w fun e w' => e = .returned (.tuple #[gv zeroG none 0, .int .i64 (ckAllG V F c [g, h])]) ∧ Below w.heap.size w w' := by
  obtain ⟨P0, G0, H0, R0, F0⟩ := togW_at w V F s c cap g ss gc h st hc
  have B0 := togW_below w V F s c cap g ss gc h st hc
  have C0 : CodeAt (togW w V F s c cap g ss gc h st hc) s c := hcd.below B0 (Nat.le_refl _)
  have I0 : IntsAt (togW w V F s c cap g ss gc h st hc) ss g.s := hs.below B0 (Nat.le_refl _)
  have J0 : IntsAt (togW w V F s c cap g ss gc h st hc) st h.s := ht.below B0 (Nat.le_refl _)
  have HT := hideH (togetherG_err 38 V F s c cap g ss gc h st hc _ C0 I0 h1 h2 J0 h3 h4 hck)
  clear hck hcd hs ht P0 G0 H0 C0 I0 J0
  generalize ckAllG V F c [g, h] = ce at HT ⊢
  go_enter Tryz.func7, Tryz.ntmps7
  go_wp2_with (go_at_call 37; fail)
  refine HT.out.mono ?_
  rintro e w1 ⟨rfl, hb1⟩
  have R1 := R0.call hb1
  have F1 : Fr7 w1 (w.heap.size + 1 + 1 + 1) := F0.call hb1
  have B1 : Below w.heap.size w w1 := B0.trans (hb1.mono B0.size)
  clear hb1 R0 F0 B0 HT
  obtain ⟨⟨r0, r1, r2, r3, r4, r5, r6⟩, rz⟩ := id R1
  simp only [Nat.zero_add, zeroG] at r0 r1 r2 r3 r4 r5 r6
  have fz := F1.1
  simp only [zeroG]
  go_wp2
  refine bodyPost_ret (v := .tuple #[gv zeroG none 0, .int .i64 ce]) (by simp [results, Tryz.results7, go_sem, r0, r1, r2, r3, r4, r5, r6, zeroG]) rfl ⟨rfl, ?_⟩
  exact below_put7 B1 (by omega)

set_option maxHeartbeats 2000000 in
set_option maxRecDepth 10000 in
theorem wideG_ok (V F : Int) (s : Option Addr) (c : List Ins) (cap : Nat) (g : Gs) (ss : Option Addr) (gc : Nat) (h : Gs) (st : Option Addr) (hc : Nat) (w : World)
    (hcd : CodeAt w s c) (hs : IntsAt w ss g.s) (h1 : g.s.length ≤ gc) (h2 : gc ≤ maxLen) (ht : IntsAt w st h.s) (h3 : h.s.length ≤ hc) (h4 : hc ≤ maxLen) (hck : ckAllG V F c [g, h] = 0) (hlen : ([g, h].flatMap Gs.s).length ≤ 1000000) :
    Calls Tryz.prog 8 #[pv V F s c cap, gv g ss gc, gv h st hc] w fun e w' => ∃ v, e = .returned (.tuple #[.agg #[.bool (g.n || h.n), .bool (wideSp g.sp h.sp).n, .int .i64 (wideSp g.sp h.sp).lo, .int .i64 (wideSp g.sp h.sp).hi, .bool (g.t || h.t), .bool (g.f || h.f), v], .int .i64 0]) ∧ w'.ownsRow w.heap.size 3 1 v (sitesOf [g, h]).length ((sitesOf [g, h]).map (.int .i64)) ∧ Below w.heap.size w w' := by
  obtain ⟨P0, G0, H0, R0, F0⟩ := togW_at w V F s c cap g ss gc h st hc
  have B0 := togW_below w V F s c cap g ss gc h st hc
  have C0 : CodeAt (togW w V F s c cap g ss gc h st hc) s c := hcd.below B0 (Nat.le_refl _)
  have I0 : IntsAt (togW w V F s c cap g ss gc h st hc) ss g.s := hs.below B0 (Nat.le_refl _)
  have J0 : IntsAt (togW w V F s c cap g ss gc h st hc) st h.s := ht.below B0 (Nat.le_refl _)
  have HT := hideH (togetherG_wide V F s c cap g ss gc h st hc _ C0 I0 h1 h2 J0 h3 h4 hck hlen)
  clear hck hlen hcd hs ht P0 G0 H0 C0 I0 J0
  generalize wideSp g.sp h.sp = J at HT ⊢
  generalize sitesOf [g, h] = T at HT ⊢
  go_enter Tryz.func8, Tryz.ntmps8
  go_wp2_with (go_at_call 37; fail)
  refine HT.out.mono ?_
  rintro e w1 ⟨v, rfl, hown, hb1⟩
  have R1 := R0.call hb1
  have F1 : Fr7 w1 (w.heap.size + 1 + 1 + 1) := F0.call hb1
  have B1 : Below w.heap.size w w1 := B0.trans (hb1.mono B0.size)
  simp only [World.size_alloc] at hown
  have O1 := hown
  obtain ⟨vs, vc, rfl, -, -, -, -⟩ := IntsAt.own hown
  clear hb1 R0 F0 B0 HT hown
  obtain ⟨⟨r0, r1, r2, r3, r4, r5, r6⟩, rz⟩ := id R1
  simp only [Nat.zero_add, zeroG] at r0 r1 r2 r3 r4 r5 r6
  have fz := F1.1
  go_wp2
  refine bodyPost_ret (v := .tuple #[.agg #[.bool (g.n || h.n), .bool J.n, .int .i64 J.lo, .int .i64 J.hi, .bool (g.t || h.t), .bool (g.f || h.f), .slice vs T.length vc], .int .i64 0]) (by simp [results, Tryz.results8, go_sem, r0, r1, r2, r3, r4, r5, r6]) rfl ⟨_, rfl, ?_, ?_⟩
  · exact ownsRow_base (ownsRow_put7 O1 (by omega)) (by omega)
  · exact below_put7 B1 (by omega)

set_option maxHeartbeats 2000000 in
set_option maxRecDepth 10000 in
theorem wideG_err (V F : Int) (s : Option Addr) (c : List Ins) (cap : Nat) (g : Gs) (ss : Option Addr) (gc : Nat) (h : Gs) (st : Option Addr) (hc : Nat) (w : World)
    (hcd : CodeAt w s c) (hs : IntsAt w ss g.s) (h1 : g.s.length ≤ gc) (h2 : gc ≤ maxLen) (ht : IntsAt w st h.s) (h3 : h.s.length ≤ hc) (h4 : hc ≤ maxLen) (hck : ckAllG V F c [g, h] ≠ 0) :
    Calls Tryz.prog 8 #[pv V F s c cap, gv g ss gc, gv h st hc] w fun e w' => e = .returned (.tuple #[gv zeroG none 0, .int .i64 (ckAllG V F c [g, h])]) ∧ Below w.heap.size w w' := by
  obtain ⟨P0, G0, H0, R0, F0⟩ := togW_at w V F s c cap g ss gc h st hc
  have B0 := togW_below w V F s c cap g ss gc h st hc
  have C0 : CodeAt (togW w V F s c cap g ss gc h st hc) s c := hcd.below B0 (Nat.le_refl _)
  have I0 : IntsAt (togW w V F s c cap g ss gc h st hc) ss g.s := hs.below B0 (Nat.le_refl _)
  have J0 : IntsAt (togW w V F s c cap g ss gc h st hc) st h.s := ht.below B0 (Nat.le_refl _)
  have HT := hideH (togetherG_err 39 V F s c cap g ss gc h st hc _ C0 I0 h1 h2 J0 h3 h4 hck)
  clear hck hcd hs ht P0 G0 H0 C0 I0 J0
  generalize ckAllG V F c [g, h] = ce at HT ⊢
  go_enter Tryz.func8, Tryz.ntmps8
  go_wp2_with (go_at_call 37; fail)
  refine HT.out.mono ?_
  rintro e w1 ⟨rfl, hb1⟩
  have R1 := R0.call hb1
  have F1 : Fr7 w1 (w.heap.size + 1 + 1 + 1) := F0.call hb1
  have B1 : Below w.heap.size w w1 := B0.trans (hb1.mono B0.size)
  clear hb1 R0 F0 B0 HT
  obtain ⟨⟨r0, r1, r2, r3, r4, r5, r6⟩, rz⟩ := id R1
  simp only [Nat.zero_add, zeroG] at r0 r1 r2 r3 r4 r5 r6
  have fz := F1.1
  simp only [zeroG]
  go_wp2
  refine bodyPost_ret (v := .tuple #[gv zeroG none 0, .int .i64 ce]) (by simp [results, Tryz.results8, go_sem, r0, r1, r2, r3, r4, r5, r6, zeroG]) rfl ⟨rfl, ?_⟩
  exact below_put7 B1 (by omega)
end Go.Proofs.YtmapdpcfanecdaaGreat
