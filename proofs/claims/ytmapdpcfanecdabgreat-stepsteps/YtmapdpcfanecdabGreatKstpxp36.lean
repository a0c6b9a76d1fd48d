/- Walks over package guess: Do: copy. -/
import Derived.Test.YtmapdpcfanecdabGreatKstpxp13
import Derived.Test.YtmapdpcfanecdabGreatKstpxp15
import Derived.Test.YtmapdpcfanecdabGreatKstpxp35
import Derived.Test.YtmapdpcfanecdabGreatKstpxp18
set_option linter.unusedSimpArgs false
set_option linter.unusedVariables false
namespace Go.Proofs.YtmapdpcfanecdabGreat
section
set_option maxHeartbeats 2000000
set_option maxRecDepth 10000
open Go.RowKit

theorem doG_err (V F : Int) (s : Option Addr) (c : List Ins) (cap : Nat) (g : Gs) (ss : Option Addr) (gc : Nat) (h : Gs) (st : Option Addr) (hc : Nat) (kind : Int) (w : World)
  (hcd : CodeAt w s c) (hs : IntsAt w ss g.s) (h1 : g.s.length ≤ gc) (h2 : gc ≤ maxLen) (ht : IntsAt w st h.s) (h3 : h.s.length ≤ hc) (h4 : hc ≤ maxLen) (hck : ckAllG V F c [g, h] ≠ 0) :
  Calls Tryz.prog 92 #[pv V F s c cap, .int .i64 kind, gv g ss gc, gv h st hc] w fun e w' => e = .returned (.tuple #[gv zeroG none 0, .bool false, .int .i64 (ckAllG V F c [g, h])]) ∧ Below w.heap.size w w' := by
 obtain ⟨P0, G0, H0, R0, F0⟩ := togW_at w V F s c cap g ss gc h st hc
 have B0 := togW_below w V F s c cap g ss gc h st hc
 have C0 : CodeAt (togW w V F s c cap g ss gc h st hc) s c := hcd.below B0 (Nat.le_refl _)
 have I0 : IntsAt (togW w V F s c cap g ss gc h st hc) ss g.s := hs.below B0 (Nat.le_refl _)
 have J0 : IntsAt (togW w V F s c cap g ss gc h st hc) st h.s := ht.below B0 (Nat.le_refl _)
 have L0 := GsAt.new2 (togW w V F s c cap g ss gc h st hc) g ss gc h st hc I0 h1 h2 J0 h3 h4
 simp only [World.size_alloc] at L0
 have HC := hideH (checkAllG_any V F s c cap (some ⟨w.heap.size + 1 + 1 + 1 + 1, 0, none⟩) [g, h] 2 _ (C0.alloc _) L0 (by simp))
 have hne : (ckAllG V F c [g, h] != 0) = true := by simpa using hck
 generalize ckAllG V F c [g, h] = ce at HC hne ⊢
 clear hck
 go_enter Tryz.func92, Tryz.ntmps92
 go_wp2_with (go_at_call 114; fail)
 refine HC.out.mono ?_
 rintro e w1 ⟨rfl, hb1⟩
 have G1 := (G0.alloc _).call hb1
 have H1 := (H0.alloc _).call hb1
 have R1 := (R0.alloc _).call hb1
 have I1 := (I0.alloc _).call hb1
 have J1 := (J0.alloc _).call hb1
 have F1 : Fr7 w1 (w.heap.size + 1 + 1 + 1) := (F0.alloc _).call hb1
 have B1 : Below w.heap.size w w1 := (B0.alloc B0.size _).trans (hb1.mono (by simp; omega))
 clear hb1 G0 H0 R0 I0 J0 F0 B0 C0 P0 L0 hcd hs ht HC
 obtain ⟨⟨g0, g1, g2, g3, g4, g5, g6⟩, gz⟩ := id G1
 obtain ⟨⟨k0, k1, k2, k3, k4, k5, k6⟩, kz⟩ := id H1
 simp only [Nat.zero_add] at g0 g1 g2 g3 g4 g5 g6 k0 k1 k2 k3 k4 k5 k6
 obtain ⟨⟨r0, r1, r2, r3, r4, r5, r6⟩, rz⟩ := id R1
 simp only [Nat.zero_add, zeroG] at r0 r1 r2 r3 r4 r5 r6
 have fz := F1.1
 go_wp2
 refine bodyPost_ret (v := .tuple #[gv zeroG none 0, .bool false, .int .i64 ce]) (by simp [results, Tryz.results92, go_sem, r0, r1, r2, r3, r4, r5, r6, zeroG]) rfl ⟨rfl, ?_⟩
 exact below_put7 B1 (by omega)

theorem doG_kind (V F : Int) (s : Option Addr) (c : List Ins) (cap : Nat) (g : Gs) (ss : Option Addr) (gc : Nat) (h : Gs) (st : Option Addr) (hc : Nat) (kind : Int) (w : World)
  (hcd : CodeAt w s c) (hs : IntsAt w ss g.s) (h1 : g.s.length ≤ gc) (h2 : gc ≤ maxLen) (ht : IntsAt w st h.s) (h3 : h.s.length ≤ hc) (h4 : hc ≤ maxLen) (hck : ckAllG V F c [g, h] = 0) (hk4 : (kind == 4) = false) (hk5 : (kind == 5) = false) (hk6 : (kind == 6) = false) (hk7 : (kind == 7) = false) (hk8 : (kind == 8) = false) (hk9 : (kind == 9) = false) (hk10 : (kind == 10) = false) :
  Calls Tryz.prog 92 #[pv V F s c cap, .int .i64 kind, gv g ss gc, gv h st hc] w fun e w' => e = .returned (.tuple #[gv zeroG none 0, .bool false, .int .i64 6]) ∧ Below w.heap.size w w' := by
 obtain ⟨P0, G0, H0, R0, F0⟩ := togW_at w V F s c cap g ss gc h st hc
 have B0 := togW_below w V F s c cap g ss gc h st hc
 have C0 : CodeAt (togW w V F s c cap g ss gc h st hc) s c := hcd.below B0 (Nat.le_refl _)
 have I0 : IntsAt (togW w V F s c cap g ss gc h st hc) ss g.s := hs.below B0 (Nat.le_refl _)
 have J0 : IntsAt (togW w V F s c cap g ss gc h st hc) st h.s := ht.below B0 (Nat.le_refl _)
 have L0 := GsAt.new2 (togW w V F s c cap g ss gc h st hc) g ss gc h st hc I0 h1 h2 J0 h3 h4
 simp only [World.size_alloc] at L0
 have HC := hideH (checkAllG_any V F s c cap (some ⟨w.heap.size + 1 + 1 + 1 + 1, 0, none⟩) [g, h] 2 _ (C0.alloc _) L0 (by simp))
 rw [hck] at HC
 go_enter Tryz.func92, Tryz.ntmps92
 go_wp2_with (go_at_call 114; fail)
 refine HC.out.mono ?_
 rintro e w1 ⟨rfl, hb1⟩
 have G1 := (G0.alloc _).call hb1
 have H1 := (H0.alloc _).call hb1
 have R1 := (R0.alloc _).call hb1
 have I1 := (I0.alloc _).call hb1
 have J1 := (J0.alloc _).call hb1
 have F1 : Fr7 w1 (w.heap.size + 1 + 1 + 1) := (F0.alloc _).call hb1
 have B1 : Below w.heap.size w w1 := (B0.alloc B0.size _).trans (hb1.mono (by simp; omega))
 clear hb1 G0 H0 R0 I0 J0 F0 B0 C0 P0 L0 hcd hs ht HC
 obtain ⟨⟨g0, g1, g2, g3, g4, g5, g6⟩, gz⟩ := id G1
 obtain ⟨⟨k0, k1, k2, k3, k4, k5, k6⟩, kz⟩ := id H1
 simp only [Nat.zero_add] at g0 g1 g2 g3 g4 g5 g6 k0 k1 k2 k3 k4 k5 k6
 obtain ⟨⟨r0, r1, r2, r3, r4, r5, r6⟩, rz⟩ := id R1
 simp only [Nat.zero_add, zeroG] at r0 r1 r2 r3 r4 r5 r6
 have fz := F1.1
 go_wp2
 refine bodyPost_ret (v := .tuple #[gv zeroG none 0, .bool false, .int .i64 6]) (by simp [results, Tryz.results92, go_sem, r0, r1, r2, r3, r4, r5, r6, zeroG]) rfl ⟨rfl, ?_⟩
 exact below_put7 B1 (by omega)

theorem doG_9 (V F : Int) (s : Option Addr) (c : List Ins) (cap : Nat) (g : Gs) (ss : Option Addr) (gc : Nat) (h : Gs) (st : Option Addr) (hc : Nat) (w : World)
  (hcd : CodeAt w s c) (hs : IntsAt w ss g.s) (h1 : g.s.length ≤ gc) (h2 : gc ≤ maxLen) (ht : IntsAt w st h.s) (h3 : h.s.length ≤ hc) (h4 : hc ≤ maxLen) (hck : ckAllG V F c [g, h] = 0) (y n : Bool) (hS : ∀ wx, Below w.heap.size w wx → Calls Tryz.prog 124 #[gv g ss gc, gv h st hc] wx fun e w' => e = .returned (.tuple #[.bool y, .bool n]) ∧ Below wx.heap.size wx w') :
  Calls Tryz.prog 92 #[pv V F s c cap, .int .i64 9, gv g ss gc, gv h st hc] w fun e w' => e = .returned (.tuple #[gv ⟨false, ⟨true, 0, 0⟩, y, n, []⟩ none 0, .bool false, .int .i64 0]) ∧ Below w.heap.size w w' := by
 obtain ⟨P0, G0, H0, R0, F0⟩ := togW_at w V F s c cap g ss gc h st hc
 have B0 := togW_below w V F s c cap g ss gc h st hc
 have C0 : CodeAt (togW w V F s c cap g ss gc h st hc) s c := hcd.below B0 (Nat.le_refl _)
 have I0 : IntsAt (togW w V F s c cap g ss gc h st hc) ss g.s := hs.below B0 (Nat.le_refl _)
 have J0 : IntsAt (togW w V F s c cap g ss gc h st hc) st h.s := ht.below B0 (Nat.le_refl _)
 have L0 := GsAt.new2 (togW w V F s c cap g ss gc h st hc) g ss gc h st hc I0 h1 h2 J0 h3 h4
 simp only [World.size_alloc] at L0
 have HC := hideH (checkAllG_any V F s c cap (some ⟨w.heap.size + 1 + 1 + 1 + 1, 0, none⟩) [g, h] 2 _ (C0.alloc _) L0 (by simp))
 rw [hck] at HC
 have HS := hideH hS
 clear hS
 go_enter Tryz.func92, Tryz.ntmps92
 go_wp2_with (go_at_call 114; fail)
 refine HC.out.mono ?_
 rintro e w1 ⟨rfl, hb1⟩
 have G1 := (G0.alloc _).call hb1
 have H1 := (H0.alloc _).call hb1
 have R1 := (R0.alloc _).call hb1
 have I1 := (I0.alloc _).call hb1
 have J1 := (J0.alloc _).call hb1
 have F1 : Fr7 w1 (w.heap.size + 1 + 1 + 1) := (F0.alloc _).call hb1
 have B1 : Below w.heap.size w w1 := (B0.alloc B0.size _).trans (hb1.mono (by simp; omega))
 clear hb1 G0 H0 R0 I0 J0 F0 B0 C0 P0 L0 hcd hs ht HC
 obtain ⟨⟨g0, g1, g2, g3, g4, g5, g6⟩, gz⟩ := id G1
 obtain ⟨⟨k0, k1, k2, k3, k4, k5, k6⟩, kz⟩ := id H1
 simp only [Nat.zero_add] at g0 g1 g2 g3 g4 g5 g6 k0 k1 k2 k3 k4 k5 k6
 go_wp2_with (go_at_call 124; fail)
 refine (HS.out _ B1).mono ?_
 rintro e w2 ⟨rfl, hb2⟩
 have R2 := R1.call hb2
 have F2 := F1.call hb2
 have B2 := B1.trans (hb2.mono B1.size)
 clear hb2
 go_wp2_with (go_at_call 122; fail)
 refine (truths_any _ _ _).mono ?_
 rintro e w3 ⟨rfl, hb3⟩
 have R3 := R2.call hb3
 have F3 := F2.call hb3
 have B3 := B2.trans (hb3.mono B2.size)
 clear hb3
 obtain ⟨⟨r0, r1, r2, r3, r4, r5, r6⟩, rz⟩ := id R3
 simp only [Nat.zero_add, zeroG] at r0 r1 r2 r3 r4 r5 r6
 have fz := F3.1
 go_wp2
 refine bodyPost_ret (v := .tuple #[gv ⟨false, ⟨true, 0, 0⟩, y, n, []⟩ none 0, .bool false, .int .i64 0]) (by simp [results, Tryz.results92, go_sem, r0, r1, r2, r3, r4, r5, r6]) rfl ⟨rfl, ?_⟩
 exact below_put7 B3 (by omega)

theorem doG_10 (V F : Int) (s : Option Addr) (c : List Ins) (cap : Nat) (g : Gs) (ss : Option Addr) (gc : Nat) (h : Gs) (st : Option Addr) (hc : Nat) (w : World)
  (hcd : CodeAt w s c) (hs : IntsAt w ss g.s) (h1 : g.s.length ≤ gc) (h2 : gc ≤ maxLen) (ht : IntsAt w st h.s) (h3 : h.s.length ≤ hc) (h4 : hc ≤ maxLen) (hck : ckAllG V F c [g, h] = 0) (hsp : ckSp g.sp = 0) :
  Calls Tryz.prog 92 #[pv V F s c cap, .int .i64 10, gv g ss gc, gv h st hc] w fun e w' => e = .returned (.tuple #[gv ⟨false, ⟨true, 0, 0⟩, noGs g, yesGs g, []⟩ none 0, .bool false, .int .i64 0]) ∧ Below w.heap.size w w' := by
 obtain ⟨P0, G0, H0, R0, F0⟩ := togW_at w V F s c cap g ss gc h st hc
 have B0 := togW_below w V F s c cap g ss gc h st hc
 have C0 : CodeAt (togW w V F s c cap g ss gc h st hc) s c := hcd.below B0 (Nat.le_refl _)
 have I0 : IntsAt (togW w V F s c cap g ss gc h st hc) ss g.s := hs.below B0 (Nat.le_refl _)
 have J0 : IntsAt (togW w V F s c cap g ss gc h st hc) st h.s := ht.below B0 (Nat.le_refl _)
 have L0 := GsAt.new2 (togW w V F s c cap g ss gc h st hc) g ss gc h st hc I0 h1 h2 J0 h3 h4
 simp only [World.size_alloc] at L0
 have HC := hideH (checkAllG_any V F s c cap (some ⟨w.heap.size + 1 + 1 + 1 + 1, 0, none⟩) [g, h] 2 _ (C0.alloc _) L0 (by simp))
 rw [hck] at HC
 have HS := hideH (fun w => truthG_any g ss gc w hsp)
 generalize yesGs g = y at HS ⊢
 generalize noGs g = n at HS ⊢
 clear hsp
 go_enter Tryz.func92, Tryz.ntmps92
 go_wp2_with (go_at_call 114; fail)
 refine HC.out.mono ?_
 rintro e w1 ⟨rfl, hb1⟩
 have G1 := (G0.alloc _).call hb1
 have H1 := (H0.alloc _).call hb1
 have R1 := (R0.alloc _).call hb1
 have I1 := (I0.alloc _).call hb1
 have J1 := (J0.alloc _).call hb1
 have F1 : Fr7 w1 (w.heap.size + 1 + 1 + 1) := (F0.alloc _).call hb1
 have B1 : Below w.heap.size w w1 := (B0.alloc B0.size _).trans (hb1.mono (by simp; omega))
 clear hb1 G0 H0 R0 I0 J0 F0 B0 C0 P0 L0 hcd hs ht HC
 obtain ⟨⟨g0, g1, g2, g3, g4, g5, g6⟩, gz⟩ := id G1
 obtain ⟨⟨k0, k1, k2, k3, k4, k5, k6⟩, kz⟩ := id H1
 simp only [Nat.zero_add] at g0 g1 g2 g3 g4 g5 g6 k0 k1 k2 k3 k4 k5 k6
 go_wp2_with (go_at_call 115; fail)
 refine (HS.out _).mono ?_
 rintro e w2 ⟨rfl, hb2⟩
 have R2 := R1.call hb2
 have F2 := F1.call hb2
 have B2 := B1.trans (hb2.mono B1.size)
 clear hb2
 go_wp2_with (go_at_call 122; fail)
 refine (truths_any _ _ _).mono ?_
 rintro e w3 ⟨rfl, hb3⟩
 have R3 := R2.call hb3
 have F3 := F2.call hb3
 have B3 := B2.trans (hb3.mono B2.size)
 clear hb3
 obtain ⟨⟨r0, r1, r2, r3, r4, r5, r6⟩, rz⟩ := id R3
 simp only [Nat.zero_add, zeroG] at r0 r1 r2 r3 r4 r5 r6
 have fz := F3.1
 go_wp2
 refine bodyPost_ret (v := .tuple #[gv ⟨false, ⟨true, 0, 0⟩, n, y, []⟩ none 0, .bool false, .int .i64 0]) (by simp [results, Tryz.results92, go_sem, r0, r1, r2, r3, r4, r5, r6]) rfl ⟨rfl, ?_⟩
 exact below_put7 B3 (by omega)
end
section
set_option maxHeartbeats 2000000
set_option maxRecDepth 10000
open Go.RowKit

theorem cloneI_any (ss : Option Addr) (cap : Nat) (l : List Int) (w : World) (hl : l.length ≤ 1000000) (hs : IntsAt w ss l) :
  Calls Tryz.prog 125 #[.slice ss l.length cap] w fun e w' => ∃ v, e = .returned v ∧ w'.ownsRow w.heap.size 3 1 v l.length (l.map (.int .i64)) ∧ Below w.heap.size w w' := by
 cases ss with
 | none =>
  have h0 : l = [] := by
   rcases hs with h | ⟨_, _, h, _⟩
   ·exact h
   ·cases h
  subst h0
  refine (Tryz.slices_Clone_int_nil _ _ _).mono ?_
  rintro e w' ⟨rfl, rfl⟩
  exact ⟨_, rfl, ⟨rfl, .inl ⟨rfl, rfl⟩⟩, Below.refl _ _⟩
 | some a =>
  by_cases h0 : l = []
  ·subst h0
   refine (Tryz.slices_Clone_int_zero a cap w).mono ?_
   rintro e w' ⟨v, rfl, ho, -, hb⟩
   exact ⟨_, rfl, ho, hb⟩
  ·obtain ⟨b, off, e, hb, hc⟩ := hs.get 0 (List.length_pos_iff.2 h0)
   cases e
   refine (Tryz.slices_Clone_int b off l.length cap l w (Nat.le_refl _) (by omega) (fun j hj => ?_)).mono ?_
   ·rw [hc j hj]
    simp [List.getD, List.getElem?_eq_getElem hj]
   ·rintro e w' ⟨v, rfl, ho, -, hb'⟩
    rw [List.take_length] at ho
    exact ⟨_, rfl, ho, hb'⟩

theorem doG_4 (V F : Int) (s : Option Addr) (c : List Ins) (cap : Nat) (g : Gs) (ss : Option Addr) (gc : Nat) (h : Gs) (st : Option Addr) (hc : Nat) (w : World)
  (hcd : CodeAt w s c) (hs : IntsAt w ss g.s) (h1 : g.s.length ≤ gc) (h2 : gc ≤ maxLen) (ht : IntsAt w st h.s) (h3 : h.s.length ≤ hc) (h4 : hc ≤ maxLen) (hck : ckAllG V F c [g, h] = 0) (hlen : g.s.length ≤ 1000000) :
  Calls Tryz.prog 92 #[pv V F s c cap, .int .i64 4, gv g ss gc, gv h st hc] w fun e w' => ∃ v, e = .returned (.tuple #[.agg #[.bool g.n, .bool g.sp.n, .int .i64 g.sp.lo, .int .i64 g.sp.hi, .bool g.t, .bool g.f, v], .bool false, .int .i64 0]) ∧ w'.ownsRow w.heap.size 3 1 v g.s.length (g.s.map (.int .i64)) ∧ Below w.heap.size w w' := by
 obtain ⟨P0, G0, H0, R0, F0⟩ := togW_at w V F s c cap g ss gc h st hc
 have B0 := togW_below w V F s c cap g ss gc h st hc
 have C0 : CodeAt (togW w V F s c cap g ss gc h st hc) s c := hcd.below B0 (Nat.le_refl _)
 have I0 : IntsAt (togW w V F s c cap g ss gc h st hc) ss g.s := hs.below B0 (Nat.le_refl _)
 have J0 : IntsAt (togW w V F s c cap g ss gc h st hc) st h.s := ht.below B0 (Nat.le_refl _)
 have L0 := GsAt.new2 (togW w V F s c cap g ss gc h st hc) g ss gc h st hc I0 h1 h2 J0 h3 h4
 simp only [World.size_alloc] at L0
 have HC := hideH (checkAllG_any V F s c cap (some ⟨w.heap.size + 1 + 1 + 1 + 1, 0, none⟩) [g, h] 2 _ (C0.alloc _) L0 (by simp))
 have FG : Fr7 (togW w V F s c cap g ss gc h st hc) (w.heap.size + 1) := ⟨fun j => by simp [go_sem], by simp⟩
 rw [hck] at HC
 go_enter Tryz.func92, Tryz.ntmps92
 go_wp2_with (go_at_call 114; fail)
 refine HC.out.mono ?_
 rintro e w1 ⟨rfl, hb1⟩
 have G1 := (G0.alloc _).call hb1
 have H1 := (H0.alloc _).call hb1
 have R1 := (R0.alloc _).call hb1
 have I1 := (I0.alloc _).call hb1
 have J1 := (J0.alloc _).call hb1
 have F1 : Fr7 w1 (w.heap.size + 1 + 1 + 1) := (F0.alloc _).call hb1
 have B1 : Below w.heap.size w w1 := (B0.alloc B0.size _).trans (hb1.mono (by simp; omega))
 have X1 : Fr7 w1 (w.heap.size + 1) := (FG.alloc _).call hb1
 clear hb1 FG G0 H0 R0 I0 J0 F0 B0 C0 P0 L0 hcd hs ht HC
 obtain ⟨⟨g0, g1, g2, g3, g4, g5, g6⟩, gz⟩ := id G1
 obtain ⟨⟨k0, k1, k2, k3, k4, k5, k6⟩, kz⟩ := id H1
 simp only [Nat.zero_add] at g0 g1 g2 g3 g4 g5 g6 k0 k1 k2 k3 k4 k5 k6
 go_wp2_with (go_at_call 125; fail)
 refine (cloneI_any ss gc g.s _ hlen I1).mono ?_
 rintro e w2 ⟨v, rfl, hown, hb2⟩
 have G2 := G1.call hb2
 have R2 := R1.call hb2
 have F2 := F1.call hb2
 have X2 := X1.call hb2
 have B2 := B1.trans (hb2.mono B1.size)
 have z2 := F1.2
 clear hb2 g0 g1 g2 g3 g4 g5 g6 gz k0 k1 k2 k3 k4 k5 k6 kz
 have O2 := hown
 obtain ⟨vs, vc, hv, -, -, -, -⟩ := IntsAt.own hown
 subst hv
 obtain ⟨⟨g0, g1, g2, g3, g4, g5, g6⟩, gz⟩ := id G2
 simp only [Nat.zero_add] at g0 g1 g2 g3 g4 g5 g6
 have fx := X2.1
 obtain ⟨⟨r0, r1, r2, r3, r4, r5, r6⟩, rz⟩ := id R2
 simp only [Nat.zero_add, zeroG] at r0 r1 r2 r3 r4 r5 r6
 have fz := F2.1
 clear hown
 go_wp2
 refine bodyPost_ret (v := .tuple #[.agg #[.bool g.n, .bool g.sp.n, .int .i64 g.sp.lo, .int .i64 g.sp.hi, .bool g.t, .bool g.f, .slice vs g.s.length vc], .bool false, .int .i64 0]) (by simp [results, Tryz.results92, go_sem, r0, r1, r2, r3, r4, r5, r6, g0, g1, g2, g3, g4, g5, g6]) rfl ⟨_, rfl, ?_, ?_⟩
 ·exact ownsRow_base (ownsRow_put7 (ownsRow_setFar O2 (by omega)) (by omega)) (by omega)
 ·exact below_put7 (B2.setCell (by show w.heap.size ≤ w.heap.size + 1; omega) _) (by omega)
end
end Go.Proofs.YtmapdpcfanecdabGreat
