/- Walks over package guess: lists of sites that are looked through by a function literal. -/
import Derived.Test.YtmapdpcfanecdabGreatKstpxp08
import Derived.Test.YtmapdpcfanecdabGreatKstpxp13
import Derived.Test.YtmapdpcfanecdabGreatKstpxp07
import Derived.Deep.QuietTactic
import Derived.BigQuiet
import Derived.Lib.QuietBelow
set_option linter.unusedSimpArgs false
set_option linter.unusedVariables false
namespace Go.Proofs.YtmapdpcfanecdabGreat
section
set_option maxHeartbeats 4000000
set_option maxRecDepth 100000
open Go.RowKit

theorem prf_86e381 {p : Prop} (h : p := by
 refine (hJ.out _).mono ?_
 rintro e w2 ⟨rfl, hb2⟩
 have G2 := G1.call hb2
 have H2 := H1.call hb2
 have R2 := R1.call hb2
 have I2 := I1.call hb2
 have J2 := J1.call hb2
 have F2 := F1.call hb2
 have B2 := B1.trans (hb2.mono B1.size)
 clear hb2 G1 H1 R1 I1 J1 F1 B1 g0 g1 g2 g3 g4 g5 g6 gz k0 k1 k2 k3 k4 k5 k6 kz hJ
 go_wp2
 have G3 := G2.alloc (.cells #[.bool J.n, .int .i64 J.lo, .int .i64 J.hi] 58)
 have H3 := H2.alloc (.cells #[.bool J.n, .int .i64 J.lo, .int .i64 J.hi] 58)
 have R3 := R2.alloc (.cells #[.bool J.n, .int .i64 J.lo, .int .i64 J.hi] 58)
 have I3 := I2.alloc (.cells #[.bool J.n, .int .i64 J.lo, .int .i64 J.hi] 58)
 have J3 := J2.alloc (.cells #[.bool J.n, .int .i64 J.lo, .int .i64 J.hi] 58)
 have F3 := F2.alloc (.cells #[.bool J.n, .int .i64 J.lo, .int .i64 J.hi] 58)
 have B3 := B2.alloc B2.size (.cells #[.bool J.n, .int .i64 J.lo, .int .i64 J.hi] 58)
 have S3 := SpAt.new w2 J
 have zj : w.heap.size + 1 + 1 + 1 < w2.heap.size := F2.2
 clear G2 H2 R2 I2 J2 F2 B2
 generalize w2.alloc (.cells #[.bool J.n, .int .i64 J.lo, .int .i64 J.hi] 58) = w3 at *
 generalize w2.heap.size = jb at *
 have KS : ∀ wx, GuAt wx (w.heap.size + 1) 0 g ss gc → GuAt wx (w.heap.size + 1 + 1) 0 h st hc → SpAt wx jb J → regS w jb g ss gc h st hc J wx := fun wx a b c => ⟨by simpa using a.1, by simpa using b.1, c.1⟩
 unfold regS at KS
 obtain ⟨n, sp, t, f, sl⟩ := g
 refine wp_region_held_drew (S := regS w jb ⟨n, sp, t, f, sl⟩ ss gc h st hc J) (by kernel_rfl) (KS _ G3.drew H3.drew S3.drew) (fun hHeld => ?_)
 unfold regS at hHeld ⊢
 refine tH 0 ?_ ?_;refine sm ?_
 refine tH 1 ?_ ?_;refine sm ?_
 refine tH 2 ?_ ?_;refine sm ?_
 refine wpAnyH_take (i := 3) (v := if n = true then undef else .pointer (some ⟨w.heap.size + 1 + 1, 0, none⟩)) rfl (by kernel_rfl) (by kernel_rfl) (by kernel_rfl) (fun _ _ _ h => h) ?_ (by assumption) ?_
 ·cases n
  ·refine Or.inl ⟨?_, ?_⟩
   ·rfl
   ·(intro w hSw; (try dsimp only at hSw); first | (go_simp; done) | (go_simp; with_reducible rfl))
  ·exact Or.inr ⟨rfl, rfl⟩
 refine sm ?_
 refine wpAnyH_take (i := 4) (v := if n = true then undef else .bool h.n) rfl (by kernel_rfl) (by kernel_rfl) (by kernel_rfl) (fun _ _ _ h => h) ?_ (by assumption) ?_
 ·cases n
  ·refine Or.inl ⟨?_, ?_⟩
   ·rfl
   ·(intro w hSw; (try dsimp only at hSw); first | (go_simp; done) | (go_simp; with_reducible rfl))
  ·exact Or.inr ⟨rfl, rfl⟩
 refine sm ?_
 refine wpAnyH_take (i := 5) (v := .bool (n || h.n)) rfl (by kernel_rfl) (by kernel_rfl) (by kernel_rfl) (fun _ _ _ h => h) ?_ (by assumption) ?_
 ·cases n
  ·refine Or.inl ⟨?_, ?_⟩
   ·rfl
   ·(intro w hSw; (try dsimp only at hSw); first | (go_simp; done) | (go_simp; with_reducible rfl))
  ·refine Or.inl ⟨?_, ?_⟩
   ·rfl
   ·(intro w hSw; (try dsimp only at hSw); first | (go_simp; done) | (go_simp; with_reducible rfl))
 refine sm ?_
 refine tH 6 ?_ ?_;refine sm ?_
 refine tH 7 ?_ ?_;refine sm ?_
 refine tH 8 ?_ ?_;refine sm ?_
 refine tH 9 ?_ ?_;refine sm ?_
 refine wpAnyH_take (i := 10) (v := if t = true then undef else .pointer (some ⟨w.heap.size + 1 + 1, 4, none⟩)) rfl (by kernel_rfl) (by kernel_rfl) (by kernel_rfl) (fun _ _ _ h => h) ?_ (by assumption) ?_
 ·cases t
  ·refine Or.inl ⟨?_, ?_⟩
   ·rfl
   ·(intro w hSw; (try dsimp only at hSw); first | (go_simp; done) | (go_simp; with_reducible rfl))
  ·exact Or.inr ⟨rfl, rfl⟩
 refine sm ?_
 refine wpAnyH_take (i := 11) (v := if t = true then undef else .bool h.t) rfl (by kernel_rfl) (by kernel_rfl) (by kernel_rfl) (fun _ _ _ h => h) ?_ (by assumption) ?_
 ·cases t
  ·refine Or.inl ⟨?_, ?_⟩
   ·rfl
   ·(intro w hSw; (try dsimp only at hSw); first | (go_simp; done) | (go_simp; with_reducible rfl))
  ·exact Or.inr ⟨rfl, rfl⟩
 refine sm ?_
 refine wpAnyH_take (i := 12) (v := .bool (t || h.t)) rfl (by kernel_rfl) (by kernel_rfl) (by kernel_rfl) (fun _ _ _ h => h) ?_ (by assumption) ?_
 ·cases t
  ·refine Or.inl ⟨?_, ?_⟩
   ·rfl
   ·(intro w hSw; (try dsimp only at hSw); first | (go_simp; done) | (go_simp; with_reducible rfl))
  ·refine Or.inl ⟨?_, ?_⟩
   ·rfl
   ·(intro w hSw; (try dsimp only at hSw); first | (go_simp; done) | (go_simp; with_reducible rfl))
 refine sm ?_
 refine tH 13 ?_ ?_;refine sm ?_
 refine tH 14 ?_ ?_;refine sm ?_
 refine tH 15 ?_ ?_;refine sm ?_
 refine wpAnyH_take (i := 16) (v := if f = true then undef else .pointer (some ⟨w.heap.size + 1 + 1, 5, none⟩)) rfl (by kernel_rfl) (by kernel_rfl) (by kernel_rfl) (fun _ _ _ h => h) ?_ (by assumption) ?_
 ·cases f
  ·refine Or.inl ⟨?_, ?_⟩
   ·rfl
   ·(intro w hSw; (try dsimp only at hSw); first | (go_simp; done) | (go_simp; with_reducible rfl))
  ·exact Or.inr ⟨rfl, rfl⟩
 refine sm ?_
 refine wpAnyH_take (i := 17) (v := if f = true then undef else .bool h.f) rfl (by kernel_rfl) (by kernel_rfl) (by kernel_rfl) (fun _ _ _ h => h) ?_ (by assumption) ?_
 ·cases f
  ·refine Or.inl ⟨?_, ?_⟩
   ·rfl
   ·(intro w hSw; (try dsimp only at hSw); first | (go_simp; done) | (go_simp; with_reducible rfl))
  ·exact Or.inr ⟨rfl, rfl⟩
 refine sm ?_
 refine wpAnyH_take (i := 18) (v := .bool (f || h.f)) rfl (by kernel_rfl) (by kernel_rfl) (by kernel_rfl) (fun _ _ _ h => h) ?_ (by assumption) ?_
 ·cases f
  ·refine Or.inl ⟨?_, ?_⟩
   ·rfl
   ·(intro w hSw; (try dsimp only at hSw); first | (go_simp; done) | (go_simp; with_reducible rfl))
  ·refine Or.inl ⟨?_, ?_⟩
   ·rfl
   ·(intro w hSw; (try dsimp only at hSw); first | (go_simp; done) | (go_simp; with_reducible rfl))
 refine sm ?_
 refine tH 19 ?_ ?_;refine sm ?_
 refine tH 20 ?_ ?_;refine sm ?_
 have L3 := (GsAt.new2 w3 ⟨n, sp, t, f, sl⟩ ss gc h st hc I3 h1 h2 J3 h3 h4).drew
 have G4 := G3.alloc (.cells #[.bool n, .bool sp.n, .int .i64 sp.lo, .int .i64 sp.hi, .bool t, .bool f, .slice ss sl.length gc, .bool h.n, .bool h.sp.n, .int .i64 h.sp.lo, .int .i64 h.sp.hi, .bool h.t, .bool h.f, .slice st h.s.length hc] 61)
 have H4 := H3.alloc (.cells #[.bool n, .bool sp.n, .int .i64 sp.lo, .int .i64 sp.hi, .bool t, .bool f, .slice ss sl.length gc, .bool h.n, .bool h.sp.n, .int .i64 h.sp.lo, .int .i64 h.sp.hi, .bool h.t, .bool h.f, .slice st h.s.length hc] 61)
 have R4 := R3.alloc (.cells #[.bool n, .bool sp.n, .int .i64 sp.lo, .int .i64 sp.hi, .bool t, .bool f, .slice ss sl.length gc, .bool h.n, .bool h.sp.n, .int .i64 h.sp.lo, .int .i64 h.sp.hi, .bool h.t, .bool h.f, .slice st h.s.length hc] 61)
 have F4 := F3.alloc (.cells #[.bool n, .bool sp.n, .int .i64 sp.lo, .int .i64 sp.hi, .bool t, .bool f, .slice ss sl.length gc, .bool h.n, .bool h.sp.n, .int .i64 h.sp.lo, .int .i64 h.sp.hi, .bool h.t, .bool h.f, .slice st h.s.length hc] 61)
 have S4 := S3.alloc (.cells #[.bool n, .bool sp.n, .int .i64 sp.lo, .int .i64 sp.hi, .bool t, .bool f, .slice ss sl.length gc, .bool h.n, .bool h.sp.n, .int .i64 h.sp.lo, .int .i64 h.sp.hi, .bool h.t, .bool h.f, .slice st h.s.length hc] 61)
 have B4 := (B3.alloc B3.size (.cells #[.bool n, .bool sp.n, .int .i64 sp.lo, .int .i64 sp.hi, .bool t, .bool f, .slice ss sl.length gc, .bool h.n, .bool h.sp.n, .int .i64 h.sp.lo, .int .i64 h.sp.hi, .bool h.t, .bool h.f, .slice st h.s.length hc] 61)).drew
 refine wpAnyH_ready (rs := [21]) (by kernel_rfl) (by simp) ?_
 refine AllReadyH.cons rfl (fun K hK => ?_) AllReadyH.nil
 go_simp
 refine hK.out _ _ (KS _ G4.drew H4.drew S4.drew) (fun hHeld => ?_)
 clear hK K
 refine sm ?_
 refine wpAnyH_ready (rs := [22]) (by kernel_rfl) (by simp) ?_
 refine AllReadyH.cons rfl (fun K hK => ?_) AllReadyH.nil
 go_simp
 refine (allSites_any _ [⟨n, sp, t, f, sl⟩, h] 2 _ L3 (by simp) hlen).mono ?_
 rintro e w5 ⟨v, rfl, hown, hb5⟩
 have G5 := G4.drew.call hb5
 have H5 := H4.drew.call hb5
 have R5 := R4.drew.call hb5
 have F5 := F4.drew.call hb5
 have S5 := S4.drew.call hb5
 have B5 : Below w.heap.size w w5 := B4.trans (hb5.mono B4.size)
 have z5 : w.heap.size + 1 + 1 + 1 < w3.heap.size := F3.2
 simp only [World.size_drew, World.size_alloc] at hown
 have O5 := hown
 clear hb5 G4 H4 R4 F4 S4 B4 L3 G3 H3 R3 F3 S3 B3 I3 J3
 obtain ⟨vs, vc, rfl, -, -, -, hvb⟩ := IntsAt.own hown
 refine hK.out _ _ (KS _ G5 H5 S5) (fun hHeld => ?_)
 clear hK K hown
 refine sm ?_
 refine tH 23 ?_ ?_;refine sm ?_
 obtain ⟨⟨r0, r1, r2, r3, r4, r5, r6⟩, rz⟩ := id R5
 simp only [Nat.zero_add, zeroG] at r0 r1 r2 r3 r4 r5 r6
 have fz := F5.1
 refine wpAnyH_ready (rs := [24]) (by kernel_rfl) (by simp) ?_
 refine AllReadyH.cons rfl (fun K hK => ?_) AllReadyH.nil
 go_simp
 refine hK.out _ _ (KS _ (G5.put7 (by omega)) (H5.put7 (by omega)) (S5.put7 (by omega))) (fun hHeld => ?_)
 clear hK K
 refine sm ?_
 refine tH 25 ?_ ?_;refine sm ?_
 refine wpAnyH_done (by kernel_rfl) ?_ _
 generalize (if n = true then undef else (.pointer (some ⟨w.heap.size + 1 + 1, 0, none⟩) : Value)) = y0
 generalize (if n = true then undef else (.bool h.n : Value)) = y1
 generalize (if t = true then undef else (.pointer (some ⟨w.heap.size + 1 + 1, 4, none⟩) : Value)) = y2
 generalize (if t = true then undef else (.bool h.t : Value)) = y3
 generalize (if f = true then undef else (.pointer (some ⟨w.heap.size + 1 + 1, 5, none⟩) : Value)) = y4
 generalize (if f = true then undef else (.bool h.f : Value)) = y5
 go_wp2
 refine bodyPost_ret (v := .tuple #[.agg #[.bool (n || h.n), .bool J.n, .int .i64 J.lo, .int .i64 J.hi, .bool (t || h.t), .bool (f || h.f), .slice vs (sitesOf [⟨n, sp, t, f, sl⟩, h]).length vc], .int .i64 0]) (by simp [results, Tryz.results109, go_sem, r0, r1, r2, r3, r4, r5, r6]) rfl ⟨_, rfl, ?_, ?_⟩
 ·exact ownsRow_base (ownsRow_put7 O5 (by omega)) (by omega)
 ·exact below_put7 B5 (by omega)) : p := h
theorem togetherG_join (V F : Int) (s : Option Addr) (c : List Ins) (cap : Nat) (g : Gs) (ss : Option Addr) (gc : Nat) (h : Gs) (st : Option Addr) (hc : Nat) (w : World)
  (hcd : CodeAt w s c) (hs : IntsAt w ss g.s) (h1 : g.s.length ≤ gc) (h2 : gc ≤ maxLen) (ht : IntsAt w st h.s) (h3 : h.s.length ≤ hc) (h4 : hc ≤ maxLen) (hck : ckAllG V F c [g, h] = 0) (hlen : ([g, h].flatMap Gs.s).length ≤ 1000000) :
  Calls Tryz.prog 109 #[pv V F s c cap, gv g ss gc, gv h st hc, .func (.func 110) #[] #[]] w fun e w' => ∃ v, e = .returned (.tuple #[.agg #[.bool (g.n || h.n), .bool (joinSp g.sp h.sp).n, .int .i64 (joinSp g.sp h.sp).lo, .int .i64 (joinSp g.sp h.sp).hi, .bool (g.t || h.t), .bool (g.f || h.f), v], .int .i64 0]) ∧ w'.ownsRow w.heap.size 3 1 v (sitesOf [g, h]).length ((sitesOf [g, h]).map (.int .i64)) ∧ Below w.heap.size w w' := by
 obtain ⟨P0, G0, H0, R0, F0⟩ := togW_at w V F s c cap g ss gc h st hc
 have B0 := togW_below w V F s c cap g ss gc h st hc
 have C0 : CodeAt (togW w V F s c cap g ss gc h st hc) s c := hcd.below B0 (Nat.le_refl _)
 have I0 : IntsAt (togW w V F s c cap g ss gc h st hc) ss g.s := hs.below B0 (Nat.le_refl _)
 have J0 : IntsAt (togW w V F s c cap g ss gc h st hc) st h.s := ht.below B0 (Nat.le_refl _)
 have L0 := GsAt.new2 (togW w V F s c cap g ss gc h st hc) g ss gc h st hc I0 h1 h2 J0 h3 h4
 simp only [World.size_alloc] at L0
 have hJ0 := fun w => joinF_any g.sp h.sp w
 rw [ckAllG_spans hck, show ∀ r, spIf 0 r = r from fun r => rfl] at hJ0
 have hJ := hideH hJ0
 have HK := hideH hck
 clear hck hJ0
 generalize joinSp g.sp h.sp = J at hJ ⊢
 go_enter Tryz.func109, Tryz.ntmps109
 go_wp2_with (go_at_call 114; fail)
 refine (checkAllG_any V F s c cap _ [g, h] 2 _ (C0.alloc _) L0 (by simp)).mono ?_
 rintro e w1 ⟨rfl, hb1⟩
 rw [HK.out]
 have G1 := (G0.alloc _).call hb1
 have H1 := (H0.alloc _).call hb1
 have R1 := (R0.alloc _).call hb1
 have I1 := (I0.alloc _).call hb1
 have J1 := (J0.alloc _).call hb1
 have F1 : Fr7 w1 (w.heap.size + 1 + 1 + 1) := (F0.alloc _).call hb1
 have B1 : Below w.heap.size w w1 := (B0.alloc B0.size _).trans (hb1.mono (by simp; omega))
 clear hb1 G0 H0 R0 I0 J0 F0 B0 C0 P0 L0 hcd hs ht HK
 obtain ⟨⟨g0, g1, g2, g3, g4, g5, g6⟩, gz⟩ := id G1
 obtain ⟨⟨k0, k1, k2, k3, k4, k5, k6⟩, kz⟩ := id H1
 simp only [Nat.zero_add] at g0 g1 g2 g3 g4 g5 g6 k0 k1 k2 k3 k4 k5 k6
 go_wp2_with (go_at_call 110; fail)
 exact prf_86e381
end
section
set_option maxHeartbeats 2000000
set_option maxRecDepth 10000
open Go.RowKit

theorem checkG_any (V F : Int) (s : Option Addr) (c : List Ins) (cap : Nat) (g : Gs) (ss : Option Addr) (gc : Nat) (w : World) (hcd : CodeAt w s c) (hs : IntsAt w ss g.s) (h1 : g.s.length ≤ gc) (h2 : gc ≤ maxLen) :
  Calls Tryz.prog 107 #[pv V F s c cap, gv g ss gc] w fun e w' => e = .returned (.int .i64 (ckAllG V F c [g])) ∧ Below w.heap.size w w' := by
 have B0 : Below w.heap.size w (pgW w V F s c cap g ss gc) := by go_grown
 have L0 := GsAt.new1 (pgW w V F s c cap g ss gc) g ss gc ((hs.alloc _).alloc _) h1 h2
 simp only [World.size_alloc] at L0
 have HC := hideH (checkAllG_any V F s c cap (some ⟨w.heap.size + 1 + 1, 0, none⟩) [g] 1 _ (((hcd.alloc _).alloc _).alloc _) L0 (by simp))
 generalize ckAllG V F c [g] = ce at HC ⊢
 clear hcd hs L0
 go_enter Tryz.func107, Tryz.ntmps107
 go_wp2_with (go_at_call 114; fail)
 refine HC.out.mono ?_
 rintro e w1 ⟨rfl, hb1⟩
 go_wp2
 go_ret
 exact ⟨rfl, (B0.alloc B0.size _).trans (hb1.mono (by simp; omega))⟩

theorem joinG_ok (V F : Int) (s : Option Addr) (c : List Ins) (cap : Nat) (g : Gs) (ss : Option Addr) (gc : Nat) (h : Gs) (st : Option Addr) (hc : Nat) (w : World)
  (hcd : CodeAt w s c) (hs : IntsAt w ss g.s) (h1 : g.s.length ≤ gc) (h2 : gc ≤ maxLen) (ht : IntsAt w st h.s) (h3 : h.s.length ≤ hc) (h4 : hc ≤ maxLen) (hck : ckAllG V F c [g, h] = 0) (hlen : ([g, h].flatMap Gs.s).length ≤ 1000000) :
  Calls Tryz.prog 82 #[pv V F s c cap, gv g ss gc, gv h st hc] w fun e w' => ∃ v, e = .returned (.tuple #[.agg #[.bool (g.n || h.n), .bool (joinSp g.sp h.sp).n, .int .i64 (joinSp g.sp h.sp).lo, .int .i64 (joinSp g.sp h.sp).hi, .bool (g.t || h.t), .bool (g.f || h.f), v], .int .i64 0]) ∧ w'.ownsRow w.heap.size 3 1 v (sitesOf [g, h]).length ((sitesOf [g, h]).map (.int .i64)) ∧ Below w.heap.size w w' := by
 obtain ⟨P0, G0, H0, R0, F0⟩ := togW_at w V F s c cap g ss gc h st hc
 have B0 := togW_below w V F s c cap g ss gc h st hc
 have C0 : CodeAt (togW w V F s c cap g ss gc h st hc) s c := hcd.below B0 (Nat.le_refl _)
 have I0 : IntsAt (togW w V F s c cap g ss gc h st hc) ss g.s := hs.below B0 (Nat.le_refl _)
 have J0 : IntsAt (togW w V F s c cap g ss gc h st hc) st h.s := ht.below B0 (Nat.le_refl _)
 have HT := hideH (togetherG_join V F s c cap g ss gc h st hc _ C0 I0 h1 h2 J0 h3 h4 hck hlen)
 clear hck hlen hcd hs ht P0 G0 H0 C0 I0 J0
 generalize joinSp g.sp h.sp = J at HT ⊢
 generalize sitesOf [g, h] = T at HT ⊢
 go_enter Tryz.func82, Tryz.ntmps82
 go_wp2_with (go_at_call 109; fail)
 refine HT.out.mono ?_
 rintro e w1 ⟨v, rfl, hown, hb1⟩
 have R1 := R0.call hb1
 have F1 : Fr7 w1 (w.heap.size + 1 + 1 + 1) := F0.call hb1
 have B1 : Below w.heap.size w w1 := B0.trans (hb1.mono B0.size)
 simp only [World.size_alloc] at hown
 have O1 := hown
 obtain ⟨vs, vc, rfl, -, -, -, -⟩ := IntsAt.own hown
 clear hb1 R0 F0 B0 HT hown
 obtain ⟨⟨r0, r1, r2, r3, r4, r5, r6⟩, rz⟩ := id R1
 simp only [Nat.zero_add, zeroG] at r0 r1 r2 r3 r4 r5 r6
 have fz := F1.1
 go_wp2
 refine bodyPost_ret (v := .tuple #[.agg #[.bool (g.n || h.n), .bool J.n, .int .i64 J.lo, .int .i64 J.hi, .bool (g.t || h.t), .bool (g.f || h.f), .slice vs T.length vc], .int .i64 0]) (by simp [results, Tryz.results82, go_sem, r0, r1, r2, r3, r4, r5, r6]) rfl ⟨_, rfl, ?_, ?_⟩
 ·exact ownsRow_base (ownsRow_put7 O1 (by omega)) (by omega)
 ·exact below_put7 B1 (by omega)
end
section
set_option maxHeartbeats 2000000
set_option maxRecDepth 10000
open Go.RowKit

theorem ret_t2 {a b c d : Bool} (h : a = c) (h' : b = d) : Ending.returned (.tuple #[.bool a, .bool b]) = .returned (.tuple #[.bool c, .bool d]) := by rw [h, h']

theorem truthG_any (g : Gs) (ss : Option Addr) (gc : Nat) (w : World) (hsp : ckSp g.sp = 0) :
  Calls Tryz.prog 115 #[gv g ss gc] w fun e w' => e = .returned (.tuple #[.bool (yesGs g), .bool (noGs g)]) ∧ Below w.heap.size w w' := by
 have hH := fun w => has_any g.sp 0 w
 rw [hsp, show (decide ((0 : Int) = 0) && g.sp.has 0) = g.sp.has 0 from rfl] at hH
 have HY : Hid (yesGs g = ((!g.sp.n && !decide (g.sp.lo = 0 ∧ g.sp.hi = 0)) || (g.t || decide (0 < g.s.length)))) := rfl
 have HN : Hid (noGs g = (g.sp.has 0 || (g.n || g.f))) := rfl
 generalize yesGs g = yy at *
 generalize noGs g = nn at *
 generalize g.sp.has 0 = z at *
 obtain ⟨n, ⟨sn, lo, hi⟩, t, f, s⟩ := g
 have G0 := GuAt.new w ⟨n, ⟨sn, lo, hi⟩, t, f, s⟩ ss gc
 go_enter Tryz.func115, Tryz.ntmps115
 go_wp2_with (go_at_call 142; fail)
 refine (hH _).mono ?_
 rintro e w1 ⟨rfl, hb1⟩
 have G1 := G0.call hb1
 have B1 : Below w.heap.size w w1 := Below.trans (by go_grown) (hb1.mono (by simp))
 obtain ⟨⟨g0, g1, g2, g3, g4, g5, g6⟩, gz⟩ := id G1
 simp only [Nat.zero_add] at g0 g1 g2 g3 g4 g5 g6
 clear G0 G1 hb1 hH hsp
 cases sn with
 | true =>
  go_wp2
  refine wp_region_quiet_lit (by kernel_rfl) (by kernel_rfl) ?_
  repeat (any_goals (first | go_big_quiet_step (fail) | quiet_step (fail) | (refine wpQuiet_step (fun K hK => ?_); go_simp; split <;> (refine hK _ ?_; clear hK K))))
  all_goals (refine wpQuiet_nil ?_; intro _ hw'; obtain ⟨nq, hw''⟩ := hw'; subst hw'')
  all_goals go_wp2
  all_goals go_ret2
  all_goals exact ⟨ret_t2 (by rw [HY.out]; simp_all) (by rw [HN.out]; simp_all), below_drewN B1 _⟩
 | false =>
  by_cases hz : lo = 0 ∧ hi = 0
  ·obtain ⟨rfl, rfl⟩ := hz
   go_wp2
   refine wp_region_quiet_lit (by kernel_rfl) (by kernel_rfl) ?_
   repeat (any_goals (first | go_big_quiet_step (fail) | quiet_step (fail) | (refine wpQuiet_step (fun K hK => ?_); go_simp; split <;> (refine hK _ ?_; clear hK K))))
   all_goals (refine wpQuiet_nil ?_; intro _ hw'; obtain ⟨nq, hw''⟩ := hw'; subst hw'')
   all_goals go_wp2
   all_goals go_ret2
   all_goals exact ⟨ret_t2 (by rw [HY.out]; simp_all) (by rw [HN.out]; simp_all), below_drewN B1 _⟩
  ·have HZ : Hid (decide (lo = 0 ∧ hi = 0) = false) := by show _ = _; simpa using hz
   have hm : yy = true := by rw [HY.out, HZ.out]; rfl
   subst hm
   clear HY
   by_cases h1 : lo = 0
   ·subst h1
    have h2 : (hi == 0) = false := by simp only [beq_eq_false_iff_ne]; intro h; exact hz ⟨rfl, h⟩
    clear hz HZ
    go_wp2
    refine wp_region_quiet_lit (by kernel_rfl) (by kernel_rfl) ?_
    repeat (any_goals (first | go_big_quiet_step (fail) | quiet_step (fail) | (refine wpQuiet_step (fun K hK => ?_); go_simp; split <;> (refine hK _ ?_; clear hK K))))
    all_goals (refine wpQuiet_nil ?_; intro _ hw'; obtain ⟨nq, hw''⟩ := hw'; subst hw'')
    all_goals go_wp2
    all_goals go_ret2
    all_goals exact ⟨ret_t2 rfl (by rw [HN.out]; simp_all), below_drewN B1 _⟩
   ·have h2 : (lo == 0) = false := by simpa using h1
    clear hz HZ
    go_wp2
    refine wp_region_quiet_lit (by kernel_rfl) (by kernel_rfl) ?_
    repeat (any_goals (first | go_big_quiet_step (fail) | quiet_step (fail) | (refine wpQuiet_step (fun K hK => ?_); go_simp; split <;> (refine hK _ ?_; clear hK K))))
    all_goals (refine wpQuiet_nil ?_; intro _ hw'; obtain ⟨nq, hw''⟩ := hw'; subst hw'')
    all_goals go_wp2
    all_goals go_ret2
    all_goals exact ⟨ret_t2 rfl (by rw [HN.out]; simp_all), below_drewN B1 _⟩

theorem more_any (x : Int) (q : Nat) (h : Gs) (ss : Option Addr) (gc : Nat) (w : World) (hg : GuAt w q 0 h ss gc) (hs : IntsAt w ss h.s) (hl : h.s.length ≤ 9223372036854775807) :
  Calls Tryz.prog 116 #[.int .i64 x, .pointer (some ⟨q, 0, none⟩)] w fun e w' => e = .returned (.bool (!h.s.contains x)) ∧ Below w.heap.size w w' := by
 obtain ⟨⟨g0, g1, g2, g3, g4, g5, g6⟩, gz⟩ := id hg
 simp only [Nat.zero_add] at g6
 go_enter Tryz.func116, Tryz.ntmps116
 go_wp2_with (go_at_call 117; fail)
 refine (containsI_any x ss gc h.s _ hl hs).mono ?_
 rintro e w1 ⟨rfl, rfl⟩
 go_wp2
 go_ret
 exact ⟨ret_bool (by simp), Below.refl _ _⟩

theorem common_any (x : Int) (q : Nat) (h : Gs) (ss : Option Addr) (gc : Nat) (w : World) (hg : GuAt w q 0 h ss gc) (hs : IntsAt w ss h.s) (hl : h.s.length ≤ 9223372036854775807) :
  Calls Tryz.prog 151 #[.int .i64 x, .pointer (some ⟨q, 0, none⟩)] w fun e w' => e = .returned (.bool (h.s.contains x)) ∧ Below w.heap.size w w' := by
 obtain ⟨⟨g0, g1, g2, g3, g4, g5, g6⟩, gz⟩ := id hg
 simp only [Nat.zero_add] at g6
 go_enter Tryz.func151, Tryz.ntmps151
 go_wp2_with (go_at_call 117; fail)
 refine (containsI_any x ss gc h.s _ hl hs).mono ?_
 rintro e w1 ⟨rfl, rfl⟩
 go_wp2
 go_ret
 exact ⟨ret_bool (by simp), Below.refl _ _⟩
end
section
set_option maxHeartbeats 1000000
set_option maxRecDepth 10000
open Go.RowKit

theorem indexFunc_more (q : Nat) (p : Int → Bool) (ss : Option Addr) (cap : Nat) (l : List Int) (w : World) (hl : l.length ≤ 9223372036854775807) (hs : IntsAt w ss l)
  (hF : ∀ x wx, Below w.heap.size w wx → Calls Tryz.prog 116 #[.int .i64 x, .pointer (some ⟨q, 0, none⟩)] wx fun e w' => e = .returned (.bool (p x)) ∧ Below wx.heap.size wx w') :
  Calls Tryz.prog 144 #[.slice ss l.length cap, .func (.func 116) #[] #[.pointer (some ⟨q, 0, none⟩)]] w fun e w' => ∃ n : Int, e = .returned (.int .i64 n) ∧ decide (0 ≤ n) = l.any p ∧ Below w.heap.size w w' := by
 have HF := hideH hF
 clear hF
 go_enter Tryz.func144, Tryz.ntmps144
 go_wp2
 go_loopw [8] (fun i wr => ∃ k : Nat, k ≤ l.length ∧ i = .int .i64 k ∧ Below w.heap.size w wr ∧ Hid (l.any p = (l.drop k).any p)) (fun i _ => l.length - (intOf i).toNat)
 case atStart => exact ⟨0, Nat.zero_le _, rfl, Below.refl _ _, rfl⟩
 case round =>
  obtain ⟨k, hk, rfl, hbr, HA⟩ := hrel
  by_cases hlt : k < l.length
  ·obtain ⟨b, off, rfl, hb, hc⟩ := hs.get k hlt
   have n0 : (0 : Int) ≤ (k : Int) := by omega
   have n1 : (k : Int) < (l.length : Int) := by omega
   have s0 := hbr.size
   have c0 : wr.cell? ⟨b, off + k, none⟩ = some (.int .i64 l[k]) := by rw [hbr.cell (by simpa using hb)]; exact hc k hlt
   have HN : Hid ((l.drop k).any p = (p l[k] || (l.drop (k + 1)).any p)) := any_drop_stepI l p k hlt
   clear hc hs
   go_wp2_with (go_at_call 116; fail)
   refine (HF.out _ _ hbr).mono ?_
   rintro e w1 ⟨rfl, hb1⟩
   cases hp : p l[k] with
   | true =>
    have HT : Hid (l.any p = true) := by show _ = _; rw [HA.out, HN.out, hp]; rfl
    clear HN HA
    go_wp2
    go_ret
    exact ⟨_, rfl, by rw [HT.out]; simp, hbr.trans (hb1.mono s0)⟩
   | false =>
    have HT : Hid (l.any p = (l.drop (k + 1)).any p) := by show _ = _; rw [HA.out, HN.out, hp]; rfl
    clear HN HA
    go_wp2
    go_roundw
    case rel => exact ⟨k + 1, by omega, by go_num, hbr.trans (hb1.mono s0), HT⟩
    case measure => simp [intOf]; omega
  ·go_wp2
   go_ret
   exact ⟨_, rfl, by rw [HA.out, List.drop_eq_nil_of_le (by omega)]; rfl, hbr⟩

theorem containsFunc_more (q : Nat) (p : Int → Bool) (ss : Option Addr) (cap : Nat) (l : List Int) (w : World) (hl : l.length ≤ 9223372036854775807) (hs : IntsAt w ss l)
  (hF : ∀ x wx, Below w.heap.size w wx → Calls Tryz.prog 116 #[.int .i64 x, .pointer (some ⟨q, 0, none⟩)] wx fun e w' => e = .returned (.bool (p x)) ∧ Below wx.heap.size wx w') :
  Calls Tryz.prog 118 #[.slice ss l.length cap, .func (.func 116) #[] #[.pointer (some ⟨q, 0, none⟩)]] w fun e w' => e = .returned (.bool (l.any p)) ∧ Below w.heap.size w w' := by
 have HF := hideH hF
 clear hF
 go_enter Tryz.func118, Tryz.ntmps118
 go_wp2_with (go_at_call 144; fail)
 refine (indexFunc_more q p ss cap l _ hl hs HF.out).mono ?_
 rintro e w1 ⟨n, rfl, hn, hb1⟩
 go_wp2
 go_ret
 exact ⟨rfl, hb1⟩
end
section
set_option maxHeartbeats 1000000
set_option maxRecDepth 10000
open Go.RowKit

theorem indexFunc_common (q : Nat) (p : Int → Bool) (ss : Option Addr) (cap : Nat) (l : List Int) (w : World) (hl : l.length ≤ 9223372036854775807) (hs : IntsAt w ss l)
  (hF : ∀ x wx, Below w.heap.size w wx → Calls Tryz.prog 151 #[.int .i64 x, .pointer (some ⟨q, 0, none⟩)] wx fun e w' => e = .returned (.bool (p x)) ∧ Below wx.heap.size wx w') :
  Calls Tryz.prog 144 #[.slice ss l.length cap, .func (.func 151) #[] #[.pointer (some ⟨q, 0, none⟩)]] w fun e w' => ∃ n : Int, e = .returned (.int .i64 n) ∧ decide (0 ≤ n) = l.any p ∧ Below w.heap.size w w' := by
 have HF := hideH hF
 clear hF
 go_enter Tryz.func144, Tryz.ntmps144
 go_wp2
 go_loopw [8] (fun i wr => ∃ k : Nat, k ≤ l.length ∧ i = .int .i64 k ∧ Below w.heap.size w wr ∧ Hid (l.any p = (l.drop k).any p)) (fun i _ => l.length - (intOf i).toNat)
 case atStart => exact ⟨0, Nat.zero_le _, rfl, Below.refl _ _, rfl⟩
 case round =>
  obtain ⟨k, hk, rfl, hbr, HA⟩ := hrel
  by_cases hlt : k < l.length
  ·obtain ⟨b, off, rfl, hb, hc⟩ := hs.get k hlt
   have n0 : (0 : Int) ≤ (k : Int) := by omega
   have n1 : (k : Int) < (l.length : Int) := by omega
   have s0 := hbr.size
   have c0 : wr.cell? ⟨b, off + k, none⟩ = some (.int .i64 l[k]) := by rw [hbr.cell (by simpa using hb)]; exact hc k hlt
   have HN : Hid ((l.drop k).any p = (p l[k] || (l.drop (k + 1)).any p)) := any_drop_stepI l p k hlt
   clear hc hs
   go_wp2_with (go_at_call 151; fail)
   refine (HF.out _ _ hbr).mono ?_
   rintro e w1 ⟨rfl, hb1⟩
   cases hp : p l[k] with
   | true =>
    have HT : Hid (l.any p = true) := by show _ = _; rw [HA.out, HN.out, hp]; rfl
    clear HN HA
    go_wp2
    go_ret
    exact ⟨_, rfl, by rw [HT.out]; simp, hbr.trans (hb1.mono s0)⟩
   | false =>
    have HT : Hid (l.any p = (l.drop (k + 1)).any p) := by show _ = _; rw [HA.out, HN.out, hp]; rfl
    clear HN HA
    go_wp2
    go_roundw
    case rel => exact ⟨k + 1, by omega, by go_num, hbr.trans (hb1.mono s0), HT⟩
    case measure => simp [intOf]; omega
  ·go_wp2
   go_ret
   exact ⟨_, rfl, by rw [HA.out, List.drop_eq_nil_of_le (by omega)]; rfl, hbr⟩

theorem containsFunc_common (q : Nat) (p : Int → Bool) (ss : Option Addr) (cap : Nat) (l : List Int) (w : World) (hl : l.length ≤ 9223372036854775807) (hs : IntsAt w ss l)
  (hF : ∀ x wx, Below w.heap.size w wx → Calls Tryz.prog 151 #[.int .i64 x, .pointer (some ⟨q, 0, none⟩)] wx fun e w' => e = .returned (.bool (p x)) ∧ Below wx.heap.size wx w') :
  Calls Tryz.prog 118 #[.slice ss l.length cap, .func (.func 151) #[] #[.pointer (some ⟨q, 0, none⟩)]] w fun e w' => e = .returned (.bool (l.any p)) ∧ Below w.heap.size w w' := by
 have HF := hideH hF
 clear hF
 go_enter Tryz.func118, Tryz.ntmps118
 go_wp2_with (go_at_call 144; fail)
 refine (indexFunc_common q p ss cap l _ hl hs HF.out).mono ?_
 rintro e w1 ⟨n, rfl, hn, hb1⟩
 go_wp2
 go_ret
 exact ⟨rfl, hb1⟩
end
end Go.Proofs.YtmapdpcfanecdabGreat
