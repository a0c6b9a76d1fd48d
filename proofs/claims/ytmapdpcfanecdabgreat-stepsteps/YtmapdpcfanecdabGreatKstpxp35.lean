/- Walks over package guess: may two be the same value; may they not? -/
import Derived.Test.YtmapdpcfanecdabGreatKstpxp08
import Derived.Test.YtmapdpcfanecdabGreatKstpxp13
import Derived.Test.YtmapdpcfanecdabGreatKstpxp21
import Derived.Test.YtmapdpcfanecdabGreatKstpxp17
import Derived.Test.YtmapdpcfanecdabGreatKstpxp14
set_option linter.unusedSimpArgs false
set_option linter.unusedVariables false
namespace Go.Proofs.YtmapdpcfanecdabGreat
section
set_option maxHeartbeats 4000000
set_option maxRecDepth 100000
open Go.RowKit

theorem prf_c1fa82 {p : Prop} (h : p := by
 have HW := hideH (fun ls lc w hL => isWrong_any ls [g, h] lc w (by simp) hL)
 generalize ([g, h].any otherGs && ![g, h].any nothingGs) = wr at HW ⊢
 go_enter Tryz.func92, Tryz.ntmps92
 go_wp2_with (go_at_call 114; fail)
 refine (checkAllG_any V F s c cap _ [g, h] 2 _ (C0.alloc _) L0 (by simp)).mono ?_
 rintro e w1 ⟨rfl, hb1⟩
 rw [HK.out]
 have G1 := (G0.alloc _).call hb1
 have H1 := (H0.alloc _).call hb1
 have R1 := (R0.alloc _).call hb1
 have F1 : Fr7 w1 (w.heap.size + 1 + 1 + 1) := (F0.alloc _).call hb1
 have B1 : Below w.heap.size w w1 := (B0.alloc B0.size _).trans (hb1.mono (by simp; omega))
 clear hb1 G0 H0 R0 I0 J0 F0 B0 C0 P0 L0 hcd hs ht HK
 obtain ⟨⟨g0, g1, g2, g3, g4, g5, g6⟩, gz⟩ := id G1
 obtain ⟨⟨k0, k1, k2, k3, k4, k5, k6⟩, kz⟩ := id H1
 simp only [Nat.zero_add] at g0 g1 g2 g3 g4 g5 g6 k0 k1 k2 k3 k4 k5 k6
 go_wp2_with (go_at_call 120; fail)
 refine (hJ.out _).mono ?_
 rintro e w2 ⟨rfl, hb2⟩
 have G2 := G1.call hb2
 have H2 := H1.call hb2
 have R2 := R1.call hb2
 have F2 := F1.call hb2
 have B2 := B1.trans (hb2.mono B1.size)
 clear hb2 G1 H1 R1 F1 B1 g0 g1 g2 g3 g4 g5 g6 gz k0 k1 k2 k3 k4 k5 k6 kz hJ
 go_wp2
 have G3 := G2.alloc (.cells #[.bool J.n, .int .i64 J.lo, .int .i64 J.hi] 58)
 have H3 := H2.alloc (.cells #[.bool J.n, .int .i64 J.lo, .int .i64 J.hi] 58)
 have R3 := R2.alloc (.cells #[.bool J.n, .int .i64 J.lo, .int .i64 J.hi] 58)
 have F3 := F2.alloc (.cells #[.bool J.n, .int .i64 J.lo, .int .i64 J.hi] 58)
 have B3 := B2.alloc B2.size (.cells #[.bool J.n, .int .i64 J.lo, .int .i64 J.hi] 58)
 have S3 := SpAt.new w2 J
 have zj : w.heap.size + 1 + 1 + 1 < w2.heap.size := F2.2
 clear G2 H2 R2 F2 B2
 generalize w2.alloc (.cells #[.bool J.n, .int .i64 J.lo, .int .i64 J.hi] 58) = w3 at *
 generalize w2.heap.size = jb at *
 have KS : ∀ wx, GuAt wx (w.heap.size + 1) 0 g ss gc → GuAt wx (w.heap.size + 1 + 1) 0 h st hc → SpAt wx jb J → regS w jb g ss gc h st hc J wx := fun wx a b c => ⟨by simpa using a.1, by simpa using b.1, c.1⟩
 refine wp_region_held_drew (S := regS w jb g ss gc h st hc J) (by kernel_rfl) (KS _ G3.drew H3.drew S3.drew) (fun hHeld => ?_)
 unfold regS at hHeld KS ⊢
 refine tH 0 ?_ ?_;refine sm ?_
 refine tH 1 ?_ ?_;refine sm ?_
 refine tH 2 ?_ ?_;refine sm ?_
 refine tH 3 ?_ ?_;refine sm ?_
 have L3 : GhAt (twoW w3 g ss gc h st hc).drew (some ⟨w3.heap.size, 0, none⟩) [g, h] := (GhAt.new2 w3 g ss gc h st hc).call (Below.refl _ _).drew
 have G4 := G3.alloc (.cells #[.bool g.n, .bool g.sp.n, .int .i64 g.sp.lo, .int .i64 g.sp.hi, .bool g.t, .bool g.f, .slice ss g.s.length gc, .bool h.n, .bool h.sp.n, .int .i64 h.sp.lo, .int .i64 h.sp.hi, .bool h.t, .bool h.f, .slice st h.s.length hc] 61)
 have H4 := H3.alloc (.cells #[.bool g.n, .bool g.sp.n, .int .i64 g.sp.lo, .int .i64 g.sp.hi, .bool g.t, .bool g.f, .slice ss g.s.length gc, .bool h.n, .bool h.sp.n, .int .i64 h.sp.lo, .int .i64 h.sp.hi, .bool h.t, .bool h.f, .slice st h.s.length hc] 61)
 have R4 := R3.alloc (.cells #[.bool g.n, .bool g.sp.n, .int .i64 g.sp.lo, .int .i64 g.sp.hi, .bool g.t, .bool g.f, .slice ss g.s.length gc, .bool h.n, .bool h.sp.n, .int .i64 h.sp.lo, .int .i64 h.sp.hi, .bool h.t, .bool h.f, .slice st h.s.length hc] 61)
 have F4 := F3.alloc (.cells #[.bool g.n, .bool g.sp.n, .int .i64 g.sp.lo, .int .i64 g.sp.hi, .bool g.t, .bool g.f, .slice ss g.s.length gc, .bool h.n, .bool h.sp.n, .int .i64 h.sp.lo, .int .i64 h.sp.hi, .bool h.t, .bool h.f, .slice st h.s.length hc] 61)
 have S4 := S3.alloc (.cells #[.bool g.n, .bool g.sp.n, .int .i64 g.sp.lo, .int .i64 g.sp.hi, .bool g.t, .bool g.f, .slice ss g.s.length gc, .bool h.n, .bool h.sp.n, .int .i64 h.sp.lo, .int .i64 h.sp.hi, .bool h.t, .bool h.f, .slice st h.s.length hc] 61)
 have B4 := (B3.alloc B3.size (.cells #[.bool g.n, .bool g.sp.n, .int .i64 g.sp.lo, .int .i64 g.sp.hi, .bool g.t, .bool g.f, .slice ss g.s.length gc, .bool h.n, .bool h.sp.n, .int .i64 h.sp.lo, .int .i64 h.sp.hi, .bool h.t, .bool h.f, .slice st h.s.length hc] 61)).drew
 refine wpAnyH_ready (rs := [4]) (by kernel_rfl) (by simp) ?_
 refine AllReadyH.cons rfl (fun K hK => ?_) AllReadyH.nil
 go_simp
 refine hK.out _ _ (KS _ G4.drew H4.drew S4.drew) (fun hHeld => ?_)
 clear hK K
 refine sm ?_
 refine wpAnyH_ready (rs := [5]) (by kernel_rfl) (by simp) ?_
 refine AllReadyH.cons rfl (fun K hK => ?_) AllReadyH.nil
 go_simp
 refine (HW.out _ 2 _ L3).mono ?_
 rintro e w5 ⟨rfl, hb5⟩
 have G5 := G4.drew.call hb5
 have H5 := H4.drew.call hb5
 have R5 := R4.drew.call hb5
 have F5 := F4.drew.call hb5
 have S5 := S4.drew.call hb5
 have B5 : Below w.heap.size w w5 := B4.trans (hb5.mono B4.size)
 clear hb5 G4 H4 R4 F4 S4 B4 L3 G3 H3 R3 F3 S3 B3
 refine hK.out _ _ (KS _ G5 H5 S5) (fun hHeld => ?_)
 clear hK K
 refine sm ?_
 obtain ⟨⟨r0, r1, r2, r3, r4, r5, r6⟩, rz⟩ := id R5
 simp only [Nat.zero_add, zeroG] at r0 r1 r2 r3 r4 r5 r6
 have fz := F5.1
 refine wpAnyH_ready (rs := [6]) (by kernel_rfl) (by simp) ?_
 refine AllReadyH.cons rfl (fun K hK => ?_) AllReadyH.nil
 go_simp
 refine hK.out _ _ (KS _ (G5.put7 (by omega)) (H5.put7 (by omega)) (S5.put7 (by omega))) (fun hHeld => ?_)
 clear hK K
 refine sm ?_
 refine tH 7 ?_ ?_;refine sm ?_
 refine tH 8 ?_ ?_;refine sm ?_
 refine wpAnyH_done (by kernel_rfl) ?_ _
 go_wp2
 refine bodyPost_ret (v := .tuple #[gv ⟨false, J, false, false, []⟩ none 0, .bool wr, .int .i64 0]) (by simp [results, Tryz.results92, go_sem, r0, r1, r2, r3, r4, r5, r6]) rfl ⟨rfl, ?_⟩
 exact below_put7 B5 (by omega)) : p := h
theorem doG_5 (V F : Int) (s : Option Addr) (c : List Ins) (cap : Nat) (g : Gs) (ss : Option Addr) (gc : Nat) (h : Gs) (st : Option Addr) (hc : Nat) (w : World)
  (hcd : CodeAt w s c) (hs : IntsAt w ss g.s) (h1 : g.s.length ≤ gc) (h2 : gc ≤ maxLen) (ht : IntsAt w st h.s) (h3 : h.s.length ≤ hc) (h4 : hc ≤ maxLen) (hck : ckAllG V F c [g, h] = 0) :
  Calls Tryz.prog 92 #[pv V F s c cap, .int .i64 5, gv g ss gc, gv h st hc] w fun e w' => e = .returned (.tuple #[gv ⟨false, doSp 5 g.sp h.sp, false, false, []⟩ none 0, .bool ([g, h].any otherGs && ![g, h].any nothingGs), .int .i64 0]) ∧ Below w.heap.size w w' := by
 obtain ⟨P0, G0, H0, R0, F0⟩ := togW_at w V F s c cap g ss gc h st hc
 have B0 := togW_below w V F s c cap g ss gc h st hc
 have C0 : CodeAt (togW w V F s c cap g ss gc h st hc) s c := hcd.below B0 (Nat.le_refl _)
 have I0 : IntsAt (togW w V F s c cap g ss gc h st hc) ss g.s := hs.below B0 (Nat.le_refl _)
 have J0 : IntsAt (togW w V F s c cap g ss gc h st hc) st h.s := ht.below B0 (Nat.le_refl _)
 have L0 := GsAt.new2 (togW w V F s c cap g ss gc h st hc) g ss gc h st hc I0 h1 h2 J0 h3 h4
 simp only [World.size_alloc] at L0
 have hJ0 := fun w => do_any 5 g.sp h.sp w
 rw [show doErr 5 g.sp h.sp = 0 by unfold doErr; rw [if_pos (ckAllG_spans hck), if_pos (by decide)], show ∀ r, spIf 0 r = r from fun r => rfl] at hJ0
 have hJ := hideH hJ0
 have HK := hideH hck
 clear hck hJ0
 generalize doSp 5 g.sp h.sp = J at hJ ⊢
 exact prf_c1fa82
end
section
set_option maxHeartbeats 4000000
set_option maxRecDepth 10000
open Go.RowKit

theorem doG_6 (V F : Int) (s : Option Addr) (c : List Ins) (cap : Nat) (g : Gs) (ss : Option Addr) (gc : Nat) (h : Gs) (st : Option Addr) (hc : Nat) (w : World)
  (hcd : CodeAt w s c) (hs : IntsAt w ss g.s) (h1 : g.s.length ≤ gc) (h2 : gc ≤ maxLen) (ht : IntsAt w st h.s) (h3 : h.s.length ≤ hc) (h4 : hc ≤ maxLen) (hck : ckAllG V F c [g, h] = 0) :
  Calls Tryz.prog 92 #[pv V F s c cap, .int .i64 6, gv g ss gc, gv h st hc] w fun e w' => e = .returned (.tuple #[gv ⟨false, doSp 6 g.sp h.sp, false, false, []⟩ none 0, .bool ([g, h].any otherGs && ![g, h].any nothingGs), .int .i64 0]) ∧ Below w.heap.size w w' := by
 obtain ⟨P0, G0, H0, R0, F0⟩ := togW_at w V F s c cap g ss gc h st hc
 have B0 := togW_below w V F s c cap g ss gc h st hc
 have C0 : CodeAt (togW w V F s c cap g ss gc h st hc) s c := hcd.below B0 (Nat.le_refl _)
 have I0 : IntsAt (togW w V F s c cap g ss gc h st hc) ss g.s := hs.below B0 (Nat.le_refl _)
 have J0 : IntsAt (togW w V F s c cap g ss gc h st hc) st h.s := ht.below B0 (Nat.le_refl _)
 have L0 := GsAt.new2 (togW w V F s c cap g ss gc h st hc) g ss gc h st hc I0 h1 h2 J0 h3 h4
 simp only [World.size_alloc] at L0
 have hJ0 := fun w => do_any 6 g.sp h.sp w
 rw [show doErr 6 g.sp h.sp = 0 by unfold doErr; rw [if_pos (ckAllG_spans hck), if_pos (by decide)], show ∀ r, spIf 0 r = r from fun r => rfl] at hJ0
 have hJ := hideH hJ0
 have HK := hideH hck
 clear hck hJ0
 generalize doSp 6 g.sp h.sp = J at hJ ⊢
 exact prf_c1fa82
end
section
set_option maxHeartbeats 4000000
set_option maxRecDepth 10000
open Go.RowKit

theorem doG_7 (V F : Int) (s : Option Addr) (c : List Ins) (cap : Nat) (g : Gs) (ss : Option Addr) (gc : Nat) (h : Gs) (st : Option Addr) (hc : Nat) (w : World)
  (hcd : CodeAt w s c) (hs : IntsAt w ss g.s) (h1 : g.s.length ≤ gc) (h2 : gc ≤ maxLen) (ht : IntsAt w st h.s) (h3 : h.s.length ≤ hc) (h4 : hc ≤ maxLen) (hck : ckAllG V F c [g, h] = 0) :
  Calls Tryz.prog 92 #[pv V F s c cap, .int .i64 7, gv g ss gc, gv h st hc] w fun e w' => e = .returned (.tuple #[gv ⟨false, doSp 7 g.sp h.sp, false, false, []⟩ none 0, .bool ([g, h].any otherGs && ![g, h].any nothingGs), .int .i64 0]) ∧ Below w.heap.size w w' := by
 obtain ⟨P0, G0, H0, R0, F0⟩ := togW_at w V F s c cap g ss gc h st hc
 have B0 := togW_below w V F s c cap g ss gc h st hc
 have C0 : CodeAt (togW w V F s c cap g ss gc h st hc) s c := hcd.below B0 (Nat.le_refl _)
 have I0 : IntsAt (togW w V F s c cap g ss gc h st hc) ss g.s := hs.below B0 (Nat.le_refl _)
 have J0 : IntsAt (togW w V F s c cap g ss gc h st hc) st h.s := ht.below B0 (Nat.le_refl _)
 have L0 := GsAt.new2 (togW w V F s c cap g ss gc h st hc) g ss gc h st hc I0 h1 h2 J0 h3 h4
 simp only [World.size_alloc] at L0
 have hJ0 := fun w => do_any 7 g.sp h.sp w
 rw [show doErr 7 g.sp h.sp = 0 by unfold doErr; rw [if_pos (ckAllG_spans hck), if_pos (by decide)], show ∀ r, spIf 0 r = r from fun r => rfl] at hJ0
 have hJ := hideH hJ0
 have HK := hideH hck
 clear hck hJ0
 generalize doSp 7 g.sp h.sp = J at hJ ⊢
 exact prf_c1fa82
end
section
set_option maxHeartbeats 8000000
set_option maxRecDepth 100000
open Go.RowKit

theorem three_ways2 (a b : Bool) : (a = true ∧ b = true) ∨ a = false ∨ (a = true ∧ b = false) := by cases a <;> cases b <;> simp

theorem same_none (g : Gs) (ss : Option Addr) (gc : Nat) (h : Gs) (st : Option Addr) (hc : Nat) (w : World) (hn : [g, h].any nothingGs = true) :
  Calls Tryz.prog 124 #[gv g ss gc, gv h st hc] w fun e w' => e = .returned (.tuple #[.bool false, .bool false]) ∧ Below w.heap.size w w' := by
 have B0 : Below w.heap.size w ((w.alloc (.cells #[.bool g.n, .bool g.sp.n, .int .i64 g.sp.lo, .int .i64 g.sp.hi, .bool g.t, .bool g.f, .slice ss g.s.length gc] 61)).alloc (.cells #[.bool h.n, .bool h.sp.n, .int .i64 h.sp.lo, .int .i64 h.sp.hi, .bool h.t, .bool h.f, .slice st h.s.length hc] 61)) := by go_grown
 have G0 := (GuAt.new w g ss gc).alloc (.cells #[.bool h.n, .bool h.sp.n, .int .i64 h.sp.lo, .int .i64 h.sp.hi, .bool h.t, .bool h.f, .slice st h.s.length hc] 61)
 have H0 := GuAt.new (w.alloc (.cells #[.bool g.n, .bool g.sp.n, .int .i64 g.sp.lo, .int .i64 g.sp.hi, .bool g.t, .bool g.f, .slice ss g.s.length gc] 61)) h st hc
 rw [World.size_alloc] at H0
 have L0 := GhAt.new2 ((w.alloc (.cells #[.bool g.n, .bool g.sp.n, .int .i64 g.sp.lo, .int .i64 g.sp.hi, .bool g.t, .bool g.f, .slice ss g.s.length gc] 61)).alloc (.cells #[.bool h.n, .bool h.sp.n, .int .i64 h.sp.lo, .int .i64 h.sp.hi, .bool h.t, .bool h.f, .slice st h.s.length hc] 61)) g ss gc h st hc
 simp only [World.size_alloc] at L0
 have HN := hideH (fun lc wx hL => anyNothing_any (some ⟨w.heap.size + 1 + 1, 0, none⟩) [g, h] lc wx (by simp) hL)
 rw [hn] at HN
 clear hn
 go_enter Tryz.func124, Tryz.ntmps124
 go_wp2_with (go_at_call 150; fail)
 refine (HN.out 2 _ L0).mono ?_
 rintro e w1 ⟨rfl, hb1⟩
 go_wp2
 go_ret2
 exact ⟨rfl, (B0.alloc B0.size _).trans (hb1.mono (by simp; omega))⟩

theorem prf_f25c54 {p : Prop} (h : p := by
 rintro e w4 ⟨rfl, hb4⟩
 have G4 := G3.call hb4
 have H4 := H3.call hb4
 have B4 := B3.trans (hb4.mono B3.size)
 clear hb4 G3 H3 B3 I3 J3 G2 H2 g0 g1 g2 g3 g4 g5 g6 gz k0 k1 k2 k3 k4 k5 k6 kz
 obtain ⟨⟨g0, g1, g2, g3, g4, g5, g6⟩, gz⟩ := id G4
 obtain ⟨⟨k0, k1, k2, k3, k4, k5, k6⟩, kz⟩ := id H4
 simp only [Nat.zero_add] at g0 g1 g2 g3 g4 g5 g6 k0 k1 k2 k3 k4 k5 k6
 generalize hA' : (sl.any fun x => h'.contains x) = al at *
 have HAL := hideH hA'
 clear hA'
 go_wp2_with (go_at_call 152; fail)
 refine (HA.out _).mono ?_
 rintro e w9 ⟨rfl, hb9⟩
 go_wp2
 go_ret2
 exact ⟨ret_t2 (by rw [HY.out]; simp_all) rfl, B4.trans (hb9.mono B4.size)⟩) : p := h
theorem same_some (g : Gs) (ss : Option Addr) (gc : Nat) (h : Gs) (st : Option Addr) (hc : Nat) (w : World) (hs : IntsAt w ss g.s) (hgl : g.s.length ≤ 9223372036854775807) (ht : IntsAt w st h.s) (hlt : h.s.length ≤ 9223372036854775807) (hsp : ckSps g.sp h.sp = 0) (hn : [g, h].any nothingGs = false) :
  Calls Tryz.prog 124 #[gv g ss gc, gv h st hc] w fun e w' => e = .returned (.tuple #[.bool ((g.n && h.n) || (!(meetSp g.sp h.sp).n || ((g.t && h.t) || ((g.f && h.f) || g.s.any fun x => h.s.contains x)))), .bool (!alikeGs g h)]) ∧ Below w.heap.size w w' := by
 have B0 : Below w.heap.size w ((w.alloc (.cells #[.bool g.n, .bool g.sp.n, .int .i64 g.sp.lo, .int .i64 g.sp.hi, .bool g.t, .bool g.f, .slice ss g.s.length gc] 61)).alloc (.cells #[.bool h.n, .bool h.sp.n, .int .i64 h.sp.lo, .int .i64 h.sp.hi, .bool h.t, .bool h.f, .slice st h.s.length hc] 61)) := by go_grown
 have G0 := (GuAt.new w g ss gc).alloc (.cells #[.bool h.n, .bool h.sp.n, .int .i64 h.sp.lo, .int .i64 h.sp.hi, .bool h.t, .bool h.f, .slice st h.s.length hc] 61)
 have H0 := GuAt.new (w.alloc (.cells #[.bool g.n, .bool g.sp.n, .int .i64 g.sp.lo, .int .i64 g.sp.hi, .bool g.t, .bool g.f, .slice ss g.s.length gc] 61)) h st hc
 rw [World.size_alloc] at H0
 have L0 := GhAt.new2 ((w.alloc (.cells #[.bool g.n, .bool g.sp.n, .int .i64 g.sp.lo, .int .i64 g.sp.hi, .bool g.t, .bool g.f, .slice ss g.s.length gc] 61)).alloc (.cells #[.bool h.n, .bool h.sp.n, .int .i64 h.sp.lo, .int .i64 h.sp.hi, .bool h.t, .bool h.f, .slice st h.s.length hc] 61)) g ss gc h st hc
 simp only [World.size_alloc] at L0
 have HN := hideH (fun lc wx hL => anyNothing_any (some ⟨w.heap.size + 1 + 1, 0, none⟩) [g, h] lc wx (by simp) hL)
 rw [hn] at HN
 have hM := fun w => meetF_any g.sp h.sp w
 rw [hsp, show ∀ r, spIf 0 r = r from fun r => rfl] at hM
 have HM := hideH hM
 clear hn hsp hM
 have HA := hideH (fun w => isAlike_any g ss gc h st hc w)
 have HY : Hid (((g.n && h.n) || (!(meetSp g.sp h.sp).n || ((g.t && h.t) || ((g.f && h.f) || g.s.any fun x => h.s.contains x)))) = ((g.n && h.n) || (!(meetSp g.sp h.sp).n || ((g.t && h.t) || ((g.f && h.f) || g.s.any fun x => h.s.contains x))))) := rfl
 generalize hy : ((g.n && h.n) || (!(meetSp g.sp h.sp).n || ((g.t && h.t) || ((g.f && h.f) || g.s.any fun x => h.s.contains x)))) = yy
 have HY := hideH hy.symm
 clear hy
 generalize meetSp g.sp h.sp = M at HM HY
 generalize alikeGs g h = ak at HA ⊢
 have I0 := hs.below B0 (Nat.le_refl _)
 have J0 := ht.below B0 (Nat.le_refl _)
 clear hs ht
 go_enter Tryz.func124, Tryz.ntmps124
 go_wp2_with (go_at_call 150; fail)
 refine (HN.out 2 _ L0).mono ?_
 rintro e w1 ⟨rfl, hb1⟩
 have G1 := (G0.alloc _).call hb1
 have H1 := (H0.alloc _).call hb1
 have I1 := (I0.alloc _).call hb1
 have J1 := (J0.alloc _).call hb1
 have B1 : Below w.heap.size w w1 := (B0.alloc B0.size _).trans (hb1.mono (by simp; omega))
 clear hb1 G0 H0 I0 J0 B0 L0 HN
 obtain ⟨⟨g0, g1, g2, g3, g4, g5, g6⟩, gz⟩ := id G1
 obtain ⟨⟨k0, k1, k2, k3, k4, k5, k6⟩, kz⟩ := id H1
 simp only [Nat.zero_add] at g0 g1 g2 g3 g4 g5 g6 k0 k1 k2 k3 k4 k5 k6
 go_wp2_with (go_at_call 86; fail)
 refine (HM.out _).mono ?_
 rintro e w2 ⟨rfl, hb2⟩
 have G3 := (G1.call hb2).alloc (.cells #[.bool M.n, .int .i64 M.lo, .int .i64 M.hi] 58)
 have H3 := (H1.call hb2).alloc (.cells #[.bool M.n, .int .i64 M.lo, .int .i64 M.hi] 58)
 have I3 := (I1.call hb2).alloc (.cells #[.bool M.n, .int .i64 M.lo, .int .i64 M.hi] 58)
 have J3 := (J1.call hb2).alloc (.cells #[.bool M.n, .int .i64 M.lo, .int .i64 M.hi] 58)
 have B2 := B1.trans (hb2.mono B1.size)
 have B3 := B2.alloc B2.size (.cells #[.bool M.n, .int .i64 M.lo, .int .i64 M.hi] 58)
 have G2 := G1.call hb2
 have H2 := H1.call hb2
 clear hb2 G1 H1 I1 J1 B1 B2 g0 g1 g2 g3 g4 g5 g6 gz k0 k1 k2 k3 k4 k5 k6 kz HM
 obtain ⟨⟨g0, g1, g2, g3, g4, g5, g6⟩, gz⟩ := id G2
 obtain ⟨⟨k0, k1, k2, k3, k4, k5, k6⟩, kz⟩ := id H2
 simp only [Nat.zero_add] at g0 g1 g2 g3 g4 g5 g6 k0 k1 k2 k3 k4 k5 k6
 obtain ⟨n, sp, t, f, sl⟩ := g
 obtain ⟨n', sp', t', f', h'⟩ := h
 obtain ⟨mn, ml, mh⟩ := M
 simp only at hgl hlt
 have HY := HY
 rcases three_ways2 n n' with ⟨rfl, rfl⟩ | rfl | ⟨rfl, rfl⟩
 ·go_wp2_with (go_at_call 152; fail)
  refine (HA.out _).mono ?_
  rintro e w9 ⟨rfl, hb9⟩
  go_wp2
  go_ret2
  exact ⟨ret_t2 (by rw [HY.out]; simp_all) rfl, B3.trans (hb9.mono B3.size)⟩
 ·cases mn with
  | false =>
   go_wp2_with (go_at_call 152; fail)
   refine (HA.out _).mono ?_
   rintro e w9 ⟨rfl, hb9⟩
   go_wp2
   go_ret2
   exact ⟨ret_t2 (by rw [HY.out]; simp_all) rfl, B3.trans (hb9.mono B3.size)⟩
  | true =>
   rcases three_ways2 t t' with ⟨rfl, rfl⟩ | rfl | ⟨rfl, rfl⟩
   ·go_wp2_with (go_at_call 152; fail)
    refine (HA.out _).mono ?_
    rintro e w9 ⟨rfl, hb9⟩
    go_wp2
    go_ret2
    exact ⟨ret_t2 (by rw [HY.out]; simp_all) rfl, B3.trans (hb9.mono B3.size)⟩
   ·rcases three_ways2 f f' with ⟨rfl, rfl⟩ | rfl | ⟨rfl, rfl⟩
    ·go_wp2_with (go_at_call 152; fail)
     refine (HA.out _).mono ?_
     rintro e w9 ⟨rfl, hb9⟩
     go_wp2
     go_ret2
     exact ⟨ret_t2 (by rw [HY.out]; simp_all) rfl, B3.trans (hb9.mono B3.size)⟩
    ·go_wp2_with (go_at_call 118; fail)
     refine (containsFunc_common (w.heap.size + 1) (fun x => h'.contains x) ss gc sl _ hgl I3 fun x wx hbx => common_any x _ ⟨n', sp', t', f', h'⟩ st hc wx (H3.call hbx) (J3.call hbx) (by simpa using hlt)).mono ?_
     exact prf_f25c54
    ·go_wp2_with (go_at_call 118; fail)
     refine (containsFunc_common (w.heap.size + 1) (fun x => h'.contains x) ss gc sl _ hgl I3 fun x wx hbx => common_any x _ ⟨n', sp', t', false, h'⟩ st hc wx (H3.call hbx) (J3.call hbx) (by simpa using hlt)).mono ?_
     exact prf_f25c54
   ·rcases three_ways2 f f' with ⟨rfl, rfl⟩ | rfl | ⟨rfl, rfl⟩
    ·go_wp2_with (go_at_call 152; fail)
     refine (HA.out _).mono ?_
     rintro e w9 ⟨rfl, hb9⟩
     go_wp2
     go_ret2
     exact ⟨ret_t2 (by rw [HY.out]; simp_all) rfl, B3.trans (hb9.mono B3.size)⟩
    ·go_wp2_with (go_at_call 118; fail)
     refine (containsFunc_common (w.heap.size + 1) (fun x => h'.contains x) ss gc sl _ hgl I3 fun x wx hbx => common_any x _ ⟨n', sp', false, f', h'⟩ st hc wx (H3.call hbx) (J3.call hbx) (by simpa using hlt)).mono ?_
     exact prf_f25c54
    ·go_wp2_with (go_at_call 118; fail)
     refine (containsFunc_common (w.heap.size + 1) (fun x => h'.contains x) ss gc sl _ hgl I3 fun x wx hbx => common_any x _ ⟨n', sp', false, false, h'⟩ st hc wx (H3.call hbx) (J3.call hbx) (by simpa using hlt)).mono ?_
     exact prf_f25c54
 ·cases mn with
  | false =>
   go_wp2_with (go_at_call 152; fail)
   refine (HA.out _).mono ?_
   rintro e w9 ⟨rfl, hb9⟩
   go_wp2
   go_ret2
   exact ⟨ret_t2 (by rw [HY.out]; simp_all) rfl, B3.trans (hb9.mono B3.size)⟩
  | true =>
   rcases three_ways2 t t' with ⟨rfl, rfl⟩ | rfl | ⟨rfl, rfl⟩
   ·go_wp2_with (go_at_call 152; fail)
    refine (HA.out _).mono ?_
    rintro e w9 ⟨rfl, hb9⟩
    go_wp2
    go_ret2
    exact ⟨ret_t2 (by rw [HY.out]; simp_all) rfl, B3.trans (hb9.mono B3.size)⟩
   ·rcases three_ways2 f f' with ⟨rfl, rfl⟩ | rfl | ⟨rfl, rfl⟩
    ·go_wp2_with (go_at_call 152; fail)
     refine (HA.out _).mono ?_
     rintro e w9 ⟨rfl, hb9⟩
     go_wp2
     go_ret2
     exact ⟨ret_t2 (by rw [HY.out]; simp_all) rfl, B3.trans (hb9.mono B3.size)⟩
    ·go_wp2_with (go_at_call 118; fail)
     refine (containsFunc_common (w.heap.size + 1) (fun x => h'.contains x) ss gc sl _ hgl I3 fun x wx hbx => common_any x _ ⟨false, sp', t', f', h'⟩ st hc wx (H3.call hbx) (J3.call hbx) (by simpa using hlt)).mono ?_
     exact prf_f25c54
    ·go_wp2_with (go_at_call 118; fail)
     refine (containsFunc_common (w.heap.size + 1) (fun x => h'.contains x) ss gc sl _ hgl I3 fun x wx hbx => common_any x _ ⟨false, sp', t', false, h'⟩ st hc wx (H3.call hbx) (J3.call hbx) (by simpa using hlt)).mono ?_
     exact prf_f25c54
   ·rcases three_ways2 f f' with ⟨rfl, rfl⟩ | rfl | ⟨rfl, rfl⟩
    ·go_wp2_with (go_at_call 152; fail)
     refine (HA.out _).mono ?_
     rintro e w9 ⟨rfl, hb9⟩
     go_wp2
     go_ret2
     exact ⟨ret_t2 (by rw [HY.out]; simp_all) rfl, B3.trans (hb9.mono B3.size)⟩
    ·go_wp2_with (go_at_call 118; fail)
     refine (containsFunc_common (w.heap.size + 1) (fun x => h'.contains x) ss gc sl _ hgl I3 fun x wx hbx => common_any x _ ⟨false, sp', false, f', h'⟩ st hc wx (H3.call hbx) (J3.call hbx) (by simpa using hlt)).mono ?_
     exact prf_f25c54
    ·go_wp2_with (go_at_call 118; fail)
     refine (containsFunc_common (w.heap.size + 1) (fun x => h'.contains x) ss gc sl _ hgl I3 fun x wx hbx => common_any x _ ⟨false, sp', false, false, h'⟩ st hc wx (H3.call hbx) (J3.call hbx) (by simpa using hlt)).mono ?_
     exact prf_f25c54
end
end Go.Proofs.YtmapdpcfanecdabGreat
