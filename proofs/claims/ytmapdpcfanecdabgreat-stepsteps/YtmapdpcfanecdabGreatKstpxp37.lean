/- The document's DoGuess: kind 4. -/
import Derived.Test.YtmapdpcfanecdabGreatKstpxp08
import Derived.Test.YtmapdpcfanecdabGreatKstpxp36
import Derived.Test.YtmapdpcfanecdabGreatKstpxp01
import Derived.Test.YtmapdpcfanecdabGreatKstpxp21
import Derived.Test.YtmapdpcfanecdabGreatKstpxp18
import Derived.Test.YtmapdpcfanecdabGreatKstpxp13
import Derived.Test.YtmapdpcfanecdabGreatKstpxp15
import Derived.Test.YtmapdpcfanecdabGreatKstpxp35
import Derived.Deep.DeepCutAuto
set_option linter.unusedSimpArgs false
set_option linter.unusedVariables false
namespace Go.Proofs.YtmapdpcfanecdabGreat
section
set_option maxHeartbeats 4000000
set_option maxRecDepth 100000
open Go.RowKit

/-- What the region reads. -/
def regQ (w : World) (g : Gs) (ss : Option Addr) (gc : Nat) (h : Gs) (st : Option Addr) (hc : Nat) (w' : World) : Prop :=
 (w'.cell? ⟨w.heap.size + 1, 0, none⟩ = some (.bool g.n) ∧ w'.cell? ⟨w.heap.size + 1, 1, none⟩ = some (.bool g.sp.n) ∧ w'.cell? ⟨w.heap.size + 1, 2, none⟩ = some (.int .i64 g.sp.lo) ∧ w'.cell? ⟨w.heap.size + 1, 3, none⟩ = some (.int .i64 g.sp.hi) ∧ w'.cell? ⟨w.heap.size + 1, 4, none⟩ = some (.bool g.t) ∧ w'.cell? ⟨w.heap.size + 1, 5, none⟩ = some (.bool g.f) ∧ w'.cell? ⟨w.heap.size + 1, 6, none⟩ = some (.slice ss g.s.length gc)) ∧
 (w'.cell? ⟨w.heap.size + 1 + 1, 0, none⟩ = some (.bool h.n) ∧ w'.cell? ⟨w.heap.size + 1 + 1, 1, none⟩ = some (.bool h.sp.n) ∧ w'.cell? ⟨w.heap.size + 1 + 1, 2, none⟩ = some (.int .i64 h.sp.lo) ∧ w'.cell? ⟨w.heap.size + 1 + 1, 3, none⟩ = some (.int .i64 h.sp.hi) ∧ w'.cell? ⟨w.heap.size + 1 + 1, 4, none⟩ = some (.bool h.t) ∧ w'.cell? ⟨w.heap.size + 1 + 1, 5, none⟩ = some (.bool h.f) ∧ w'.cell? ⟨w.heap.size + 1 + 1, 6, none⟩ = some (.slice st h.s.length hc))

theorem prf_78f176 {p : Prop} (h : p := by
 refine wpAnyH_ready (rs := [11]) (by kernel_rfl) (by simp) ?_
 refine AllReadyH.cons rfl (fun K hK => ?_) AllReadyH.nil
 go_simp
 refine (HW.out _ 2 _ L5).mono ?_
 rintro e w6 ⟨rfl, hb6⟩
 have G6 := G5.call hb6
 have H6 := H5.call hb6
 have R6 := R5.call hb6
 have F6 := F5.call hb6
 have L6 := L5.call hb6
 have B6 := B5.trans (hb6.mono B5.size)
 refine hK.out _ _ (KS _ G6 H6) (fun hHeld6 => ?_)
 clear hK K hb6
 refine sm ?_
 obtain ⟨⟨r0, r1, r2, r3, r4, r5, r6⟩, rz⟩ := id R6
 simp only [Nat.zero_add, zeroG] at r0 r1 r2 r3 r4 r5 r6
 have fz := F6.1
 refine wpAnyH_ready (rs := [12]) (by kernel_rfl) (by simp) ?_
 refine AllReadyH.cons rfl (fun K hK => ?_) AllReadyH.nil
 go_simp
 refine hK.out _ _ (KS _ (G6.put7 (by omega)) (H6.put7 (by omega))) (fun hHeldz => ?_)
 clear hK K
 refine sm ?_
 refine tH 13 ?_ ?_;refine sm ?_
 refine tH 14 ?_ ?_;refine sm ?_
 refine wpAnyH_done (by kernel_rfl) ?_ _
 go_wp2
 refine bodyPost_ret (v := .tuple #[gv ⟨false, ⟨true, 0, 0⟩, y, n, []⟩ none 0, .bool wr, .int .i64 0]) (by simp [results, Tryz.results92, go_sem, r0, r1, r2, r3, r4, r5, r6]) rfl ⟨rfl, ?_⟩
 exact below_put7 B6 (by omega)) : p := h
theorem doG_8 (V F : Int) (s : Option Addr) (c : List Ins) (cap : Nat) (g : Gs) (ss : Option Addr) (gc : Nat) (h : Gs) (st : Option Addr) (hc : Nat) (w : World)
  (hcd : CodeAt w s c) (hs : IntsAt w ss g.s) (h1 : g.s.length ≤ gc) (h2 : gc ≤ maxLen) (ht : IntsAt w st h.s) (h3 : h.s.length ≤ hc) (h4 : hc ≤ maxLen) (hck : ckAllG V F c [g, h] = 0) :
  Calls Tryz.prog 92 #[pv V F s c cap, .int .i64 8, gv g ss gc, gv h st hc] w fun e w' => e = .returned (.tuple #[gv ⟨false, ⟨true, 0, 0⟩, !(g.sp.n || h.sp.n) && decide (g.sp.lo < h.sp.hi), !(g.sp.n || h.sp.n) && decide (h.sp.lo ≤ g.sp.hi), []⟩ none 0, .bool ([g, h].any otherGs && ![g, h].any nothingGs), .int .i64 0]) ∧ Below w.heap.size w w' := by
 obtain ⟨P0, G0, H0, R0, F0⟩ := togW_at w V F s c cap g ss gc h st hc
 have B0 := togW_below w V F s c cap g ss gc h st hc
 have C0 : CodeAt (togW w V F s c cap g ss gc h st hc) s c := hcd.below B0 (Nat.le_refl _)
 have I0 : IntsAt (togW w V F s c cap g ss gc h st hc) ss g.s := hs.below B0 (Nat.le_refl _)
 have J0 : IntsAt (togW w V F s c cap g ss gc h st hc) st h.s := ht.below B0 (Nat.le_refl _)
 have L0 := GsAt.new2 (togW w V F s c cap g ss gc h st hc) g ss gc h st hc I0 h1 h2 J0 h3 h4
 simp only [World.size_alloc] at L0
 have HC := hideH (checkAllG_any V F s c cap (some ⟨w.heap.size + 1 + 1 + 1 + 1, 0, none⟩) [g, h] 2 _ (C0.alloc _) L0 (by simp))
 rw [hck] at HC
 have HL := hideH (fun w => less_any g.sp h.sp w)
 generalize (!(g.sp.n || h.sp.n) && decide (g.sp.lo < h.sp.hi)) = y at HL ⊢
 generalize (!(g.sp.n || h.sp.n) && decide (h.sp.lo ≤ g.sp.hi)) = n at HL ⊢
 have HW := hideH (fun ls lc w hL => isWrong_any ls [g, h] lc w (by simp) hL)
 generalize ([g, h].any otherGs && ![g, h].any nothingGs) = wr at HW ⊢
 go_enter Tryz.func92, Tryz.ntmps92
 go_wp2_with (go_at_call 114; fail)
 refine HC.out.mono ?_
 rintro e w1 ⟨rfl, hb1⟩
 have G1 := (G0.alloc _).call hb1
 have H1 := (H0.alloc _).call hb1
 have R1 := (R0.alloc _).call hb1
 have I1 := (I0.alloc _).call hb1
 have J1 := (J0.alloc _).call hb1
 have F1 : Fr7 w1 (w.heap.size + 1 + 1 + 1) := (F0.alloc _).call hb1
 have B1 : Below w.heap.size w w1 := (B0.alloc B0.size _).trans (hb1.mono (by simp; omega))
 clear hb1 G0 H0 R0 I0 J0 F0 B0 C0 P0 L0 hcd hs ht HC
 clear I1 J1
 obtain ⟨⟨g0, g1, g2, g3, g4, g5, g6⟩, gz⟩ := id G1
 obtain ⟨⟨k0, k1, k2, k3, k4, k5, k6⟩, kz⟩ := id H1
 simp only [Nat.zero_add] at g0 g1 g2 g3 g4 g5 g6 k0 k1 k2 k3 k4 k5 k6
 go_wp2
 have KS : ∀ wx, GuAt wx (w.heap.size + 1) 0 g ss gc → GuAt wx (w.heap.size + 1 + 1) 0 h st hc → regQ w g ss gc h st hc wx := fun wx a b => ⟨by simpa using a.1, by simpa using b.1⟩
 have G2 := G1.drew
 have H2 := H1.drew
 have R2 := R1.drew
 have F2 := F1.drew
 have B2 := B1.drew
 refine wp_region_held_drew (S := regQ w g ss gc h st hc) (by kernel_rfl) (KS _ G2 H2) (fun hHeld => ?_)
 unfold regQ at hHeld KS ⊢
 clear G1 H1 R1 F1 B1 g0 g1 g2 g3 g4 g5 g6 gz k0 k1 k2 k3 k4 k5 k6 kz
 generalize w1.drew = w2 at *
 refine tH 0 ?_ ?_;refine sm ?_
 refine tH 1 ?_ ?_;refine sm ?_
 refine tH 2 ?_ ?_;refine sm ?_
 refine tH 3 ?_ ?_;refine sm ?_
 refine tH 8 ?_ ?_;refine sm ?_
 refine tH 9 ?_ ?_;refine sm ?_
 refine wpAnyH_ready (rs := [4, 10]) (by kernel_rfl) (by simp) ?_
 refine AllReadyH.cons rfl (fun K hK => ?_) (AllReadyH.cons rfl (fun K hK => ?_) AllReadyH.nil)
 ·go_simp
  refine (HL.out _).mono ?_
  rintro e w3 ⟨rfl, hb3⟩
  have G3 := G2.call hb3
  have H3 := H2.call hb3
  have R3 := R2.call hb3
  have F3 := F2.call hb3
  have B3 := B2.trans (hb3.mono B2.size)
  refine hK.out _ _ (KS _ G3 H3) (fun hHeld3 => ?_)
  clear hK K hb3
  refine sm ?_
  refine tH 5 ?_ ?_;refine sm ?_
  refine tH 6 ?_ ?_;refine sm ?_
  refine wpAnyH_ready (rs := [7, 10]) (by kernel_rfl) (by simp) ?_
  refine AllReadyH.cons rfl (fun K hK => ?_) (AllReadyH.cons rfl (fun K hK => ?_) AllReadyH.nil)
  ·go_simp
   refine (truths_any _ _ _).mono ?_
   rintro e w4 ⟨rfl, hb4⟩
   have G4 := G3.call hb4
   have H4 := H3.call hb4
   have R4 := R3.call hb4
   have F4 := F3.call hb4
   have B4 := B3.trans (hb4.mono B3.size)
   refine hK.out _ _ (KS _ G4 H4) (fun hHeld4 => ?_)
   clear hK K hb4
   refine sm ?_
   refine wpAnyH_ready (rs := [10]) (by kernel_rfl) (by simp) ?_
   refine AllReadyH.cons rfl (fun K hK => ?_) AllReadyH.nil
   go_simp
   have G5 := G4.alloc (.cells #[.bool g.n, .bool g.sp.n, .int .i64 g.sp.lo, .int .i64 g.sp.hi, .bool g.t, .bool g.f, .slice ss g.s.length gc, .bool h.n, .bool h.sp.n, .int .i64 h.sp.lo, .int .i64 h.sp.hi, .bool h.t, .bool h.f, .slice st h.s.length hc] 61)
   have H5 := H4.alloc (.cells #[.bool g.n, .bool g.sp.n, .int .i64 g.sp.lo, .int .i64 g.sp.hi, .bool g.t, .bool g.f, .slice ss g.s.length gc, .bool h.n, .bool h.sp.n, .int .i64 h.sp.lo, .int .i64 h.sp.hi, .bool h.t, .bool h.f, .slice st h.s.length hc] 61)
   have R5 := R4.alloc (.cells #[.bool g.n, .bool g.sp.n, .int .i64 g.sp.lo, .int .i64 g.sp.hi, .bool g.t, .bool g.f, .slice ss g.s.length gc, .bool h.n, .bool h.sp.n, .int .i64 h.sp.lo, .int .i64 h.sp.hi, .bool h.t, .bool h.f, .slice st h.s.length hc] 61)
   have F5 := F4.alloc (.cells #[.bool g.n, .bool g.sp.n, .int .i64 g.sp.lo, .int .i64 g.sp.hi, .bool g.t, .bool g.f, .slice ss g.s.length gc, .bool h.n, .bool h.sp.n, .int .i64 h.sp.lo, .int .i64 h.sp.hi, .bool h.t, .bool h.f, .slice st h.s.length hc] 61)
   have B5 := B4.alloc B4.size (.cells #[.bool g.n, .bool g.sp.n, .int .i64 g.sp.lo, .int .i64 g.sp.hi, .bool g.t, .bool g.f, .slice ss g.s.length gc, .bool h.n, .bool h.sp.n, .int .i64 h.sp.lo, .int .i64 h.sp.hi, .bool h.t, .bool h.f, .slice st h.s.length hc] 61)
   have L5 := GhAt.new2 w4 g ss gc h st hc
   refine hK.out _ _ (KS _ G5 H5) (fun hHeld5 => ?_)
   clear hK K
   refine sm ?_
   unfold twoW at L5
   generalize w4.alloc (.cells #[.bool g.n, .bool g.sp.n, .int .i64 g.sp.lo, .int .i64 g.sp.hi, .bool g.t, .bool g.f, .slice ss g.s.length gc, .bool h.n, .bool h.sp.n, .int .i64 h.sp.lo, .int .i64 h.sp.hi, .bool h.t, .bool h.f, .slice st h.s.length hc] 61) = w5 at *
   generalize w4.heap.size = sb at *
   exact prf_78f176
  ·go_simp
   have G4 := G3.alloc (.cells #[.bool g.n, .bool g.sp.n, .int .i64 g.sp.lo, .int .i64 g.sp.hi, .bool g.t, .bool g.f, .slice ss g.s.length gc, .bool h.n, .bool h.sp.n, .int .i64 h.sp.lo, .int .i64 h.sp.hi, .bool h.t, .bool h.f, .slice st h.s.length hc] 61)
   have H4 := H3.alloc (.cells #[.bool g.n, .bool g.sp.n, .int .i64 g.sp.lo, .int .i64 g.sp.hi, .bool g.t, .bool g.f, .slice ss g.s.length gc, .bool h.n, .bool h.sp.n, .int .i64 h.sp.lo, .int .i64 h.sp.hi, .bool h.t, .bool h.f, .slice st h.s.length hc] 61)
   have R4 := R3.alloc (.cells #[.bool g.n, .bool g.sp.n, .int .i64 g.sp.lo, .int .i64 g.sp.hi, .bool g.t, .bool g.f, .slice ss g.s.length gc, .bool h.n, .bool h.sp.n, .int .i64 h.sp.lo, .int .i64 h.sp.hi, .bool h.t, .bool h.f, .slice st h.s.length hc] 61)
   have F4 := F3.alloc (.cells #[.bool g.n, .bool g.sp.n, .int .i64 g.sp.lo, .int .i64 g.sp.hi, .bool g.t, .bool g.f, .slice ss g.s.length gc, .bool h.n, .bool h.sp.n, .int .i64 h.sp.lo, .int .i64 h.sp.hi, .bool h.t, .bool h.f, .slice st h.s.length hc] 61)
   have B4 := B3.alloc B3.size (.cells #[.bool g.n, .bool g.sp.n, .int .i64 g.sp.lo, .int .i64 g.sp.hi, .bool g.t, .bool g.f, .slice ss g.s.length gc, .bool h.n, .bool h.sp.n, .int .i64 h.sp.lo, .int .i64 h.sp.hi, .bool h.t, .bool h.f, .slice st h.s.length hc] 61)
   have L4 := GhAt.new2 w3 g ss gc h st hc
   refine hK.out _ _ (KS _ G4 H4) (fun hHeld4 => ?_)
   clear hK K
   refine sm ?_
   unfold twoW at L4
   generalize w3.alloc (.cells #[.bool g.n, .bool g.sp.n, .int .i64 g.sp.lo, .int .i64 g.sp.hi, .bool g.t, .bool g.f, .slice ss g.s.length gc, .bool h.n, .bool h.sp.n, .int .i64 h.sp.lo, .int .i64 h.sp.hi, .bool h.t, .bool h.f, .slice st h.s.length hc] 61) = w4 at *
   generalize w3.heap.size = sb at *
   refine wpAnyH_ready (rs := [7]) (by kernel_rfl) (by simp) ?_
   refine AllReadyH.cons rfl (fun K hK => ?_) AllReadyH.nil
   go_simp
   refine (truths_any _ _ _).mono ?_
   rintro e w5 ⟨rfl, hb5⟩
   have G5 := G4.call hb5
   have H5 := H4.call hb5
   have R5 := R4.call hb5
   have F5 := F4.call hb5
   have L5 := L4.call hb5
   have B5 := B4.trans (hb5.mono B4.size)
   refine hK.out _ _ (KS _ G5 H5) (fun hHeld5 => ?_)
   clear hK K hb5
   refine sm ?_
   exact prf_78f176
 ·go_simp
  have G3 := G2.alloc (.cells #[.bool g.n, .bool g.sp.n, .int .i64 g.sp.lo, .int .i64 g.sp.hi, .bool g.t, .bool g.f, .slice ss g.s.length gc, .bool h.n, .bool h.sp.n, .int .i64 h.sp.lo, .int .i64 h.sp.hi, .bool h.t, .bool h.f, .slice st h.s.length hc] 61)
  have H3 := H2.alloc (.cells #[.bool g.n, .bool g.sp.n, .int .i64 g.sp.lo, .int .i64 g.sp.hi, .bool g.t, .bool g.f, .slice ss g.s.length gc, .bool h.n, .bool h.sp.n, .int .i64 h.sp.lo, .int .i64 h.sp.hi, .bool h.t, .bool h.f, .slice st h.s.length hc] 61)
  have R3 := R2.alloc (.cells #[.bool g.n, .bool g.sp.n, .int .i64 g.sp.lo, .int .i64 g.sp.hi, .bool g.t, .bool g.f, .slice ss g.s.length gc, .bool h.n, .bool h.sp.n, .int .i64 h.sp.lo, .int .i64 h.sp.hi, .bool h.t, .bool h.f, .slice st h.s.length hc] 61)
  have F3 := F2.alloc (.cells #[.bool g.n, .bool g.sp.n, .int .i64 g.sp.lo, .int .i64 g.sp.hi, .bool g.t, .bool g.f, .slice ss g.s.length gc, .bool h.n, .bool h.sp.n, .int .i64 h.sp.lo, .int .i64 h.sp.hi, .bool h.t, .bool h.f, .slice st h.s.length hc] 61)
  have B3 := B2.alloc B2.size (.cells #[.bool g.n, .bool g.sp.n, .int .i64 g.sp.lo, .int .i64 g.sp.hi, .bool g.t, .bool g.f, .slice ss g.s.length gc, .bool h.n, .bool h.sp.n, .int .i64 h.sp.lo, .int .i64 h.sp.hi, .bool h.t, .bool h.f, .slice st h.s.length hc] 61)
  have L3 := GhAt.new2 w2 g ss gc h st hc
  refine hK.out _ _ (KS _ G3 H3) (fun hHeld3 => ?_)
  clear hK K
  refine sm ?_
  unfold twoW at L3
  generalize w2.alloc (.cells #[.bool g.n, .bool g.sp.n, .int .i64 g.sp.lo, .int .i64 g.sp.hi, .bool g.t, .bool g.f, .slice ss g.s.length gc, .bool h.n, .bool h.sp.n, .int .i64 h.sp.lo, .int .i64 h.sp.hi, .bool h.t, .bool h.f, .slice st h.s.length hc] 61) = w3 at *
  generalize w2.heap.size = sb at *
  refine wpAnyH_ready (rs := [4]) (by kernel_rfl) (by simp) ?_
  refine AllReadyH.cons rfl (fun K hK => ?_) AllReadyH.nil
  go_simp
  refine (HL.out _).mono ?_
  rintro e w4 ⟨rfl, hb4⟩
  have G4 := G3.call hb4
  have H4 := H3.call hb4
  have R4 := R3.call hb4
  have F4 := F3.call hb4
  have L4 := L3.call hb4
  have B4 := B3.trans (hb4.mono B3.size)
  refine hK.out _ _ (KS _ G4 H4) (fun hHeld4 => ?_)
  clear hK K hb4
  refine sm ?_
  refine tH 5 ?_ ?_;refine sm ?_
  refine tH 6 ?_ ?_;refine sm ?_
  refine wpAnyH_ready (rs := [7]) (by kernel_rfl) (by simp) ?_
  refine AllReadyH.cons rfl (fun K hK => ?_) AllReadyH.nil
  go_simp
  refine (truths_any _ _ _).mono ?_
  rintro e w5 ⟨rfl, hb5⟩
  have G5 := G4.call hb5
  have H5 := H4.call hb5
  have R5 := R4.call hb5
  have F5 := F4.call hb5
  have L5 := L4.call hb5
  have B5 := B4.trans (hb5.mono B4.size)
  refine hK.out _ _ (KS _ G5 H5) (fun hHeld5 => ?_)
  clear hK K hb5
  refine sm ?_
  exact prf_78f176
end
section
set_option maxHeartbeats 1000000
set_option maxRecDepth 20000
open Go.RowKit

def smallC : List Ins := [⟨1, 0, 0, 0, 5, 0⟩, ⟨18, 0, 0, 0, 0, 0⟩]

theorem small_any (w : World) :
  Calls Tryz.prog 30 #[] w fun e w' => ∃ b, e = .returned (.agg #[.int .i64 1, .int .i64 0, .slice (some ⟨b, 0, none⟩) 2 2]) ∧ CodeAt w' (some ⟨b, 0, none⟩) smallC ∧ Below w.heap.size w w' := by
 go_enter Tryz.func30, Tryz.ntmps30
 go_wp2
 refine bodyPost_ret (v := .agg #[.int .i64 1, .int .i64 0, .slice (some ⟨w.heap.size + 1, 0, none⟩) 2 2]) (by simp [results, Tryz.results30, go_sem]) rfl ⟨w.heap.size + 1, rfl, .inr ⟨_, _, rfl, by simp, ?_⟩, by go_grown⟩
 intro k hk
 match k, hk with
 | 0, _ => refine ⟨?_, ?_, ?_, ?_, ?_, ?_⟩ <;> simp [go_sem, smallC]
 | 1, _ => refine ⟨?_, ?_, ?_, ?_, ?_, ?_⟩ <;> simp [go_sem, smallC]
 | k + 2, h => simp [smallC] at h; omega
end
section
set_option maxRecDepth 100000
open Go.RowKit

/-- The two guesses, the answer's variable, and the document's own 'out'; all else is as it was. -/
def DG (w : World) (g : Gs) (ss : Option Addr) (gc : Nat) (h : Gs) (st : Option Addr) (hc : Nat) (ob : Nat) (o : Gs) (wx : World) : Prop :=
 GuAt wx w.heap.size 0 g ss gc ∧ GuAt wx (w.heap.size + 1) 0 h st hc ∧ GuAt wx (w.heap.size + 1 + 1) 0 zeroG none 0 ∧ Fr7 wx (w.heap.size + 1 + 1) ∧ GuAt wx ob 0 o none 0 ∧ Fr7 wx ob ∧ Below w.heap.size w wx ∧ w.heap.size + 1 + 1 < ob
theorem DG.call {w : World} {g : Gs} {ss : Option Addr} {gc : Nat} {h : Gs} {st : Option Addr} {hc : Nat} {ob : Nat} {o : Gs} {wx wy : World} (d : DG w g ss gc h st hc ob o wx) (hb : Below wx.heap.size wx wy) : DG w g ss gc h st hc ob o wy :=
 ⟨d.1.call hb, d.2.1.call hb, d.2.2.1.call hb, d.2.2.2.1.call hb, d.2.2.2.2.1.call hb, d.2.2.2.2.2.1.call hb, d.2.2.2.2.2.2.1.trans (hb.mono d.2.2.2.2.2.2.1.size), d.2.2.2.2.2.2.2⟩
theorem DG.drew {w : World} {g : Gs} {ss : Option Addr} {gc : Nat} {h : Gs} {st : Option Addr} {hc : Nat} {ob : Nat} {o : Gs} {wx : World} (d : DG w g ss gc h st hc ob o wx) : DG w g ss gc h st hc ob o wx.drew := d.call (Below.refl _ _).drew

theorem doW_at (w : World) (g : Gs) (ss : Option Addr) (gc : Nat) (h : Gs) (st : Option Addr) (hc : Nat) : GuAt (((w.alloc (.cells #[.bool g.n, .bool g.sp.n, .int .i64 g.sp.lo, .int .i64 g.sp.hi, .bool g.t, .bool g.f, .slice ss g.s.length gc] 61)).alloc (.cells #[.bool h.n, .bool h.sp.n, .int .i64 h.sp.lo, .int .i64 h.sp.hi, .bool h.t, .bool h.f, .slice st h.s.length hc] 61)).alloc (.cells #[.bool false, .bool false, .int .i64 0, .int .i64 0, .bool false, .bool false, .slice none 0 0] 61)) w.heap.size 0 g ss gc ∧ GuAt (((w.alloc (.cells #[.bool g.n, .bool g.sp.n, .int .i64 g.sp.lo, .int .i64 g.sp.hi, .bool g.t, .bool g.f, .slice ss g.s.length gc] 61)).alloc (.cells #[.bool h.n, .bool h.sp.n, .int .i64 h.sp.lo, .int .i64 h.sp.hi, .bool h.t, .bool h.f, .slice st h.s.length hc] 61)).alloc (.cells #[.bool false, .bool false, .int .i64 0, .int .i64 0, .bool false, .bool false, .slice none 0 0] 61)) (w.heap.size + 1) 0 h st hc ∧ GuAt (((w.alloc (.cells #[.bool g.n, .bool g.sp.n, .int .i64 g.sp.lo, .int .i64 g.sp.hi, .bool g.t, .bool g.f, .slice ss g.s.length gc] 61)).alloc (.cells #[.bool h.n, .bool h.sp.n, .int .i64 h.sp.lo, .int .i64 h.sp.hi, .bool h.t, .bool h.f, .slice st h.s.length hc] 61)).alloc (.cells #[.bool false, .bool false, .int .i64 0, .int .i64 0, .bool false, .bool false, .slice none 0 0] 61)) (w.heap.size + 1 + 1) 0 zeroG none 0 ∧ Fr7 (((w.alloc (.cells #[.bool g.n, .bool g.sp.n, .int .i64 g.sp.lo, .int .i64 g.sp.hi, .bool g.t, .bool g.f, .slice ss g.s.length gc] 61)).alloc (.cells #[.bool h.n, .bool h.sp.n, .int .i64 h.sp.lo, .int .i64 h.sp.hi, .bool h.t, .bool h.f, .slice st h.s.length hc] 61)).alloc (.cells #[.bool false, .bool false, .int .i64 0, .int .i64 0, .bool false, .bool false, .slice none 0 0] 61)) (w.heap.size + 1 + 1) ∧ Below w.heap.size w (((w.alloc (.cells #[.bool g.n, .bool g.sp.n, .int .i64 g.sp.lo, .int .i64 g.sp.hi, .bool g.t, .bool g.f, .slice ss g.s.length gc] 61)).alloc (.cells #[.bool h.n, .bool h.sp.n, .int .i64 h.sp.lo, .int .i64 h.sp.hi, .bool h.t, .bool h.f, .slice st h.s.length hc] 61)).alloc (.cells #[.bool false, .bool false, .int .i64 0, .int .i64 0, .bool false, .bool false, .slice none 0 0] 61)) := by
 obtain ⟨G0, H0, B0⟩ := two_at w g ss gc h st hc
 have R0 := GuAt.new ((w.alloc (.cells #[.bool g.n, .bool g.sp.n, .int .i64 g.sp.lo, .int .i64 g.sp.hi, .bool g.t, .bool g.f, .slice ss g.s.length gc] 61)).alloc (.cells #[.bool h.n, .bool h.sp.n, .int .i64 h.sp.lo, .int .i64 h.sp.hi, .bool h.t, .bool h.f, .slice st h.s.length hc] 61)) zeroG none 0
 rw [World.size_alloc, World.size_alloc] at R0
 exact ⟨G0.alloc _, H0.alloc _, R0, ⟨fun j => by simp [go_sem], by simp⟩, by go_grown⟩
/-- Behind the call of Nothing: the answer lies in a new block. -/
theorem doW_out {w : World} {g : Gs} {ss : Option Addr} {gc : Nat} {h : Gs} {st : Option Addr} {hc : Nat} {w1 : World} (hb : Below (((w.alloc (.cells #[.bool g.n, .bool g.sp.n, .int .i64 g.sp.lo, .int .i64 g.sp.hi, .bool g.t, .bool g.f, .slice ss g.s.length gc] 61)).alloc (.cells #[.bool h.n, .bool h.sp.n, .int .i64 h.sp.lo, .int .i64 h.sp.hi, .bool h.t, .bool h.f, .slice st h.s.length hc] 61)).alloc (.cells #[.bool false, .bool false, .int .i64 0, .int .i64 0, .bool false, .bool false, .slice none 0 0] 61)).heap.size (((w.alloc (.cells #[.bool g.n, .bool g.sp.n, .int .i64 g.sp.lo, .int .i64 g.sp.hi, .bool g.t, .bool g.f, .slice ss g.s.length gc] 61)).alloc (.cells #[.bool h.n, .bool h.sp.n, .int .i64 h.sp.lo, .int .i64 h.sp.hi, .bool h.t, .bool h.f, .slice st h.s.length hc] 61)).alloc (.cells #[.bool false, .bool false, .int .i64 0, .int .i64 0, .bool false, .bool false, .slice none 0 0] 61)) w1) : DG w g ss gc h st hc w1.heap.size noneG (w1.alloc (.cells #[.bool noneG.n, .bool noneG.sp.n, .int .i64 noneG.sp.lo, .int .i64 noneG.sp.hi, .bool noneG.t, .bool noneG.f, .slice none noneG.s.length 0] 61)) := by
 obtain ⟨G0, H0, R0, F0, B0⟩ := doW_at w g ss gc h st hc
 have G1 := (G0.call hb).alloc (.cells #[.bool noneG.n, .bool noneG.sp.n, .int .i64 noneG.sp.lo, .int .i64 noneG.sp.hi, .bool noneG.t, .bool noneG.f, .slice none noneG.s.length 0] 61)
 have H1 := (H0.call hb).alloc (.cells #[.bool noneG.n, .bool noneG.sp.n, .int .i64 noneG.sp.lo, .int .i64 noneG.sp.hi, .bool noneG.t, .bool noneG.f, .slice none noneG.s.length 0] 61)
 have z := (R0.call hb).2
 have R1 := (R0.call hb).alloc (.cells #[.bool noneG.n, .bool noneG.sp.n, .int .i64 noneG.sp.lo, .int .i64 noneG.sp.hi, .bool noneG.t, .bool noneG.f, .slice none noneG.s.length 0] 61)
 have F1 := (F0.call hb).alloc (.cells #[.bool noneG.n, .bool noneG.sp.n, .int .i64 noneG.sp.lo, .int .i64 noneG.sp.hi, .bool noneG.t, .bool noneG.f, .slice none noneG.s.length 0] 61)
 have B1 := B0.trans (hb.mono B0.size)
 exact ⟨G1, H1, R1, F1, GuAt.new w1 noneG none 0, ⟨fun j => by simp [go_sem], by simp⟩, B1.alloc B1.size _, z⟩
/-- .. and stores to it: .. -/
theorem DG.out {w : World} {g : Gs} {ss : Option Addr} {gc : Nat} {h : Gs} {st : Option Addr} {hc : Nat} {ob : Nat} {o o' : Gs} {wx wy : World} (d : DG w g ss gc h st hc ob o wx) (hb : ∀ k, k ≠ ob → wy.heap[k]? = wx.heap[k]?) (hz : wy.heap.size = wx.heap.size) (hf : Fr7 wy ob) (ho : GuAt wy ob 0 o' none 0) (hB : Below w.heap.size w wy) : DG w g ss gc h st hc ob o' wy := by
 have hg : ∀ {k : Nat} {x : Gs} {xs : Option Addr} {xc : Nat}, k ≠ ob → GuAt wx k 0 x xs xc → GuAt wy k 0 x xs xc := by
  intro k x xs xc hk hg
  obtain ⟨⟨h0, h1, h2, h3, h4, h5, h6⟩, hz'⟩ := hg
  have hc : ∀ j, wy.cell? ⟨k, j, none⟩ = wx.cell? ⟨k, j, none⟩ := fun j => World.cell?_of_block (a := ⟨k, j, none⟩) (hb k hk)
  exact ⟨⟨(hc _).trans h0, (hc _).trans h1, (hc _).trans h2, (hc _).trans h3, (hc _).trans h4, (hc _).trans h5, (hc _).trans h6⟩, by rw [hz]; exact hz'⟩
 have z := d.2.2.2.2.2.2.2
 refine ⟨hg (by omega) d.1, hg (by omega) d.2.1, hg (by omega) d.2.2.1, ⟨fun j => ?_, by rw [hz]; exact d.2.2.2.1.2⟩, ho, hf, hB, z⟩
 rw [World.frozen?_of_block (a := ⟨w.heap.size + 1 + 1, j, none⟩) (hb _ (by show w.heap.size + 1 + 1 ≠ ob; omega))]
 exact d.2.2.2.1.1 j
theorem prf_3190b5 {p : Prop} (h : p := by
 obtain ⟨⟨h0, h1, h2, h3, h4, h5, h6⟩, hz⟩ := d.2.2.2.2.1
 simp only [Nat.zero_add] at h0 h1 h2 h3 h4 h5 h6
 exact ⟨⟨by simp [go_sem, h0], by simp [go_sem, h1], by simp [go_sem, h2], by simp [go_sem, h3], by simp [go_sem, h4], by simp [go_sem, h5], by simp [go_sem, h6]⟩, by simpa using hz⟩) : p := h
theorem DG.t {w : World} {g : Gs} {ss : Option Addr} {gc : Nat} {h : Gs} {st : Option Addr} {hc : Nat} {ob : Nat} {o : Gs} {wx : World} {y : Bool} (d : DG w g ss gc h st hc ob o wx) : DG w g ss gc h st hc ob ⟨o.n, o.sp, y, o.f, o.s⟩ (wx.setCell ⟨ob, 4, none⟩ (.bool y)) := by
 have z := d.2.2.2.2.2.2.2
 refine d.out (fun k hk => Below.heap_setCell _ _ _ _ hk) (by simp) d.2.2.2.2.2.1.set ?_ (d.2.2.2.2.2.2.1.setCell (by simp; omega) _)
 exact prf_3190b5
theorem DG.f {w : World} {g : Gs} {ss : Option Addr} {gc : Nat} {h : Gs} {st : Option Addr} {hc : Nat} {ob : Nat} {o : Gs} {wx : World} {y : Bool} (d : DG w g ss gc h st hc ob o wx) : DG w g ss gc h st hc ob ⟨o.n, o.sp, o.t, y, o.s⟩ (wx.setCell ⟨ob, 5, none⟩ (.bool y)) := by
 have z := d.2.2.2.2.2.2.2
 refine d.out (fun k hk => Below.heap_setCell _ _ _ _ hk) (by simp) d.2.2.2.2.2.1.set ?_ (d.2.2.2.2.2.2.1.setCell (by simp; omega) _)
 exact prf_3190b5
theorem DG.sp {w : World} {g : Gs} {ss : Option Addr} {gc : Nat} {h : Gs} {st : Option Addr} {hc : Nat} {ob : Nat} {o : Gs} {wx : World} {s : Sp} (d : DG w g ss gc h st hc ob o wx) : DG w g ss gc h st hc ob ⟨o.n, s, o.t, o.f, o.s⟩ (((wx.setCell ⟨ob, 1, none⟩ (.bool s.n)).setCell ⟨ob, 2, none⟩ (.int .i64 s.lo)).setCell ⟨ob, 3, none⟩ (.int .i64 s.hi)) := by
 have z := d.2.2.2.2.2.2.2
 refine d.out (fun k hk => by rw [Below.heap_setCell _ _ _ _ hk, Below.heap_setCell _ _ _ _ hk, Below.heap_setCell _ _ _ _ hk]) (by simp) d.2.2.2.2.2.1.set.set.set ?_ (((d.2.2.2.2.2.2.1.setCell (by simp; omega) _).setCell (by simp; omega) _).setCell (by simp; omega) _)
 exact prf_3190b5
end
section
set_option maxHeartbeats 4000000
set_option maxRecDepth 10000
open Go.RowKit

theorem doR_4 (w : World) (g : Gs) (ss : Option Addr) (gc : Nat) (h : Gs) (st : Option Addr) (hc : Nat) :
  Calls Tryz.prog 27 #[.int .i64 4, gv g ss gc, gv h st hc] w fun e w' => e = .returned (if nothingGs g = true then .tuple #[gv noneG none 0, .bool false] else .tuple #[gv g ss gc, .bool false]) ∧ Below w.heap.size w w' := by
 generalize hnn : nothingGs g = nn
 have Hnn := hideH hnn
 clear hnn
 have HNg := hideH (fun w => isNothing_any g ss gc w)
 have HNh := hideH (fun w => isNothing_any h st hc w)
 generalize nothingGs g = ng at *
 generalize nothingGs h = nh at *
 go_enter Tryz.func27, Tryz.ntmps27
 go_upto_region 1 with fail
 go_cut [8] (fun t wy => ∃ ob, t = .pointer (some ⟨ob, 0, none⟩) ∧ DG w g ss gc h st hc ob noneG wy)
 case first =>
  go_wp2_with (go_at_call 21; fail)
  refine (nothingR_any _).mono ?_
  rintro e w1 ⟨rfl, hb1⟩
  have D1 := doW_out hb1
  go_wp2_with fail
  go_meet
  refine ⟨w1.heap.size, rfl, ?_⟩
  exact D1
 obtain ⟨ob, rfl, D1⟩ := hcut
 obtain ⟨⟨g0, g1, g2, g3, g4, g5, g6⟩, gz⟩ := id D1.1
 simp only [Nat.zero_add] at g0 g1 g2 g3 g4 g5 g6
 obtain ⟨⟨k0, k1, k2, k3, k4, k5, k6⟩, kz⟩ := id D1.2.1
 simp only [Nat.zero_add] at k0 k1 k2 k3 k4 k5 k6
 have fz := D1.2.2.2.1.1
 have fo := D1.2.2.2.2.2.1.1
 have zo := D1.2.2.2.2.2.2.2
 go_upto_region 2 with fail
 go_cut [27] (fun t wy => t = .bool nn ∧ DG w g ss gc h st hc ob noneG wy)
 case first =>
  go_wp2_with (go_at_call 28; fail)
  refine (HNg.out _).mono ?_
  rintro e w2 ⟨rfl, hb2⟩
  have D2 := D1.call hb2
  clear g0 g1 g2 g3 g4 g5 g6 gz k0 k1 k2 k3 k4 k5 k6 kz fz fo
  cases ng with
  | true =>
   go_wp2_with fail
   go_meet
   exact ⟨by rw [← Hnn.out]; first | done | rfl | simp, D2⟩
  | false =>
   go_wp2_with fail
   go_meet
   exact ⟨by rw [← Hnn.out]; first | done | rfl | simp, D2⟩
 obtain ⟨rfl, D2⟩ := hcut
 clear g0 g1 g2 g3 g4 g5 g6 gz k0 k1 k2 k3 k4 k5 k6 kz fz fo zo D1 HNg HNh Hnn
 cases nn with
 | true =>
  obtain ⟨⟨g0, g1, g2, g3, g4, g5, g6⟩, gz⟩ := id D2.1
  simp only [Nat.zero_add] at g0 g1 g2 g3 g4 g5 g6
  obtain ⟨⟨r0, r1, r2, r3, r4, r5, r6⟩, rz⟩ := id D2.2.2.1
  simp only [Nat.zero_add] at r0 r1 r2 r3 r4 r5 r6
  obtain ⟨⟨o0, o1, o2, o3, o4, o5, o6⟩, oz⟩ := id D2.2.2.2.2.1
  simp only [Nat.zero_add] at o0 o1 o2 o3 o4 o5 o6
  simp only [zeroG] at r0 r1 r2 r3 r4 r5 r6
  have fz := D2.2.2.2.1.1
  have fo := D2.2.2.2.2.2.1.1
  have zo := D2.2.2.2.2.2.2.2
  simp only [noneG] at o0 o1 o2 o3 o4 o5 o6
  go_wp2
  refine bodyPost_ret (v := .tuple #[gv noneG none 0, .bool false]) (by simp [results, Tryz.results27, go_sem, r0, r1, r2, r3, r4, r5, r6, noneG]) rfl ⟨?_, ?_⟩
  ·rfl
  ·exact below_put7 D2.2.2.2.2.2.2.1 (by omega)
 | false =>
  obtain ⟨⟨g0, g1, g2, g3, g4, g5, g6⟩, gz⟩ := id D2.1
  simp only [Nat.zero_add] at g0 g1 g2 g3 g4 g5 g6
  obtain ⟨⟨r0, r1, r2, r3, r4, r5, r6⟩, rz⟩ := id D2.2.2.1
  simp only [Nat.zero_add] at r0 r1 r2 r3 r4 r5 r6
  simp only [zeroG] at r0 r1 r2 r3 r4 r5 r6
  have fz := D2.2.2.2.1.1
  have fo := D2.2.2.2.2.2.1.1
  have zo := D2.2.2.2.2.2.2.2
  go_wp2
  refine bodyPost_ret (v := .tuple #[gv g ss gc, .bool false]) (by simp [results, Tryz.results27, go_sem, r0, r1, r2, r3, r4, r5, r6]) rfl ⟨?_, ?_⟩
  ·rfl
  ·exact below_put7 D2.2.2.2.2.2.2.1 (by omega)
end
end Go.Proofs.YtmapdpcfanecdabGreat
