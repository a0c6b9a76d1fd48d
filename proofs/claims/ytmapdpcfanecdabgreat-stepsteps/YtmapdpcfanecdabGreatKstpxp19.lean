/- Walks over the document's own answers: guesses: JoinGuess: join. -/
import Derived.Test.YtmapdpcfanecdabGreatKstpxp08
import Derived.Test.YtmapdpcfanecdabGreatKstpxp18
set_option linter.unusedSimpArgs false
set_option linter.unusedVariables false
namespace Go.Proofs.YtmapdpcfanecdabGreat
section
set_option maxHeartbeats 4000000
set_option maxRecDepth 100000
open Go.RowKit

theorem prf_2e4561 {p : Prop} (h : p := by
 have hln := HL.out k
 go_wp2_with (at_builtin; refine wpList_append_own _ rfl _ _ 59 rfl W.heap.size 3 ti (.int .i64 0) 1 8 Tryz.underlying59 hi hz0 hz1 hz2 rfl (by decide) _ _ _ rfl (OR.alloc _) ⟨wr.heap.size, 0, none⟩ 1 1 [.int .i64 (k : Int)] rfl rfl (cell_one_new _ _ _) (fun x hx => by simp at hx; subst hx; rfl) (by unfold maxLen; omega) (by omega) (by simp; omega) ?_; intro v' w3 hown' hgrow3 hnil3; have hlow : ∀ b, b < W.heap.size → some b ≠ (Value.slice vs (siteTo sl h.s k).length vc).ownBlock := (fun b hb e => by have := ownsRow_lowG OR e.symm; omega); have O3 : w3.ownsRow W.heap.size 3 1 v' (siteTo sl h.s (k + 1)).length ((siteTo sl h.s (k + 1)).map (.int .i64)) := (by rw [HT.out, List.map_append, List.length_append]; exact hown'); obtain ⟨vs', vc', hv', -⟩ := IntsAt.own O3; subst hv'; have G3 := ((GR.alloc _).grown hgrow3 (hlow _ (by omega))); have H3 := ((HR.alloc _).grown hgrow3 (hlow _ (by omega))); have R3 := ((RR.alloc _).grown hgrow3 (hlow _ (by omega))); have F3 := ((FR.alloc _).grown hgrow3 (hlow _ (by omega))); have U3 := ((UR.alloc _).grown hgrow3 (hlow _ (by omega))); have X3 := ((XR.alloc _).grown hgrow3 (hlow _ (by omega))); have B3 := ((BR.alloc BR.size _).grown hgrow3 (by simp; have := BR.size; omega) (fun j hj => by have := ownsRow_lowG OR hj; omega)); have z3 := hgrow3.size; simp only [World.size_alloc] at z3; obtain ⟨⟨u0, u1, u2, u3, u4, u5, u6⟩, uz⟩ := id U3; simp only [Nat.zero_add] at u0 u1 u2 u3 u4 u5 u6; have fz3 := X3.1)
 go_roundw
 case rel => exact ⟨k + 1, vs', vc', by omega, by go_num, G3.setFar (by omega), H3.setFar (by omega), R3.setFar (by omega), F3.set, U3.setS, X3.set, ownsRow_setFar O3 (by omega), by simp; omega, B3.setCell (by show w.heap.size ≤ ob; omega) _⟩
 case measure => simp [intOf]; omega) : p := h
theorem prf_89a229 {p : Prop} (h : p := by
 go_wp2_with (go_at_call 59; fail)
 refine (hasR_any (k : Int) ss gc sl _ hgl IR).mono ?_
 rintro e w5 ⟨rfl, hw5⟩
 have hw6 := hw5.symm
 subst hw6
 have HD : Hid (sl.contains (k : Int) = sl.contains (k : Int)) := rfl
 generalize hd : sl.contains (k : Int) = d at *
 have HE := hideH hd
 clear hd HD hw5
 cases d with
 | true =>
  have HT : Hid (siteTo sl h.s (k + 1) = siteTo sl h.s k ++ [(k : Int)]) := by show _ = _; rw [HS.out k, if_pos]; simp only [HE.out, Bool.true_or]
  exact prf_2e4561
 | false =>
  go_wp2_with (go_at_call 59; fail)
  refine (hasR_any (k : Int) st hc h.s _ hlt' JR).mono ?_
  rintro e w5 ⟨rfl, hw5⟩
  have hw6 := hw5.symm
  subst hw6
  generalize hd2 : h.s.contains (k : Int) = d2 at *
  have HE2 := hideH hd2
  clear hd2 hw5
  cases d2 with
  | true =>
   have HT : Hid (siteTo sl h.s (k + 1) = siteTo sl h.s k ++ [(k : Int)]) := by show _ = _; rw [HS.out k, if_pos]; simp only [HE.out, HE2.out, Bool.false_or]
   exact prf_2e4561
  | false =>
   have HT : Hid (siteTo sl h.s (k + 1) = siteTo sl h.s k) := by show _ = _; rw [HS.out k, if_neg (by simp only [HE.out, HE2.out]; simp), List.append_nil]
   go_wp2
   go_roundw
   case rel => exact ⟨k + 1, vs, vc, by omega, by go_num, GR, HR, RR, FR, by rw [HT.out]; exact UR, XR, by rw [HT.out]; exact OR, zR, BR⟩
   case measure => simp [intOf]; omega) : p := h
theorem prf_4b75aa {p : Prop} (h : p := by
 have HS := hideH (siteTo_succ g.s h.s)
 have HL := hideH (siteTo_len g.s h.s)
 clear G0 H0 B0
 go_enter Tryz.func26, Tryz.ntmps26
 go_wp2
 generalize ((w.alloc (.cells #[.bool g.n, .bool g.sp.n, .int .i64 g.sp.lo, .int .i64 g.sp.hi, .bool g.t, .bool g.f, .slice ss g.s.length gc] 61)).alloc (.cells #[.bool h.n, .bool h.sp.n, .int .i64 h.sp.lo, .int .i64 h.sp.hi, .bool h.t, .bool h.f, .slice st h.s.length hc] 61)).alloc (.cells #[.bool false, .bool false, .int .i64 0, .int .i64 0, .bool false, .bool false, .slice none 0 0] 61) = w1 at *
 have KS : ∀ wx, GuAt wx w.heap.size 0 g ss gc → GuAt wx (w.heap.size + 1) 0 h st hc → regP w g ss gc h st hc wx := fun wx a b => ⟨by simpa using a.1, by simpa using b.1⟩
 unfold regP at KS
 obtain ⟨n, sp, t, f, sl⟩ := g
 refine wp_region_held_drew (S := regP w ⟨n, sp, t, f, sl⟩ ss gc h st hc) (by kernel_rfl) (KS _ G1.drew H1.drew) (fun hHeld => ?_)
 unfold regP at hHeld ⊢
 refine tH 0 ?_ ?_;refine sm ?_
 refine tH 1 ?_ ?_;refine sm ?_
 refine tH 2 ?_ ?_;refine sm ?_
 refine wpAnyH_take (i := 3) (v := if n = true then undef else .pointer (some ⟨w.heap.size + 1, 0, none⟩)) rfl (by kernel_rfl) (by kernel_rfl) (by kernel_rfl) (fun _ _ _ h => h) ?_ (by assumption) ?_
 ·cases n
  ·refine Or.inl ⟨?_, ?_⟩
   ·rfl
   ·(intro w hSw; (try dsimp only at hSw); first | (go_simp; done) | (go_simp; with_reducible rfl))
  ·exact Or.inr ⟨rfl, rfl⟩
 refine sm ?_
 refine wpAnyH_take (i := 4) (v := if n = true then undef else .bool h.n) rfl (by kernel_rfl) (by kernel_rfl) (by kernel_rfl) (fun _ _ _ h => h) ?_ (by assumption) ?_
 ·cases n
  ·refine Or.inl ⟨?_, ?_⟩
   ·rfl
   ·(intro w hSw; (try dsimp only at hSw); first | (go_simp; done) | (go_simp; with_reducible rfl))
  ·exact Or.inr ⟨rfl, rfl⟩
 refine sm ?_
 refine wpAnyH_take (i := 5) (v := .bool (n || h.n)) rfl (by kernel_rfl) (by kernel_rfl) (by kernel_rfl) (fun _ _ _ h => h) ?_ (by assumption) ?_
 ·cases n
  ·refine Or.inl ⟨?_, ?_⟩
   ·rfl
   ·(intro w hSw; (try dsimp only at hSw); first | (go_simp; done) | (go_simp; with_reducible rfl))
  ·refine Or.inl ⟨?_, ?_⟩
   ·rfl
   ·(intro w hSw; (try dsimp only at hSw); first | (go_simp; done) | (go_simp; with_reducible rfl))
 refine sm ?_
 refine tH 6 ?_ ?_;refine sm ?_
 refine tH 7 ?_ ?_;refine sm ?_
 refine tH 8 ?_ ?_;refine sm ?_
 refine tH 9 ?_ ?_;refine sm ?_
 refine tH 10 ?_ ?_;refine sm ?_
 refine tH 12 ?_ ?_;refine sm ?_
 refine tH 13 ?_ ?_;refine sm ?_
 refine tH 18 ?_ ?_;refine sm ?_
 refine tH 19 ?_ ?_;refine sm ?_
 refine wpAnyH_ready (rs := [11, 25]) (by kernel_rfl) (by simp) ?_
 refine AllReadyH.cons rfl (fun K hK => ?_) (AllReadyH.cons rfl (fun K hK => ?_) AllReadyH.nil)
 ·go_simp
  refine (HJ.out _).mono ?_
  rintro e w2 ⟨rfl, hb2⟩
  have G2 := G1.drew.call hb2
  have H2 := H1.drew.call hb2
  have R2 := R1.drew.call hb2
  have F2 := F1.drew.call hb2
  have B2 : Below w.heap.size w w2 := B1.drew.trans (hb2.mono B1.size)
  clear hb2 G1 H1 R1 F1 B1
  refine hK.out _ _ (KS _ G2 H2) (fun hHeld => ?_)
  clear hK K
  refine sm ?_
  refine tH 14 ?_ ?_;refine sm ?_
  refine wpAnyH_take (i := 15) (v := if t = true then undef else .pointer (some ⟨w.heap.size + 1, 4, none⟩)) rfl (by kernel_rfl) (by kernel_rfl) (by kernel_rfl) (fun _ _ _ h => h) ?_ (by assumption) ?_
  ·cases t
   ·refine Or.inl ⟨?_, ?_⟩
    ·rfl
    ·(intro w hSw; (try dsimp only at hSw); first | (go_simp; done) | (go_simp; with_reducible rfl))
   ·exact Or.inr ⟨rfl, rfl⟩
  refine sm ?_
  refine wpAnyH_take (i := 16) (v := if t = true then undef else .bool h.t) rfl (by kernel_rfl) (by kernel_rfl) (by kernel_rfl) (fun _ _ _ h => h) ?_ (by assumption) ?_
  ·cases t
   ·refine Or.inl ⟨?_, ?_⟩
    ·rfl
    ·(intro w hSw; (try dsimp only at hSw); first | (go_simp; done) | (go_simp; with_reducible rfl))
   ·exact Or.inr ⟨rfl, rfl⟩
  refine sm ?_
  refine wpAnyH_take (i := 17) (v := .bool (t || h.t)) rfl (by kernel_rfl) (by kernel_rfl) (by kernel_rfl) (fun _ _ _ h => h) ?_ (by assumption) ?_
  ·cases t
   ·refine Or.inl ⟨?_, ?_⟩
    ·rfl
    ·(intro w hSw; (try dsimp only at hSw); first | (go_simp; done) | (go_simp; with_reducible rfl))
   ·refine Or.inl ⟨?_, ?_⟩
    ·rfl
    ·(intro w hSw; (try dsimp only at hSw); first | (go_simp; done) | (go_simp; with_reducible rfl))
  refine sm ?_
  refine tH 20 ?_ ?_;refine sm ?_
  refine wpAnyH_take (i := 21) (v := if f = true then undef else .pointer (some ⟨w.heap.size + 1, 5, none⟩)) rfl (by kernel_rfl) (by kernel_rfl) (by kernel_rfl) (fun _ _ _ h => h) ?_ (by assumption) ?_
  ·cases f
   ·refine Or.inl ⟨?_, ?_⟩
    ·rfl
    ·(intro w hSw; (try dsimp only at hSw); first | (go_simp; done) | (go_simp; with_reducible rfl))
   ·exact Or.inr ⟨rfl, rfl⟩
  refine sm ?_
  refine wpAnyH_take (i := 22) (v := if f = true then undef else .bool h.f) rfl (by kernel_rfl) (by kernel_rfl) (by kernel_rfl) (fun _ _ _ h => h) ?_ (by assumption) ?_
  ·cases f
   ·refine Or.inl ⟨?_, ?_⟩
    ·rfl
    ·(intro w hSw; (try dsimp only at hSw); first | (go_simp; done) | (go_simp; with_reducible rfl))
   ·exact Or.inr ⟨rfl, rfl⟩
  refine sm ?_
  refine wpAnyH_take (i := 23) (v := .bool (f || h.f)) rfl (by kernel_rfl) (by kernel_rfl) (by kernel_rfl) (fun _ _ _ h => h) ?_ (by assumption) ?_
  ·cases f
   ·refine Or.inl ⟨?_, ?_⟩
    ·rfl
    ·(intro w hSw; (try dsimp only at hSw); first | (go_simp; done) | (go_simp; with_reducible rfl))
   ·refine Or.inl ⟨?_, ?_⟩
    ·rfl
    ·(intro w hSw; (try dsimp only at hSw); first | (go_simp; done) | (go_simp; with_reducible rfl))
  refine sm ?_
  refine tH 24 ?_ ?_;refine sm ?_
  refine wpAnyH_ready (rs := [25]) (by kernel_rfl) (by simp) ?_
  refine AllReadyH.cons rfl (fun K hK => ?_) AllReadyH.nil
  go_simp
  refine hK.out _ _ (KS _ (G2.alloc _) (H2.alloc _)) (fun hHeld => ?_)
  clear hK K
  refine sm ?_
  refine wpAnyH_ready (rs := [26]) (by kernel_rfl) (by simp) ?_
  refine AllReadyH.cons rfl (fun K hK => ?_) AllReadyH.nil
  go_simp
  refine hK.out _ _ (KS _ (G2.alloc _) (H2.alloc _)) (fun hHeld => ?_)
  clear hK K
  refine sm ?_
  have GW := G2.alloc (.cells #[.bool (n || h.n), .bool J.n, .int .i64 J.lo, .int .i64 J.hi, .bool (t || h.t), .bool (f || h.f), .slice none 0 0] 61)
  have HW := H2.alloc (.cells #[.bool (n || h.n), .bool J.n, .int .i64 J.lo, .int .i64 J.hi, .bool (t || h.t), .bool (f || h.f), .slice none 0 0] 61)
  have RW := R2.alloc (.cells #[.bool (n || h.n), .bool J.n, .int .i64 J.lo, .int .i64 J.hi, .bool (t || h.t), .bool (f || h.f), .slice none 0 0] 61)
  have FW := F2.alloc (.cells #[.bool (n || h.n), .bool J.n, .int .i64 J.lo, .int .i64 J.hi, .bool (t || h.t), .bool (f || h.f), .slice none 0 0] 61)
  have BW := B2.alloc B2.size (.cells #[.bool (n || h.n), .bool J.n, .int .i64 J.lo, .int .i64 J.hi, .bool (t || h.t), .bool (f || h.f), .slice none 0 0] 61)
  have UW : GuAt (w2.alloc (.cells #[.bool (n || h.n), .bool J.n, .int .i64 J.lo, .int .i64 J.hi, .bool (t || h.t), .bool (f || h.f), .slice none 0 0] 61)) w2.heap.size 0 ⟨n || h.n, J, t || h.t, f || h.f, siteTo sl h.s 0⟩ none 0 := GuAt.new w2 ⟨n || h.n, J, t || h.t, f || h.f, []⟩ none 0
  have XW : Fr7 (w2.alloc (.cells #[.bool (n || h.n), .bool J.n, .int .i64 J.lo, .int .i64 J.hi, .bool (t || h.t), .bool (f || h.f), .slice none 0 0] 61)) w2.heap.size := ⟨fun j => by simp [go_sem], by simp⟩
  have zo : w.heap.size + 1 + 1 < w2.heap.size := F2.2
  have zw := XW.2
  clear G2 H2 R2 F2 B2
  generalize w2.alloc (.cells #[.bool (n || h.n), .bool J.n, .int .i64 J.lo, .int .i64 J.hi, .bool (t || h.t), .bool (f || h.f), .slice none 0 0] 61) = W at *
  generalize w2.heap.size = ob at *
  refine wpAnyH_done (by kernel_rfl) ?_ _
  generalize (if n = true then undef else (.pointer (some ⟨w.heap.size + 1, 0, none⟩) : Value)) = y0
  generalize (if n = true then undef else (.bool h.n : Value)) = y1
  generalize (if t = true then undef else (.pointer (some ⟨w.heap.size + 1, 4, none⟩) : Value)) = y2
  generalize (if t = true then undef else (.bool h.t : Value)) = y3
  generalize (if f = true then undef else (.pointer (some ⟨w.heap.size + 1, 5, none⟩) : Value)) = y4
  generalize (if f = true then undef else (.bool h.f : Value)) = y5
  clear hHeld KS HJ
  go_wp2
  go_loopw [8] (fun i wr => ∃ (k : Nat) (vs : Option Addr) (vc : Nat), k ≤ 60 ∧ i = .int .i64 k ∧ GuAt wr w.heap.size 0 ⟨n, sp, t, f, sl⟩ ss gc ∧ GuAt wr (w.heap.size + 1) 0 h st hc ∧ GuAt wr (w.heap.size + 1 + 1) 0 zeroG none 0 ∧ Fr7 wr (w.heap.size + 1 + 1) ∧ GuAt wr ob 0 ⟨n || h.n, J, t || h.t, f || h.f, siteTo sl h.s k⟩ vs vc ∧ Fr7 wr ob ∧ wr.ownsRow W.heap.size 3 1 (.slice vs (siteTo sl h.s k).length vc) (siteTo sl h.s k).length ((siteTo sl h.s k).map (.int .i64)) ∧ W.heap.size ≤ wr.heap.size ∧ Below w.heap.size w wr) (fun i _ => 60 - (intOf i).toNat)
  case atStart => exact ⟨0, none, 0, by omega, rfl, GW, HW, RW, FW, UW, XW, ⟨by simp [siteTo], .inl ⟨rfl, by simp [siteTo]⟩⟩, Nat.le_refl _, BW⟩
  case round =>
   obtain ⟨k, vs, vc, hk, rfl, GR, HR, RR, FR, UR, XR, OR, zR, BR⟩ := hrel
   clear GW HW RW FW UW XW BW
   have IR := hs.below BR (Nat.le_refl _)
   have JR := ht.below BR (Nat.le_refl _)
   obtain ⟨⟨g0, g1, g2, g3, g4, g5, g6⟩, gz⟩ := id GR
   obtain ⟨⟨k0, k1, k2, k3, k4, k5, k6⟩, kz⟩ := id HR
   obtain ⟨⟨u0, u1, u2, u3, u4, u5, u6⟩, uz⟩ := id UR
   simp only [Nat.zero_add] at g0 g1 g2 g3 g4 g5 g6 k0 k1 k2 k3 k4 k5 k6 u0 u1 u2 u3 u4 u5 u6
   by_cases hlt : k < 60
   ·have n1 : (k : Int) < 60 := by omega
    exact prf_89a229
   ·have hk' : k = 60 := by omega
    subst hk'
    obtain ⟨⟨r0, r1, r2, r3, r4, r5, r6⟩, rz⟩ := id RR
    simp only [Nat.zero_add, zeroG] at r0 r1 r2 r3 r4 r5 r6
    have fz := FR.1
    go_wp2
    refine bodyPost_ret (v := .agg #[.bool (n || h.n), .bool J.n, .int .i64 J.lo, .int .i64 J.hi, .bool (t || h.t), .bool (f || h.f), .slice vs (siteTo sl h.s 60).length vc]) (by simp [results, Tryz.results26, go_sem, r0, r1, r2, r3, r4, r5, r6]) rfl ⟨_, rfl, ?_, ?_⟩
    ·exact ownsRow_base (ownsRow_put7 OR (by omega)) (by omega)
    ·exact below_put7 BR (by omega)
 ·go_simp
  have GA := (G1.alloc (.cells #[.bool false, .bool false, .int .i64 0, .int .i64 0, .bool false, .bool false, .slice none 0 0] 61)).drew
  have HA := (H1.alloc (.cells #[.bool false, .bool false, .int .i64 0, .int .i64 0, .bool false, .bool false, .slice none 0 0] 61)).drew
  have RA := (R1.alloc (.cells #[.bool false, .bool false, .int .i64 0, .int .i64 0, .bool false, .bool false, .slice none 0 0] 61)).drew
  have FA := (F1.alloc (.cells #[.bool false, .bool false, .int .i64 0, .int .i64 0, .bool false, .bool false, .slice none 0 0] 61)).drew
  have BA := (B1.alloc B1.size (.cells #[.bool false, .bool false, .int .i64 0, .int .i64 0, .bool false, .bool false, .slice none 0 0] 61)).drew
  have UA : GuAt (w1.alloc (.cells #[.bool false, .bool false, .int .i64 0, .int .i64 0, .bool false, .bool false, .slice none 0 0] 61)).drew w1.heap.size 0 zeroG none 0 := (GuAt.new w1 zeroG none 0).drew
  have XA : Fr7 (w1.alloc (.cells #[.bool false, .bool false, .int .i64 0, .int .i64 0, .bool false, .bool false, .slice none 0 0] 61)).drew w1.heap.size := Fr7.drew ⟨fun j => by simp [go_sem], by simp⟩
  have zo : w.heap.size + 1 + 1 < w1.heap.size := F1.2
  refine hK.out _ _ (KS _ GA HA) (fun hHeld => ?_)
  clear hK K G1 H1 R1 F1 B1
  refine sm ?_
  refine wpAnyH_ready (rs := [11]) (by kernel_rfl) (by simp) ?_
  refine AllReadyH.cons rfl (fun K hK => ?_) AllReadyH.nil
  go_simp
  refine (HJ.out _).mono ?_
  rintro e w2 ⟨rfl, hb2⟩
  have G2 := GA.call hb2
  have H2 := HA.call hb2
  have R2 := RA.call hb2
  have F2 := FA.call hb2
  have U2 := UA.call hb2
  have X2 := XA.call hb2
  have B2 : Below w.heap.size w w2 := BA.trans (hb2.mono BA.size)
  clear hb2 GA HA RA FA BA UA XA
  generalize w1.heap.size = ob at *
  refine hK.out _ _ (KS _ G2 H2) (fun hHeld => ?_)
  clear hK K
  refine sm ?_
  refine tH 14 ?_ ?_;refine sm ?_
  refine wpAnyH_take (i := 15) (v := if t = true then undef else .pointer (some ⟨w.heap.size + 1, 4, none⟩)) rfl (by kernel_rfl) (by kernel_rfl) (by kernel_rfl) (fun _ _ _ h => h) ?_ (by assumption) ?_
  ·cases t
   ·refine Or.inl ⟨?_, ?_⟩
    ·rfl
    ·(intro w hSw; (try dsimp only at hSw); first | (go_simp; done) | (go_simp; with_reducible rfl))
   ·exact Or.inr ⟨rfl, rfl⟩
  refine sm ?_
  refine wpAnyH_take (i := 16) (v := if t = true then undef else .bool h.t) rfl (by kernel_rfl) (by kernel_rfl) (by kernel_rfl) (fun _ _ _ h => h) ?_ (by assumption) ?_
  ·cases t
   ·refine Or.inl ⟨?_, ?_⟩
    ·rfl
    ·(intro w hSw; (try dsimp only at hSw); first | (go_simp; done) | (go_simp; with_reducible rfl))
   ·exact Or.inr ⟨rfl, rfl⟩
  refine sm ?_
  refine wpAnyH_take (i := 17) (v := .bool (t || h.t)) rfl (by kernel_rfl) (by kernel_rfl) (by kernel_rfl) (fun _ _ _ h => h) ?_ (by assumption) ?_
  ·cases t
   ·refine Or.inl ⟨?_, ?_⟩
    ·rfl
    ·(intro w hSw; (try dsimp only at hSw); first | (go_simp; done) | (go_simp; with_reducible rfl))
   ·refine Or.inl ⟨?_, ?_⟩
    ·rfl
    ·(intro w hSw; (try dsimp only at hSw); first | (go_simp; done) | (go_simp; with_reducible rfl))
  refine sm ?_
  refine tH 20 ?_ ?_;refine sm ?_
  refine wpAnyH_take (i := 21) (v := if f = true then undef else .pointer (some ⟨w.heap.size + 1, 5, none⟩)) rfl (by kernel_rfl) (by kernel_rfl) (by kernel_rfl) (fun _ _ _ h => h) ?_ (by assumption) ?_
  ·cases f
   ·refine Or.inl ⟨?_, ?_⟩
    ·rfl
    ·(intro w hSw; (try dsimp only at hSw); first | (go_simp; done) | (go_simp; with_reducible rfl))
   ·exact Or.inr ⟨rfl, rfl⟩
  refine sm ?_
  refine wpAnyH_take (i := 22) (v := if f = true then undef else .bool h.f) rfl (by kernel_rfl) (by kernel_rfl) (by kernel_rfl) (fun _ _ _ h => h) ?_ (by assumption) ?_
  ·cases f
   ·refine Or.inl ⟨?_, ?_⟩
    ·rfl
    ·(intro w hSw; (try dsimp only at hSw); first | (go_simp; done) | (go_simp; with_reducible rfl))
   ·exact Or.inr ⟨rfl, rfl⟩
  refine sm ?_
  refine wpAnyH_take (i := 23) (v := .bool (f || h.f)) rfl (by kernel_rfl) (by kernel_rfl) (by kernel_rfl) (fun _ _ _ h => h) ?_ (by assumption) ?_
  ·cases f
   ·refine Or.inl ⟨?_, ?_⟩
    ·rfl
    ·(intro w hSw; (try dsimp only at hSw); first | (go_simp; done) | (go_simp; with_reducible rfl))
   ·refine Or.inl ⟨?_, ?_⟩
    ·rfl
    ·(intro w hSw; (try dsimp only at hSw); first | (go_simp; done) | (go_simp; with_reducible rfl))
  refine sm ?_
  refine tH 24 ?_ ?_;refine sm ?_
  obtain ⟨⟨o0, o1, o2, o3, o4, o5, o6⟩, oz⟩ := id U2
  simp only [Nat.zero_add, zeroG] at o0 o1 o2 o3 o4 o5 o6
  have fzo := X2.1
  refine wpAnyH_ready (rs := [26]) (by kernel_rfl) (by simp) ?_
  refine AllReadyH.cons rfl (fun K hK => ?_) AllReadyH.nil
  go_simp
  have GW := GuAt.put7 (b := ob) (v0 := .bool (n || h.n)) (v1 := .bool J.n) (v2 := .int .i64 J.lo) (v3 := .int .i64 J.hi) (v4 := .bool (t || h.t)) (v5 := .bool (f || h.f)) (v6 := .slice none 0 0) G2 (by omega)
  have HW := GuAt.put7 (b := ob) (v0 := .bool (n || h.n)) (v1 := .bool J.n) (v2 := .int .i64 J.lo) (v3 := .int .i64 J.hi) (v4 := .bool (t || h.t)) (v5 := .bool (f || h.f)) (v6 := .slice none 0 0) H2 (by omega)
  have RW := GuAt.put7 (b := ob) (v0 := .bool (n || h.n)) (v1 := .bool J.n) (v2 := .int .i64 J.lo) (v3 := .int .i64 J.hi) (v4 := .bool (t || h.t)) (v5 := .bool (f || h.f)) (v6 := .slice none 0 0) R2 (by omega)
  have FW : Fr7 (put7 w2 ob (.bool (n || h.n)) (.bool J.n) (.int .i64 J.lo) (.int .i64 J.hi) (.bool (t || h.t)) (.bool (f || h.f)) (.slice none 0 0)) (w.heap.size + 1 + 1) := ((((((F2.set).set).set).set).set).set).set
  have XW : Fr7 (put7 w2 ob (.bool (n || h.n)) (.bool J.n) (.int .i64 J.lo) (.int .i64 J.hi) (.bool (t || h.t)) (.bool (f || h.f)) (.slice none 0 0)) ob := ((((((X2.set).set).set).set).set).set).set
  have UW : GuAt (put7 w2 ob (.bool (n || h.n)) (.bool J.n) (.int .i64 J.lo) (.int .i64 J.hi) (.bool (t || h.t)) (.bool (f || h.f)) (.slice none 0 0)) ob 0 ⟨n || h.n, J, t || h.t, f || h.f, siteTo sl h.s 0⟩ none 0 := ⟨by simp [go_sem, put7, o0, o1, o2, o3, o4, o5, o6, siteTo], by rw [size_put7]; exact oz⟩
  have BW : Below w.heap.size w (put7 w2 ob (.bool (n || h.n)) (.bool J.n) (.int .i64 J.lo) (.int .i64 J.hi) (.bool (t || h.t)) (.bool (f || h.f)) (.slice none 0 0)) := below_put7 B2 (by omega)
  refine hK.out _ _ (KS _ GW HW) (fun hHeld => ?_)
  have zw := XW.2
  clear hK K G2 H2 R2 F2 U2 X2 B2 o0 o1 o2 o3 o4 o5 o6 fzo oz
  refine sm ?_
  unfold put7 at GW HW RW FW XW UW BW zw
  generalize ((((((w2.setCell ⟨ob, 0, none⟩ (.bool (n || h.n))).setCell ⟨ob, 1, none⟩ (.bool J.n)).setCell ⟨ob, 2, none⟩ (.int .i64 J.lo)).setCell ⟨ob, 3, none⟩ (.int .i64 J.hi)).setCell ⟨ob, 4, none⟩ (.bool (t || h.t))).setCell ⟨ob, 5, none⟩ (.bool (f || h.f))).setCell ⟨ob, 6, none⟩ (.slice none 0 0) = W at *
  refine wpAnyH_done (by kernel_rfl) ?_ _
  generalize (if n = true then undef else (.pointer (some ⟨w.heap.size + 1, 0, none⟩) : Value)) = y0
  generalize (if n = true then undef else (.bool h.n : Value)) = y1
  generalize (if t = true then undef else (.pointer (some ⟨w.heap.size + 1, 4, none⟩) : Value)) = y2
  generalize (if t = true then undef else (.bool h.t : Value)) = y3
  generalize (if f = true then undef else (.pointer (some ⟨w.heap.size + 1, 5, none⟩) : Value)) = y4
  generalize (if f = true then undef else (.bool h.f : Value)) = y5
  clear hHeld KS HJ
  go_wp2
  go_loopw [8] (fun i wr => ∃ (k : Nat) (vs : Option Addr) (vc : Nat), k ≤ 60 ∧ i = .int .i64 k ∧ GuAt wr w.heap.size 0 ⟨n, sp, t, f, sl⟩ ss gc ∧ GuAt wr (w.heap.size + 1) 0 h st hc ∧ GuAt wr (w.heap.size + 1 + 1) 0 zeroG none 0 ∧ Fr7 wr (w.heap.size + 1 + 1) ∧ GuAt wr ob 0 ⟨n || h.n, J, t || h.t, f || h.f, siteTo sl h.s k⟩ vs vc ∧ Fr7 wr ob ∧ wr.ownsRow W.heap.size 3 1 (.slice vs (siteTo sl h.s k).length vc) (siteTo sl h.s k).length ((siteTo sl h.s k).map (.int .i64)) ∧ W.heap.size ≤ wr.heap.size ∧ Below w.heap.size w wr) (fun i _ => 60 - (intOf i).toNat)
  case atStart => exact ⟨0, none, 0, by omega, rfl, GW, HW, RW, FW, UW, XW, ⟨by simp [siteTo], .inl ⟨rfl, by simp [siteTo]⟩⟩, Nat.le_refl _, BW⟩
  case round =>
   obtain ⟨k, vs, vc, hk, rfl, GR, HR, RR, FR, UR, XR, OR, zR, BR⟩ := hrel
   clear GW HW RW FW UW XW BW
   have IR := hs.below BR (Nat.le_refl _)
   have JR := ht.below BR (Nat.le_refl _)
   obtain ⟨⟨g0, g1, g2, g3, g4, g5, g6⟩, gz⟩ := id GR
   obtain ⟨⟨k0, k1, k2, k3, k4, k5, k6⟩, kz⟩ := id HR
   obtain ⟨⟨u0, u1, u2, u3, u4, u5, u6⟩, uz⟩ := id UR
   simp only [Nat.zero_add] at g0 g1 g2 g3 g4 g5 g6 k0 k1 k2 k3 k4 k5 k6 u0 u1 u2 u3 u4 u5 u6
   by_cases hlt : k < 60
   ·have n1 : (k : Int) < 60 := by omega
    exact prf_89a229
   ·have hk' : k = 60 := by omega
    subst hk'
    obtain ⟨⟨r0, r1, r2, r3, r4, r5, r6⟩, rz⟩ := id RR
    simp only [Nat.zero_add, zeroG] at r0 r1 r2 r3 r4 r5 r6
    have fz := FR.1
    go_wp2
    refine bodyPost_ret (v := .agg #[.bool (n || h.n), .bool J.n, .int .i64 J.lo, .int .i64 J.hi, .bool (t || h.t), .bool (f || h.f), .slice vs (siteTo sl h.s 60).length vc]) (by simp [results, Tryz.results26, go_sem, r0, r1, r2, r3, r4, r5, r6]) rfl ⟨_, rfl, ?_, ?_⟩
    ·exact ownsRow_base (ownsRow_put7 OR (by omega)) (by omega)
    ·exact below_put7 BR (by omega)) : p := h
theorem joinGuess_join (g : Gs) (ss : Option Addr) (gc : Nat) (h : Gs) (st : Option Addr) (hc : Nat) (w : World) (hs : IntsAt w ss g.s) (hgl : g.s.length ≤ 9223372036854775807) (ht : IntsAt w st h.s) (hlt' : h.s.length ≤ 9223372036854775807) :
  Calls Tryz.prog 26 #[gv g ss gc, gv h st hc, .bool false] w fun e w' => ∃ v, e = .returned (.agg #[.bool (g.n || h.n), .bool (joinSp g.sp h.sp).n, .int .i64 (joinSp g.sp h.sp).lo, .int .i64 (joinSp g.sp h.sp).hi, .bool (g.t || h.t), .bool (g.f || h.f), v]) ∧ w'.ownsRow w.heap.size 3 1 v (siteTo g.s h.s 60).length ((siteTo g.s h.s 60).map (.int .i64)) ∧ Below w.heap.size w w' := by
 obtain ⟨ti, hi, hz0, hz1, hz2⟩ := info_parts Tryz.info_intG
 obtain ⟨G0, H0, B0⟩ := two_at w g ss gc h st hc
 have G1 := G0.alloc (.cells #[.bool false, .bool false, .int .i64 0, .int .i64 0, .bool false, .bool false, .slice none 0 0] 61)
 have H1 := H0.alloc (.cells #[.bool false, .bool false, .int .i64 0, .int .i64 0, .bool false, .bool false, .slice none 0 0] 61)
 have B1 := B0.alloc B0.size (.cells #[.bool false, .bool false, .int .i64 0, .int .i64 0, .bool false, .bool false, .slice none 0 0] 61)
 have R1 : GuAt (((w.alloc (.cells #[.bool g.n, .bool g.sp.n, .int .i64 g.sp.lo, .int .i64 g.sp.hi, .bool g.t, .bool g.f, .slice ss g.s.length gc] 61)).alloc (.cells #[.bool h.n, .bool h.sp.n, .int .i64 h.sp.lo, .int .i64 h.sp.hi, .bool h.t, .bool h.f, .slice st h.s.length hc] 61)).alloc (.cells #[.bool false, .bool false, .int .i64 0, .int .i64 0, .bool false, .bool false, .slice none 0 0] 61)) (w.heap.size + 1 + 1) 0 zeroG none 0 := by
  have := GuAt.new ((w.alloc (.cells #[.bool g.n, .bool g.sp.n, .int .i64 g.sp.lo, .int .i64 g.sp.hi, .bool g.t, .bool g.f, .slice ss g.s.length gc] 61)).alloc (.cells #[.bool h.n, .bool h.sp.n, .int .i64 h.sp.lo, .int .i64 h.sp.hi, .bool h.t, .bool h.f, .slice st h.s.length hc] 61)) zeroG none 0
  simp only [World.size_alloc] at this
  exact this
 have F1 : Fr7 (((w.alloc (.cells #[.bool g.n, .bool g.sp.n, .int .i64 g.sp.lo, .int .i64 g.sp.hi, .bool g.t, .bool g.f, .slice ss g.s.length gc] 61)).alloc (.cells #[.bool h.n, .bool h.sp.n, .int .i64 h.sp.lo, .int .i64 h.sp.hi, .bool h.t, .bool h.f, .slice st h.s.length hc] 61)).alloc (.cells #[.bool false, .bool false, .int .i64 0, .int .i64 0, .bool false, .bool false, .slice none 0 0] 61)) (w.heap.size + 1 + 1) := ⟨fun j => by simp [go_sem], by simp⟩
 have HJ := hideH (fun w => joinSpan_any g.sp h.sp w)
 generalize joinSp g.sp h.sp = J at HJ ⊢
 exact prf_4b75aa
end
end Go.Proofs.YtmapdpcfanecdabGreat
