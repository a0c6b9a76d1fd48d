/- Walks over the document's own answers on spans: DoSpan: add. -/
import Derived.Test.YtmapdpcfanecdaaGreatKguyp26
namespace Go.Proofs.YtmapdpcfanecdaaGreat
set_option linter.unusedVariables false
set_option linter.unusedSimpArgs false
open Go.RowKit

set_option maxHeartbeats 8000000 in
set_option maxRecDepth 20000 in
theorem doSpan_add (lo hi lo' hi' a b c d : Int) (w : World) (h1 : IntKind.i64.wrap (lo + lo') = a) (h2 : IntKind.i64.wrap (lo + hi') = b) (h3 : IntKind.i64.wrap (hi + lo') = c) (h4 : IntKind.i64.wrap (hi + hi') = d) :
    Calls Tryz.prog 65 #[.int .i64 5, sv ⟨false, lo, hi⟩, sv ⟨false, lo', hi'⟩] w fun e w' => e = .returned (sv (hull a b c d)) ∧ Below w.heap.size w w' := by
  obtain ⟨ti, hi0, hz0, hz1, hz2⟩ := info_partsS Tryz.info_intS
  go_enter Tryz.func65, Tryz.ntmps65
  go_wp2
  go_region_held3 (fun w' => w'.cell? ⟨w.heap.size, 1, none⟩ = some (.int .i64 lo) ∧ w'.cell? ⟨w.heap.size, 2, none⟩ = some (.int .i64 hi) ∧ w'.cell? ⟨w.heap.size + 1, 1, none⟩ = some (.int .i64 lo') ∧ w'.cell? ⟨w.heap.size + 1, 2, none⟩ = some (.int .i64 hi')) (simp [go_sem])
    (fail)
  · have HB : Below w.heap.size w ((((((w.alloc (.cells #[.bool false, .int .i64 lo, .int .i64 hi] 26)).alloc (.cells #[.bool false, .int .i64 lo', .int .i64 hi'] 26)).alloc (.cells #[.bool false, .int .i64 0, .int .i64 0] 26)).alloc (.cells #[.int .i64 lo, .int .i64 hi] 3)).alloc (.cells #[.int .i64 lo', .int .i64 hi'] 3)).drew) := by go_grown
    have f0 : ((((((w.alloc (.cells #[.bool false, .int .i64 lo, .int .i64 hi] 26)).alloc (.cells #[.bool false, .int .i64 lo', .int .i64 hi'] 26)).alloc (.cells #[.bool false, .int .i64 0, .int .i64 0] 26)).alloc (.cells #[.int .i64 lo, .int .i64 hi] 3)).alloc (.cells #[.int .i64 lo', .int .i64 hi'] 3)).drew).cell? ⟨w.heap.size + 1 + 1 + 1, 0, none⟩ = some (.int .i64 lo) := by simp [go_sem]
    have f1 : ((((((w.alloc (.cells #[.bool false, .int .i64 lo, .int .i64 hi] 26)).alloc (.cells #[.bool false, .int .i64 lo', .int .i64 hi'] 26)).alloc (.cells #[.bool false, .int .i64 0, .int .i64 0] 26)).alloc (.cells #[.int .i64 lo, .int .i64 hi] 3)).alloc (.cells #[.int .i64 lo', .int .i64 hi'] 3)).drew).cell? ⟨w.heap.size + 1 + 1 + 1, 1, none⟩ = some (.int .i64 hi) := by simp [go_sem]
    have f2 : ((((((w.alloc (.cells #[.bool false, .int .i64 lo, .int .i64 hi] 26)).alloc (.cells #[.bool false, .int .i64 lo', .int .i64 hi'] 26)).alloc (.cells #[.bool false, .int .i64 0, .int .i64 0] 26)).alloc (.cells #[.int .i64 lo, .int .i64 hi] 3)).alloc (.cells #[.int .i64 lo', .int .i64 hi'] 3)).drew).cell? ⟨w.heap.size + 1 + 1 + 1 + 1, 0, none⟩ = some (.int .i64 lo') := by simp [go_sem]
    have f3 : ((((((w.alloc (.cells #[.bool false, .int .i64 lo, .int .i64 hi] 26)).alloc (.cells #[.bool false, .int .i64 lo', .int .i64 hi'] 26)).alloc (.cells #[.bool false, .int .i64 0, .int .i64 0] 26)).alloc (.cells #[.int .i64 lo, .int .i64 hi] 3)).alloc (.cells #[.int .i64 lo', .int .i64 hi'] 3)).drew).cell? ⟨w.heap.size + 1 + 1 + 1 + 1, 1, none⟩ = some (.int .i64 hi') := by simp [go_sem]
    have zz : ((((((w.alloc (.cells #[.bool false, .int .i64 lo, .int .i64 hi] 26)).alloc (.cells #[.bool false, .int .i64 lo', .int .i64 hi'] 26)).alloc (.cells #[.bool false, .int .i64 0, .int .i64 0] 26)).alloc (.cells #[.int .i64 lo, .int .i64 hi] 3)).alloc (.cells #[.int .i64 lo', .int .i64 hi'] 3)).drew).heap.size = w.heap.size + 5 := by simp
    have za : w.heap.size + 1 + 1 + 1 < ((((((w.alloc (.cells #[.bool false, .int .i64 lo, .int .i64 hi] 26)).alloc (.cells #[.bool false, .int .i64 lo', .int .i64 hi'] 26)).alloc (.cells #[.bool false, .int .i64 0, .int .i64 0] 26)).alloc (.cells #[.int .i64 lo, .int .i64 hi] 3)).alloc (.cells #[.int .i64 lo', .int .i64 hi'] 3)).drew).heap.size := by simp
    have zb : w.heap.size + 1 + 1 + 1 + 1 < ((((((w.alloc (.cells #[.bool false, .int .i64 lo, .int .i64 hi] 26)).alloc (.cells #[.bool false, .int .i64 lo', .int .i64 hi'] 26)).alloc (.cells #[.bool false, .int .i64 0, .int .i64 0] 26)).alloc (.cells #[.int .i64 lo, .int .i64 hi] 3)).alloc (.cells #[.int .i64 lo', .int .i64 hi'] 3)).drew).heap.size := by simp
    have KR : ∀ wx, Below ((((((w.alloc (.cells #[.bool false, .int .i64 lo, .int .i64 hi] 26)).alloc (.cells #[.bool false, .int .i64 lo', .int .i64 hi'] 26)).alloc (.cells #[.bool false, .int .i64 0, .int .i64 0] 26)).alloc (.cells #[.int .i64 lo, .int .i64 hi] 3)).alloc (.cells #[.int .i64 lo', .int .i64 hi'] 3)).drew).heap.size ((((((w.alloc (.cells #[.bool false, .int .i64 lo, .int .i64 hi] 26)).alloc (.cells #[.bool false, .int .i64 lo', .int .i64 hi'] 26)).alloc (.cells #[.bool false, .int .i64 0, .int .i64 0] 26)).alloc (.cells #[.int .i64 lo, .int .i64 hi] 3)).alloc (.cells #[.int .i64 lo', .int .i64 hi'] 3)).drew) wx → wx.cell? ⟨w.heap.size + 1 + 1, 0, none⟩ = some (.bool false) ∧ wx.cell? ⟨w.heap.size + 1 + 1, 1, none⟩ = some (.int .i64 0) ∧ wx.cell? ⟨w.heap.size + 1 + 1, 2, none⟩ = some (.int .i64 0) ∧ wx.frozen? ⟨w.heap.size + 1 + 1, 0, none⟩ = false ∧ wx.frozen? ⟨w.heap.size + 1 + 1, 1, none⟩ = false ∧ wx.frozen? ⟨w.heap.size + 1 + 1, 2, none⟩ = false := by
      intro wx hb
      rw [hb.cell (by simp), hb.cell (by simp), hb.cell (by simp), hb.frozen (by simp), hb.frozen (by simp), hb.frozen (by simp)]
      simp [go_sem]
    generalize ((((((w.alloc (.cells #[.bool false, .int .i64 lo, .int .i64 hi] 26)).alloc (.cells #[.bool false, .int .i64 lo', .int .i64 hi'] 26)).alloc (.cells #[.bool false, .int .i64 0, .int .i64 0] 26)).alloc (.cells #[.int .i64 lo, .int .i64 hi] 3)).alloc (.cells #[.int .i64 lo', .int .i64 hi'] 3)).drew) = W at HB f0 f1 f2 f3 zz za zb KR ⊢
    generalize w.heap.size + 1 + 1 + 1 + 1 = gb at f2 f3 zb ⊢
    generalize w.heap.size + 1 + 1 + 1 = ga at f0 f1 za ⊢
    have K : ∀ wx, Below W.heap.size W wx → wx.cell? ⟨ga, 0, none⟩ = some (.int .i64 lo) ∧ wx.cell? ⟨ga, 1, none⟩ = some (.int .i64 hi) ∧ wx.cell? ⟨gb, 0, none⟩ = some (.int .i64 lo') ∧ wx.cell? ⟨gb, 1, none⟩ = some (.int .i64 hi') := by
      intro wx hb
      rw [hb.cell za, hb.cell za, hb.cell zb, hb.cell zb]
      exact ⟨f0, f1, f2, f3⟩
    have K00 := fun wx hb => (show _ ∧ _ from ⟨(K wx hb).1, (K wx hb).2.2.1⟩)
    have K01 := fun wx hb => (show _ ∧ _ from ⟨(K wx hb).1, (K wx hb).2.2.2⟩)
    have K10 := fun wx hb => (show _ ∧ _ from ⟨(K wx hb).2.1, (K wx hb).2.2.1⟩)
    have K11 := fun wx hb => (show _ ∧ _ from ⟨(K wx hb).2.1, (K wx hb).2.2.2⟩)
    clear K f0 f1 f2 f3
    go_wp2
    go_loopw [7, 10] (fun l i wr => ∃ I : Nat, I ≤ 2 ∧ i = .int .i64 I ∧ wr.ownsRow W.heap.size 3 1 l (2 * I) (([a, b, c, d].take (2 * I)).map (.int .i64)) ∧ Below W.heap.size W wr) (fun _ i _ => 2 - (intOf i).toNat)
    case atStart => exact ⟨0, by omega, rfl, ⟨by simp, .inl ⟨rfl, by simp⟩⟩, Below.refl _ _⟩
    case round =>
      obtain ⟨I, hI, rfl, hown, hbr⟩ := hrel
      rcases (by omega : I = 0 ∨ I = 1 ∨ I = 2) with rfl | rfl | rfl
      · rw [show ((0 : Nat) : Int) = 0 from rfl]
        go_wp2
        go_loopw [7, 11] (fun l k wr => ∃ J : Nat, J ≤ 2 ∧ k = .int .i64 J ∧ wr.ownsRow W.heap.size 3 1 l (0 + J) (([a, b, c, d].take (0 + J)).map (.int .i64)) ∧ Below W.heap.size W wr) (fun _ k _ => 2 - (intOf k).toNat)
        case atStart => exact ⟨0, by omega, rfl, hown, hbr⟩
        case round =>
          obtain ⟨J, hJ, rfl, hown1, hbr1⟩ := hrel
          clear hown hbr
          rcases (by omega : J = 0 ∨ J = 1 ∨ J = 2) with rfl | rfl | rfl
          · go_wp2
            go_region_held_law (fun w' => w'.cell? ⟨ga, 0, none⟩ = some (.int .i64 lo) ∧ w'.cell? ⟨gb, 0, none⟩ = some (.int .i64 lo'))
              (first | exact K00 _ hbr1.drew | exact K00 _ (hbr1.alloc hbr1.size _).drew | exact K00 _ HBn)
              (first
                | (refine step_append_lies _ rfl _ _ 27 rfl W.heap.size 3 ti (.int .i64 0) 1 8 Tryz.underlying27 hi0 hz0 hz1 hz2 rfl (by decide) _ _ _ rfl ((hown1.alloc _).drew) ⟨wr.heap.size, 0, none⟩ 1 1 [.int .i64 a] rfl rfl (news_one _ _ _) (fun x hx => by simp at hx; subst hx; rfl) (by decide) (by unfold maxLen; omega) (by omega) (by simp; have := hbr1.size; omega) _ rfl ?_; intro g1 cap1 wn hownn hgrown hatn hltn; have HBn : Below W.heap.size W wn := (hbr1.alloc hbr1.size _).drew.grown hgrown (by simp; have := hbr1.size; omega) (fun j hj => ownsRow_lowS hown1 hj)))
            go_wp2
            go_roundw
            case rel => exact ⟨1, by omega, rfl, hownn, HBn⟩
            case measure => simp [intOf]
          · go_wp2
            go_region_held_law (fun w' => w'.cell? ⟨ga, 0, none⟩ = some (.int .i64 lo) ∧ w'.cell? ⟨gb, 1, none⟩ = some (.int .i64 hi'))
              (first | exact K01 _ hbr1.drew | exact K01 _ (hbr1.alloc hbr1.size _).drew | exact K01 _ HBn)
              (first
                | (refine step_append_lies _ rfl _ _ 27 rfl W.heap.size 3 ti (.int .i64 0) 1 8 Tryz.underlying27 hi0 hz0 hz1 hz2 rfl (by decide) _ _ _ rfl ((hown1.alloc _).drew) ⟨wr.heap.size, 0, none⟩ 1 1 [.int .i64 b] rfl rfl (news_one _ _ _) (fun x hx => by simp at hx; subst hx; rfl) (by decide) (by unfold maxLen; omega) (by omega) (by simp; have := hbr1.size; omega) _ rfl ?_; intro g1 cap1 wn hownn hgrown hatn hltn; have HBn : Below W.heap.size W wn := (hbr1.alloc hbr1.size _).drew.grown hgrown (by simp; have := hbr1.size; omega) (fun j hj => ownsRow_lowS hown1 hj)))
            go_wp2
            go_roundw
            case rel => exact ⟨2, by omega, rfl, hownn, HBn⟩
            case measure => simp [intOf]
          · go_wp2
            go_roundw
            case rel => exact ⟨1, by omega, rfl, hown1, hbr1⟩
            case measure => simp [intOf]
      · rw [show ((1 : Nat) : Int) = 1 from rfl]
        go_wp2
        go_loopw [7, 11] (fun l k wr => ∃ J : Nat, J ≤ 2 ∧ k = .int .i64 J ∧ wr.ownsRow W.heap.size 3 1 l (2 + J) (([a, b, c, d].take (2 + J)).map (.int .i64)) ∧ Below W.heap.size W wr) (fun _ k _ => 2 - (intOf k).toNat)
        case atStart => exact ⟨0, by omega, rfl, hown, hbr⟩
        case round =>
          obtain ⟨J, hJ, rfl, hown1, hbr1⟩ := hrel
          clear hown hbr
          rcases (by omega : J = 0 ∨ J = 1 ∨ J = 2) with rfl | rfl | rfl
          · go_wp2
            go_region_held_law (fun w' => w'.cell? ⟨ga, 1, none⟩ = some (.int .i64 hi) ∧ w'.cell? ⟨gb, 0, none⟩ = some (.int .i64 lo'))
              (first | exact K10 _ hbr1.drew | exact K10 _ (hbr1.alloc hbr1.size _).drew | exact K10 _ HBn)
              (first
                | (refine step_append_lies _ rfl _ _ 27 rfl W.heap.size 3 ti (.int .i64 0) 1 8 Tryz.underlying27 hi0 hz0 hz1 hz2 rfl (by decide) _ _ _ rfl ((hown1.alloc _).drew) ⟨wr.heap.size, 0, none⟩ 1 1 [.int .i64 c] rfl rfl (news_one _ _ _) (fun x hx => by simp at hx; subst hx; rfl) (by decide) (by unfold maxLen; omega) (by omega) (by simp; have := hbr1.size; omega) _ rfl ?_; intro g1 cap1 wn hownn hgrown hatn hltn; have HBn : Below W.heap.size W wn := (hbr1.alloc hbr1.size _).drew.grown hgrown (by simp; have := hbr1.size; omega) (fun j hj => ownsRow_lowS hown1 hj)))
            go_wp2
            go_roundw
            case rel => exact ⟨1, by omega, rfl, hownn, HBn⟩
            case measure => simp [intOf]
          · go_wp2
            go_region_held_law (fun w' => w'.cell? ⟨ga, 1, none⟩ = some (.int .i64 hi) ∧ w'.cell? ⟨gb, 1, none⟩ = some (.int .i64 hi'))
              (first | exact K11 _ hbr1.drew | exact K11 _ (hbr1.alloc hbr1.size _).drew | exact K11 _ HBn)
              (first
                | (refine step_append_lies _ rfl _ _ 27 rfl W.heap.size 3 ti (.int .i64 0) 1 8 Tryz.underlying27 hi0 hz0 hz1 hz2 rfl (by decide) _ _ _ rfl ((hown1.alloc _).drew) ⟨wr.heap.size, 0, none⟩ 1 1 [.int .i64 d] rfl rfl (news_one _ _ _) (fun x hx => by simp at hx; subst hx; rfl) (by decide) (by unfold maxLen; omega) (by omega) (by simp; have := hbr1.size; omega) _ rfl ?_; intro g1 cap1 wn hownn hgrown hatn hltn; have HBn : Below W.heap.size W wn := (hbr1.alloc hbr1.size _).drew.grown hgrown (by simp; have := hbr1.size; omega) (fun j hj => ownsRow_lowS hown1 hj)))
            go_wp2
            go_roundw
            case rel => exact ⟨2, by omega, rfl, hownn, HBn⟩
            case measure => simp [intOf]
          · go_wp2
            go_roundw
            case rel => exact ⟨2, by omega, rfl, hown1, hbr1⟩
            case measure => simp [intOf]
      · clear K00 K01 K10 K11
        rw [show 2 * 2 = 4 from rfl] at hown
        obtain ⟨g, cap, rfl, hg1, hg2⟩ := hown.form (by omega)
        have q0 := hown.cellAt 0 (by omega)
        have q1 := hown.cellAt 1 (by omega)
        have q2 := hown.cellAt 2 (by omega)
        have q3 := hown.cellAt 3 (by omega)
        simp only [List.take, List.map, List.getElem?_cons_zero, List.getElem?_cons_succ] at q0 q1 q2 q3
        clear hown
        clear h1 h2 h3 h4
        go_wp2_with (first
          | (go_at_call 93; refine (least4 _ _ a b c d _ q0 q1 q2 q3).mono ?_; rintro e w' ⟨rfl, rfl⟩)
          | (go_at_call 94; refine (most4 _ _ a b c d _ q0 q1 q2 q3).mono ?_; rintro e w' ⟨rfl, rfl⟩)
          | (go_at_call 92; fail))
        refine (checkSpan_any ⟨false, min4 a b c d, max4 a b c d⟩ _).mono ?_
        rintro e w5 ⟨rfl, hb5⟩
        have HB5 : Below W.heap.size W w5 := (hbr.alloc hbr.size _).trans (hb5.mono (by simp; have := hbr.size; omega))
        have H5 : Below w.heap.size w w5 := HB.trans (HB5.mono (by omega))
        obtain ⟨r0, r1, r2, k0, k1, k2⟩ := KR w5 HB5
        obtain ⟨o0, o1, o2⟩ := sp_cells hb5 (by simp)
        have y1 : w'.heap.size < w5.heap.size := by have := hb5.size; simp at this; omega
        have y2 : w.heap.size + 1 + 1 < w'.heap.size := by have := hbr.size; omega
        clear KR hb5 HB5 hbr HB q0 q1 q2 q3
        by_cases hc : ckSp ⟨false, min4 a b c d, max4 a b c d⟩ = 0
        · rw [hc]
          have hH := hull_ok hc
          generalize min4 a b c d = mn at *
          generalize max4 a b c d = mx at *
          go_wp2
          refine bodyPost_ret (v := sv ⟨false, mn, mx⟩) (by simp [results, Tryz.results65, go_sem, r0, r1, r2]) rfl ⟨by rw [hH], ?_⟩
          exact ((H5.setCell (by simp; omega) _).setCell (by simp; omega) _).setCell (by simp; omega) _
        · have hH := hull_no hc
          generalize ckSp ⟨false, min4 a b c d, max4 a b c d⟩ = ck at *
          generalize min4 a b c d = mn at *
          generalize max4 a b c d = mx at *
          go_wp2
          refine bodyPost_ret (v := sv ⟨false, -2147483648, 2147483647⟩) (by simp [results, Tryz.results65, go_sem, r0, r1, r2]) rfl ⟨by rw [hH], ?_⟩
          exact ((H5.setCell (by simp; omega) _).setCell (by simp; omega) _).setCell (by simp; omega) _
  · have HB : Below w.heap.size w ((((((w.alloc (.cells #[.bool false, .int .i64 lo, .int .i64 hi] 26)).alloc (.cells #[.bool false, .int .i64 lo', .int .i64 hi'] 26)).alloc (.cells #[.bool false, .int .i64 0, .int .i64 0] 26)).alloc (.cells #[.int .i64 lo', .int .i64 hi'] 3)).alloc (.cells #[.int .i64 lo, .int .i64 hi] 3)).drew) := by go_grown
    have f0 : ((((((w.alloc (.cells #[.bool false, .int .i64 lo, .int .i64 hi] 26)).alloc (.cells #[.bool false, .int .i64 lo', .int .i64 hi'] 26)).alloc (.cells #[.bool false, .int .i64 0, .int .i64 0] 26)).alloc (.cells #[.int .i64 lo', .int .i64 hi'] 3)).alloc (.cells #[.int .i64 lo, .int .i64 hi] 3)).drew).cell? ⟨w.heap.size + 1 + 1 + 1 + 1, 0, none⟩ = some (.int .i64 lo) := by simp [go_sem]
    have f1 : ((((((w.alloc (.cells #[.bool false, .int .i64 lo, .int .i64 hi] 26)).alloc (.cells #[.bool false, .int .i64 lo', .int .i64 hi'] 26)).alloc (.cells #[.bool false, .int .i64 0, .int .i64 0] 26)).alloc (.cells #[.int .i64 lo', .int .i64 hi'] 3)).alloc (.cells #[.int .i64 lo, .int .i64 hi] 3)).drew).cell? ⟨w.heap.size + 1 + 1 + 1 + 1, 1, none⟩ = some (.int .i64 hi) := by simp [go_sem]
    have f2 : ((((((w.alloc (.cells #[.bool false, .int .i64 lo, .int .i64 hi] 26)).alloc (.cells #[.bool false, .int .i64 lo', .int .i64 hi'] 26)).alloc (.cells #[.bool false, .int .i64 0, .int .i64 0] 26)).alloc (.cells #[.int .i64 lo', .int .i64 hi'] 3)).alloc (.cells #[.int .i64 lo, .int .i64 hi] 3)).drew).cell? ⟨w.heap.size + 1 + 1 + 1, 0, none⟩ = some (.int .i64 lo') := by simp [go_sem]
    have f3 : ((((((w.alloc (.cells #[.bool false, .int .i64 lo, .int .i64 hi] 26)).alloc (.cells #[.bool false, .int .i64 lo', .int .i64 hi'] 26)).alloc (.cells #[.bool false, .int .i64 0, .int .i64 0] 26)).alloc (.cells #[.int .i64 lo', .int .i64 hi'] 3)).alloc (.cells #[.int .i64 lo, .int .i64 hi] 3)).drew).cell? ⟨w.heap.size + 1 + 1 + 1, 1, none⟩ = some (.int .i64 hi') := by simp [go_sem]
    have zz : ((((((w.alloc (.cells #[.bool false, .int .i64 lo, .int .i64 hi] 26)).alloc (.cells #[.bool false, .int .i64 lo', .int .i64 hi'] 26)).alloc (.cells #[.bool false, .int .i64 0, .int .i64 0] 26)).alloc (.cells #[.int .i64 lo', .int .i64 hi'] 3)).alloc (.cells #[.int .i64 lo, .int .i64 hi] 3)).drew).heap.size = w.heap.size + 5 := by simp
    have za : w.heap.size + 1 + 1 + 1 + 1 < ((((((w.alloc (.cells #[.bool false, .int .i64 lo, .int .i64 hi] 26)).alloc (.cells #[.bool false, .int .i64 lo', .int .i64 hi'] 26)).alloc (.cells #[.bool false, .int .i64 0, .int .i64 0] 26)).alloc (.cells #[.int .i64 lo', .int .i64 hi'] 3)).alloc (.cells #[.int .i64 lo, .int .i64 hi] 3)).drew).heap.size := by simp
    have zb : w.heap.size + 1 + 1 + 1 < ((((((w.alloc (.cells #[.bool false, .int .i64 lo, .int .i64 hi] 26)).alloc (.cells #[.bool false, .int .i64 lo', .int .i64 hi'] 26)).alloc (.cells #[.bool false, .int .i64 0, .int .i64 0] 26)).alloc (.cells #[.int .i64 lo', .int .i64 hi'] 3)).alloc (.cells #[.int .i64 lo, .int .i64 hi] 3)).drew).heap.size := by simp
    have KR : ∀ wx, Below ((((((w.alloc (.cells #[.bool false, .int .i64 lo, .int .i64 hi] 26)).alloc (.cells #[.bool false, .int .i64 lo', .int .i64 hi'] 26)).alloc (.cells #[.bool false, .int .i64 0, .int .i64 0] 26)).alloc (.cells #[.int .i64 lo', .int .i64 hi'] 3)).alloc (.cells #[.int .i64 lo, .int .i64 hi] 3)).drew).heap.size ((((((w.alloc (.cells #[.bool false, .int .i64 lo, .int .i64 hi] 26)).alloc (.cells #[.bool false, .int .i64 lo', .int .i64 hi'] 26)).alloc (.cells #[.bool false, .int .i64 0, .int .i64 0] 26)).alloc (.cells #[.int .i64 lo', .int .i64 hi'] 3)).alloc (.cells #[.int .i64 lo, .int .i64 hi] 3)).drew) wx → wx.cell? ⟨w.heap.size + 1 + 1, 0, none⟩ = some (.bool false) ∧ wx.cell? ⟨w.heap.size + 1 + 1, 1, none⟩ = some (.int .i64 0) ∧ wx.cell? ⟨w.heap.size + 1 + 1, 2, none⟩ = some (.int .i64 0) ∧ wx.frozen? ⟨w.heap.size + 1 + 1, 0, none⟩ = false ∧ wx.frozen? ⟨w.heap.size + 1 + 1, 1, none⟩ = false ∧ wx.frozen? ⟨w.heap.size + 1 + 1, 2, none⟩ = false := by
      intro wx hb
      rw [hb.cell (by simp), hb.cell (by simp), hb.cell (by simp), hb.frozen (by simp), hb.frozen (by simp), hb.frozen (by simp)]
      simp [go_sem]
    generalize ((((((w.alloc (.cells #[.bool false, .int .i64 lo, .int .i64 hi] 26)).alloc (.cells #[.bool false, .int .i64 lo', .int .i64 hi'] 26)).alloc (.cells #[.bool false, .int .i64 0, .int .i64 0] 26)).alloc (.cells #[.int .i64 lo', .int .i64 hi'] 3)).alloc (.cells #[.int .i64 lo, .int .i64 hi] 3)).drew) = W at HB f0 f1 f2 f3 zz za zb KR ⊢
    generalize w.heap.size + 1 + 1 + 1 + 1 = ga at f0 f1 za ⊢
    generalize w.heap.size + 1 + 1 + 1 = gb at f2 f3 zb ⊢
    have K : ∀ wx, Below W.heap.size W wx → wx.cell? ⟨ga, 0, none⟩ = some (.int .i64 lo) ∧ wx.cell? ⟨ga, 1, none⟩ = some (.int .i64 hi) ∧ wx.cell? ⟨gb, 0, none⟩ = some (.int .i64 lo') ∧ wx.cell? ⟨gb, 1, none⟩ = some (.int .i64 hi') := by
      intro wx hb
      rw [hb.cell za, hb.cell za, hb.cell zb, hb.cell zb]
      exact ⟨f0, f1, f2, f3⟩
    have K00 := fun wx hb => (show _ ∧ _ from ⟨(K wx hb).1, (K wx hb).2.2.1⟩)
    have K01 := fun wx hb => (show _ ∧ _ from ⟨(K wx hb).1, (K wx hb).2.2.2⟩)
    have K10 := fun wx hb => (show _ ∧ _ from ⟨(K wx hb).2.1, (K wx hb).2.2.1⟩)
    have K11 := fun wx hb => (show _ ∧ _ from ⟨(K wx hb).2.1, (K wx hb).2.2.2⟩)
    clear K f0 f1 f2 f3
    go_wp2
    go_loopw [7, 10] (fun l i wr => ∃ I : Nat, I ≤ 2 ∧ i = .int .i64 I ∧ wr.ownsRow W.heap.size 3 1 l (2 * I) (([a, b, c, d].take (2 * I)).map (.int .i64)) ∧ Below W.heap.size W wr) (fun _ i _ => 2 - (intOf i).toNat)
    case atStart => exact ⟨0, by omega, rfl, ⟨by simp, .inl ⟨rfl, by simp⟩⟩, Below.refl _ _⟩
    case round =>
      obtain ⟨I, hI, rfl, hown, hbr⟩ := hrel
      rcases (by omega : I = 0 ∨ I = 1 ∨ I = 2) with rfl | rfl | rfl
      · rw [show ((0 : Nat) : Int) = 0 from rfl]
        go_wp2
        go_loopw [7, 11] (fun l k wr => ∃ J : Nat, J ≤ 2 ∧ k = .int .i64 J ∧ wr.ownsRow W.heap.size 3 1 l (0 + J) (([a, b, c, d].take (0 + J)).map (.int .i64)) ∧ Below W.heap.size W wr) (fun _ k _ => 2 - (intOf k).toNat)
        case atStart => exact ⟨0, by omega, rfl, hown, hbr⟩
        case round =>
          obtain ⟨J, hJ, rfl, hown1, hbr1⟩ := hrel
          clear hown hbr
          rcases (by omega : J = 0 ∨ J = 1 ∨ J = 2) with rfl | rfl | rfl
          · go_wp2
            go_region_held_law (fun w' => w'.cell? ⟨ga, 0, none⟩ = some (.int .i64 lo) ∧ w'.cell? ⟨gb, 0, none⟩ = some (.int .i64 lo'))
              (first | exact K00 _ hbr1.drew | exact K00 _ (hbr1.alloc hbr1.size _).drew | exact K00 _ HBn)
              (first
                | (refine step_append_lies _ rfl _ _ 27 rfl W.heap.size 3 ti (.int .i64 0) 1 8 Tryz.underlying27 hi0 hz0 hz1 hz2 rfl (by decide) _ _ _ rfl ((hown1.alloc _).drew) ⟨wr.heap.size, 0, none⟩ 1 1 [.int .i64 a] rfl rfl (news_one _ _ _) (fun x hx => by simp at hx; subst hx; rfl) (by decide) (by unfold maxLen; omega) (by omega) (by simp; have := hbr1.size; omega) _ rfl ?_; intro g1 cap1 wn hownn hgrown hatn hltn; have HBn : Below W.heap.size W wn := (hbr1.alloc hbr1.size _).drew.grown hgrown (by simp; have := hbr1.size; omega) (fun j hj => ownsRow_lowS hown1 hj)))
            go_wp2
            go_roundw
            case rel => exact ⟨1, by omega, rfl, hownn, HBn⟩
            case measure => simp [intOf]
          · go_wp2
            go_region_held_law (fun w' => w'.cell? ⟨ga, 0, none⟩ = some (.int .i64 lo) ∧ w'.cell? ⟨gb, 1, none⟩ = some (.int .i64 hi'))
              (first | exact K01 _ hbr1.drew | exact K01 _ (hbr1.alloc hbr1.size _).drew | exact K01 _ HBn)
              (first
                | (refine step_append_lies _ rfl _ _ 27 rfl W.heap.size 3 ti (.int .i64 0) 1 8 Tryz.underlying27 hi0 hz0 hz1 hz2 rfl (by decide) _ _ _ rfl ((hown1.alloc _).drew) ⟨wr.heap.size, 0, none⟩ 1 1 [.int .i64 b] rfl rfl (news_one _ _ _) (fun x hx => by simp at hx; subst hx; rfl) (by decide) (by unfold maxLen; omega) (by omega) (by simp; have := hbr1.size; omega) _ rfl ?_; intro g1 cap1 wn hownn hgrown hatn hltn; have HBn : Below W.heap.size W wn := (hbr1.alloc hbr1.size _).drew.grown hgrown (by simp; have := hbr1.size; omega) (fun j hj => ownsRow_lowS hown1 hj)))
            go_wp2
            go_roundw
            case rel => exact ⟨2, by omega, rfl, hownn, HBn⟩
            case measure => simp [intOf]
          · go_wp2
            go_roundw
            case rel => exact ⟨1, by omega, rfl, hown1, hbr1⟩
            case measure => simp [intOf]
      · rw [show ((1 : Nat) : Int) = 1 from rfl]
        go_wp2
        go_loopw [7, 11] (fun l k wr => ∃ J : Nat, J ≤ 2 ∧ k = .int .i64 J ∧ wr.ownsRow W.heap.size 3 1 l (2 + J) (([a, b, c, d].take (2 + J)).map (.int .i64)) ∧ Below W.heap.size W wr) (fun _ k _ => 2 - (intOf k).toNat)
        case atStart => exact ⟨0, by omega, rfl, hown, hbr⟩
        case round =>
          obtain ⟨J, hJ, rfl, hown1, hbr1⟩ := hrel
          clear hown hbr
          rcases (by omega : J = 0 ∨ J = 1 ∨ J = 2) with rfl | rfl | rfl
          · go_wp2
            go_region_held_law (fun w' => w'.cell? ⟨ga, 1, none⟩ = some (.int .i64 hi) ∧ w'.cell? ⟨gb, 0, none⟩ = some (.int .i64 lo'))
              (first | exact K10 _ hbr1.drew | exact K10 _ (hbr1.alloc hbr1.size _).drew | exact K10 _ HBn)
              (first
                | (refine step_append_lies _ rfl _ _ 27 rfl W.heap.size 3 ti (.int .i64 0) 1 8 Tryz.underlying27 hi0 hz0 hz1 hz2 rfl (by decide) _ _ _ rfl ((hown1.alloc _).drew) ⟨wr.heap.size, 0, none⟩ 1 1 [.int .i64 c] rfl rfl (news_one _ _ _) (fun x hx => by simp at hx; subst hx; rfl) (by decide) (by unfold maxLen; omega) (by omega) (by simp; have := hbr1.size; omega) _ rfl ?_; intro g1 cap1 wn hownn hgrown hatn hltn; have HBn : Below W.heap.size W wn := (hbr1.alloc hbr1.size _).drew.grown hgrown (by simp; have := hbr1.size; omega) (fun j hj => ownsRow_lowS hown1 hj)))
            go_wp2
            go_roundw
            case rel => exact ⟨1, by omega, rfl, hownn, HBn⟩
            case measure => simp [intOf]
          · go_wp2
            go_region_held_law (fun w' => w'.cell? ⟨ga, 1, none⟩ = some (.int .i64 hi) ∧ w'.cell? ⟨gb, 1, none⟩ = some (.int .i64 hi'))
              (first | exact K11 _ hbr1.drew | exact K11 _ (hbr1.alloc hbr1.size _).drew | exact K11 _ HBn)
              (first
                | (refine step_append_lies _ rfl _ _ 27 rfl W.heap.size 3 ti (.int .i64 0) 1 8 Tryz.underlying27 hi0 hz0 hz1 hz2 rfl (by decide) _ _ _ rfl ((hown1.alloc _).drew) ⟨wr.heap.size, 0, none⟩ 1 1 [.int .i64 d] rfl rfl (news_one _ _ _) (fun x hx => by simp at hx; subst hx; rfl) (by decide) (by unfold maxLen; omega) (by omega) (by simp; have := hbr1.size; omega) _ rfl ?_; intro g1 cap1 wn hownn hgrown hatn hltn; have HBn : Below W.heap.size W wn := (hbr1.alloc hbr1.size _).drew.grown hgrown (by simp; have := hbr1.size; omega) (fun j hj => ownsRow_lowS hown1 hj)))
            go_wp2
            go_roundw
            case rel => exact ⟨2, by omega, rfl, hownn, HBn⟩
            case measure => simp [intOf]
          · go_wp2
            go_roundw
            case rel => exact ⟨2, by omega, rfl, hown1, hbr1⟩
            case measure => simp [intOf]
      · clear K00 K01 K10 K11
        rw [show 2 * 2 = 4 from rfl] at hown
        obtain ⟨g, cap, rfl, hg1, hg2⟩ := hown.form (by omega)
        have q0 := hown.cellAt 0 (by omega)
        have q1 := hown.cellAt 1 (by omega)
        have q2 := hown.cellAt 2 (by omega)
        have q3 := hown.cellAt 3 (by omega)
        simp only [List.take, List.map, List.getElem?_cons_zero, List.getElem?_cons_succ] at q0 q1 q2 q3
        clear hown
        clear h1 h2 h3 h4
        go_wp2_with (first
          | (go_at_call 93; refine (least4 _ _ a b c d _ q0 q1 q2 q3).mono ?_; rintro e w' ⟨rfl, rfl⟩)
          | (go_at_call 94; refine (most4 _ _ a b c d _ q0 q1 q2 q3).mono ?_; rintro e w' ⟨rfl, rfl⟩)
          | (go_at_call 92; fail))
        refine (checkSpan_any ⟨false, min4 a b c d, max4 a b c d⟩ _).mono ?_
        rintro e w5 ⟨rfl, hb5⟩
        have HB5 : Below W.heap.size W w5 := (hbr.alloc hbr.size _).trans (hb5.mono (by simp; have := hbr.size; omega))
        have H5 : Below w.heap.size w w5 := HB.trans (HB5.mono (by omega))
        obtain ⟨r0, r1, r2, k0, k1, k2⟩ := KR w5 HB5
        obtain ⟨o0, o1, o2⟩ := sp_cells hb5 (by simp)
        have y1 : w'.heap.size < w5.heap.size := by have := hb5.size; simp at this; omega
        have y2 : w.heap.size + 1 + 1 < w'.heap.size := by have := hbr.size; omega
        clear KR hb5 HB5 hbr HB q0 q1 q2 q3
        by_cases hc : ckSp ⟨false, min4 a b c d, max4 a b c d⟩ = 0
        · rw [hc]
          have hH := hull_ok hc
          generalize min4 a b c d = mn at *
          generalize max4 a b c d = mx at *
          go_wp2
          refine bodyPost_ret (v := sv ⟨false, mn, mx⟩) (by simp [results, Tryz.results65, go_sem, r0, r1, r2]) rfl ⟨by rw [hH], ?_⟩
          exact ((H5.setCell (by simp; omega) _).setCell (by simp; omega) _).setCell (by simp; omega) _
        · have hH := hull_no hc
          generalize ckSp ⟨false, min4 a b c d, max4 a b c d⟩ = ck at *
          generalize min4 a b c d = mn at *
          generalize max4 a b c d = mx at *
          go_wp2
          refine bodyPost_ret (v := sv ⟨false, -2147483648, 2147483647⟩) (by simp [results, Tryz.results65, go_sem, r0, r1, r2]) rfl ⟨by rw [hH], ?_⟩
          exact ((H5.setCell (by simp; omega) _).setCell (by simp; omega) _).setCell (by simp; omega) _
end Go.Proofs.YtmapdpcfanecdaaGreat
