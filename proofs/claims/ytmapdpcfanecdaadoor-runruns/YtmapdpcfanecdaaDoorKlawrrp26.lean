/- Walks over package run: what the machine does, kind by kind. -/
import Derived.Test.YtmapdpcfanecdaaDoorKlawrrp09
import Derived.Test.YtmapdpcfanecdaaDoorKlawrrp11
import Derived.Test.YtmapdpcfanecdaaDoorKlawrrp25
import Derived.Test.YtmapdpcfanecdaaDoorKlawrrp15
import Derived.Test.YtmapdpcfanecdaaDoorKlawrrp23
import Derived.Test.YtmapdpcfanecdaaDoorKlawrrp20
import Derived.Test.YtmapdpcfanecdaaDoorKlawrrp24
namespace Go.Proofs.YtmapdpcfanecdaaDoor
set_option linter.unusedVariables false
set_option linter.unusedSimpArgs false
open Go.RowKit
attribute [local go_sem ↓] Go.wp_at_zero Go.wp_at_succ

set_option maxHeartbeats 2000000 in
set_option maxRecDepth 20000 in
theorem doK_18 (m B x : Nat) (s : St) (vv tv lv : Value) (fv : List Value) (t b n g : Int) (w : World) (h : OwnRun w B m s vv tv lv fv) (hB : B ≤ w.heap.size) (hx : x < s.vars.length) (T : Nat) (hv : okVal T s.vars[x]) (hT : Tab w) (hln : (s.lines.length + 1) * 16 ≤ 140737488355328) :
    Calls Tryd.prog 75 #[.pointer (some ⟨m, 0, none⟩), .agg #[.int .i64 18, .int .i64 t, .int .i64 x, .int .i64 b, .int .i64 n, .int .i64 g]] w fun e w' => e = .returned (.int .i64 0) ∧ MStep w w' B m (ownBlocks m vv tv lv fv) { s with lines := s.lines ++ [showB s.vars[x]] } := by
  have hm : m < w.heap.size := h.lt (by simp [ownBlocks])
  have z1 : m < w.heap.size + 1 := by omega
  obtain ⟨gb, cap, rfl, hg1, hg2, hcell, hfz⟩ := h.form (by omega)
  have am : m ≠ gb := h.vars_apart rfl m (by simp)
  have ah : w.heap.size ≠ gb := by omega
  have q1 := h.vars_
  have z2 : gb < w.heap.size + 1 := by omega
  obtain ⟨kx0, kx1⟩ := hcell x hx
  have nx0 : (0 : Int) ≤ (x : Int) := by omega
  have nx1 : (x : Int) < (s.vars.length : Int) := by omega
  have q4 := h.lines_
  have K1 : ∀ wx, Below (w.heap.size + 1) (w.alloc (.cells #[.int .i64 18, .int .i64 t, .int .i64 x, .int .i64 b, .int .i64 n, .int .i64 g] 71)) wx → wx.cell? ⟨m, 1, none⟩ = some (.slice (some ⟨gb, 0, none⟩) s.vars.length cap) ∧ wx.cell? ⟨m, 4, none⟩ = some lv ∧ wx.cell? ⟨w.heap.size, 2, none⟩ = some (.int .i64 x) ∧ wx.cell? ⟨gb, x * 2, none⟩ = some (.int .i64 s.vars[x].k) ∧ wx.cell? ⟨gb, x * 2 + 1, none⟩ = some (.int .i64 s.vars[x].n) := by
    intro wx hb
    rw [hb.cell (by simpa using z1), hb.cell (by simpa using z1), hb.cell (by simp), hb.cell (by simpa using z2), hb.cell (by simpa using z2)]
    simp [go_sem, hm, q1, q4, hg2, kx0, kx1]
  obtain ⟨ti, hi, hz0, hz1, hz2⟩ := info_parts info_str
  have hG : Below w.heap.size w (w.alloc (.cells #[.int .i64 18, .int .i64 t, .int .i64 x, .int .i64 b, .int .i64 n, .int .i64 g] 71)).drew := by go_grown
  have HX := hideK (text_any T s.vars[x].k s.vars[x].n (w.alloc (.cells #[.int .i64 18, .int .i64 t, .int .i64 x, .int .i64 b, .int .i64 n, .int .i64 g] 71)).drew (okValB_iff.2 hv) (hT.below hG))
  clear hcell hfz
  generalize showB s.vars[x] = sh at *
  go_enter Tryd.func75, Tryd.ntmps75
  go_wp2
  refine wp_region_z (S := (fun wx => wx.cell? ⟨m, 1, none⟩ = some (.slice (some ⟨gb, 0, none⟩) s.vars.length cap) ∧ wx.cell? ⟨m, 4, none⟩ = some lv ∧ wx.cell? ⟨w.heap.size, 2, none⟩ = some (.int .i64 x) ∧ wx.cell? ⟨gb, x * 2, none⟩ = some (.int .i64 s.vars[x].k) ∧ wx.cell? ⟨gb, x * 2 + 1, none⟩ = some (.int .i64 s.vars[x].n))) [21] (by kernel_rfl) (K1 _ (Below.refl _ _).drew) (fun hHeld => ?_)
  refine tkZ 0 ?_ ?_ ?_
  rotate_left
  · exact rn
  (try simp only [stp, List.set])
  refine tkZ 1 ?_ ?_ ?_
  rotate_left
  · exact rn
  (try simp only [stp, List.set])
  refine tkZ 2 ?_ ?_ ?_
  rotate_left
  · exact rn
  (try simp only [stp, List.set])
  refine tkZ 3 ?_ ?_ ?_
  rotate_left
  · exact rn
  (try simp only [stp, List.set])
  refine tkZ 4 ?_ ?_ ?_
  rotate_left
  · exact rn
  (try simp only [stp, List.set])
  refine tkZ 5 ?_ ?_ ?_
  rotate_left
  · exact rn
  (try simp only [stp, List.set])
  refine tkZ 6 ?_ ?_ ?_
  rotate_left
  · exact rn
  (try simp only [stp, List.set])
  refine tkZ 7 ?_ ?_ ?_
  rotate_left
  · exact rn
  (try simp only [stp, List.set])
  refine tkZ 8 ?_ ?_ ?_
  rotate_left
  · exact rn
  (try simp only [stp, List.set])
  refine tkZ 9 ?_ ?_ ?_
  rotate_left
  · exact rn
  (try simp only [stp, List.set])
  refine tkZ 10 ?_ ?_ ?_
  rotate_left
  · exact rn
  (try simp only [stp, List.set])
  refine tkZ 11 ?_ ?_ ?_
  rotate_left
  · exact rn
  (try simp only [stp, List.set])
  refine tkZ 12 ?_ ?_ ?_
  rotate_left
  · exact rn
  (try simp only [stp, List.set])
  refine tkZ 13 ?_ ?_ ?_
  rotate_left
  · exact rn
  (try simp only [stp, List.set])
  refine tkZ 14 ?_ ?_ ?_
  rotate_left
  · exact rn
  (try simp only [stp, List.set])
  refine wpAnyZ_one (i := 15) rfl (by kernel_rfl) (fun K hK => ?_)
  go_simp
  go_at_call 102
  refine (HX.out).mono ?_
  rintro e w1 ⟨rfl, hb1⟩
  have HB1 : Below (w.heap.size + 1) (w.alloc (.cells #[.int .i64 18, .int .i64 t, .int .i64 x, .int .i64 b, .int .i64 n, .int .i64 g] 71)) w1 := Below.trans (Below.refl _ _).drew (Below.mono hb1 (by simp))
  go_wp2_with fail
  refine hK.out _ _ (K1 _ HB1) (fun hHeld => ?_)
  clear hK K
  (try simp only [stp, List.set])
  refine wpAnyZ_one (i := 16) rfl (by kernel_rfl) (fun K hK => ?_)
  go_simp
  have HB2 : Below (w.heap.size + 1) (w.alloc (.cells #[.int .i64 18, .int .i64 t, .int .i64 x, .int .i64 b, .int .i64 n, .int .i64 g] 71)) (w1.alloc (.cells #[.string sh] 9)) := HB1.alloc (by have := HB1.size; simpa using this) _
  refine hK.out _ _ (K1 _ HB2) (fun hHeld => ?_)
  clear hK K
  (try simp only [stp, List.set])
  refine wpAnyZ_one (i := 17) rfl (by kernel_rfl) (fun K hK => ?_)
  have o1 : OwnRun w1 B m s (.slice (some ⟨gb, 0, none⟩) s.vars.length cap) tv lv fv := h.below (hG.trans (hb1.mono hG.size))
  have hba : Below w1.heap.size w1 (w1.alloc (.cells #[.string sh] 9)) := by go_grown
  have o2 := o1.below hba
  obtain ⟨p1, p2, p3, p4, p5⟩ := o2.parted
  refine step_append_lies _ rfl _ _ 44 rfl B 9 ti (.string ⟨#[]⟩) 1 16 Tryd.underlying44 hi hz0 hz1 hz2 rfl (by decide) _ _ _ rfl o2.lines ⟨w1.heap.size, 0, none⟩ 1 1 [.string sh] rfl rfl (fun j u hj => World.news_of_block (heap_alloc_new _ _) j u hj) (by simp [Value.oneCell']) (by omega) (by unfold maxLen; omega) hln (by have := o2.lt (k := m) (by simp [ownBlocks]); have := h.low; omega) _ rfl ?_
  intro gl cl w3 hown hgrow hat hlt
  have hwz : w.heap.size + 1 ≤ w1.heap.size := by have := HB1.size; simpa using this
  have far : ∀ b j, b < w.heap.size + 1 → some b ≠ lv.ownBlock → w3.cell? ⟨b, j, none⟩ = (w1.alloc (.cells #[.string sh] 9)).cell? ⟨b, j, none⟩ := fun b j h1 h2 => hgrow.cell_far ⟨b, j, none⟩ (by simp; omega) h2
  have nm : some m ≠ lv.ownBlock := fun e => p1 m (by rw [e]; simp) rfl
  have ng : some gb ≠ lv.ownBlock := fun e => p2 gb rfl (by rw [e]; simp)
  have nb : some w.heap.size ≠ lv.ownBlock := fun e => by have := h.lt (k := w.heap.size) (by rw [e]; simp [ownBlocks]); omega
  have hS3 : w3.cell? ⟨m, 1, none⟩ = some (.slice (some ⟨gb, 0, none⟩) s.vars.length cap) ∧ w3.cell? ⟨m, 4, none⟩ = some lv ∧ w3.cell? ⟨w.heap.size, 2, none⟩ = some (.int .i64 x) ∧ w3.cell? ⟨gb, x * 2, none⟩ = some (.int .i64 s.vars[x].k) ∧ w3.cell? ⟨gb, x * 2 + 1, none⟩ = some (.int .i64 s.vars[x].n) := by
    obtain ⟨s1, s2, s3, s4, s5⟩ := K1 _ HB2
    refine ⟨?_, ?_, ?_, ?_, ?_⟩
    · rw [far m _ z1 nm]; exact s1
    · rw [far m _ z1 nm]; exact s2
    · rw [far _ _ (by omega) nb]; exact s3
    · rw [far gb _ z2 ng]; exact s4
    · rw [far gb _ z2 ng]; exact s5
  refine hK.out _ _ hS3 (fun hHeld => ?_)
  clear hK K
  (try simp only [stp, List.set])
  refine tkZ 18 ?_ ?_ ?_
  rotate_left
  · exact rn
  (try simp only [stp, List.set])
  refine tkZ 19 ?_ ?_ ?_
  rotate_left
  · exact rn
  (try simp only [stp, List.set])
  refine tkZ 20 ?_ ?_ ?_
  rotate_left
  · exact rn
  (try simp only [stp, List.set])
  refine wpAnyZ_last (i := 21) rfl (by kernel_rfl) (by kernel_rfl) (fun K hK => ?_)
  have c4 : w3.cell? ⟨m, 4, none⟩ = some lv := hS3.2.1
  have d4 : w3.frozen? ⟨m, 4, none⟩ = false := by rw [hgrow.frozen_far ⟨m, 4, none⟩ (by simp; omega) nm]; exact o2.thaw 4
  go_simp
  refine hK.out _ _ ?_
  clear hK K
  (try simp only [stp, List.set])
  refine wpAnyZ_done (by kernel_rfl) ?_ _
  go_wp2
  go_ret
  have hBm : B ≤ m := h.low
  have HW : Below B w w3 := Below.grown (((hG.mono hB).trans (hb1.mono (by have := hG.size; omega))).trans (hba.mono (by omega))) hgrow (by simp; omega) (fun k hk => (ownsRow_block_lt o2.lines hk).2)
  refine ⟨rfl, ⟨_, _, _, _, o2.grow_lines (by simp; omega) hown hgrow (hat.imp id (fun e => by rw [e]; exact Nat.le_refl _))⟩, HW.setCell hBm _, fun j hj => ?_, frame_trans (frame_same ((hG.trans (hb1.mono hG.size)).trans (hba.mono (by omega)))) (by simp; omega) (frame_grow hgrow (fun k hk => by have e : lv.ownBlock = some k := hk; unfold ownBlocks; rw [e]; simp) (by simp [ownBlocks]) _ _)⟩
  rw [World.cell?_setCell_other _ _ _ _ (by intro e; cases e; omega), far m _ z1 nm, hba.cell (by simp; omega), hb1.cell (by simp; omega), hG.cell (by simpa using hm)]
end Go.Proofs.YtmapdpcfanecdaaDoor

namespace Go.Proofs.YtmapdpcfanecdaaDoor
set_option linter.unusedVariables false
set_option linter.unusedSimpArgs false
open Go.RowKit
attribute [local go_sem ↓] Go.wp_at_zero Go.wp_at_succ

theorem MStep.of {w w' : World} {B m : Nat} {bs : List (Option Nat)} {s s' : St} (h : MStep w w' B m bs s) (e : s = s') : MStep w w' B m bs s' := e ▸ h
theorem calls_ret {P : Program} {f : FuncId} {args : Array Value} {w : World} {x y : Int} {Q R : World → Prop} (h : Calls P f args w fun e w' => e = .returned (.int .i64 x) ∧ Q w') (e : x = y) (hQ : ∀ w', Q w' → R w') : Calls P f args w fun e w' => e = .returned (.int .i64 y) ∧ R w' :=
  h.mono fun e' w' ⟨h1, h2⟩ => ⟨by rw [h1, e], hQ w' h2⟩
/-- The machine does whatever instruction of a right program, in a right run. -/
theorem do_any (V : Int) (f : Nat) (c : List Ins) (s : St) (hp : ProgOk V f c) (hr : RunOk V f c s) (i : Ins) (hi : ckOne V f c.length i = 0) (ins : List Int) (m B : Nat) (vv tv lv : Value) (fv : List Value) (is : Option Addr) (ic : Nat) (w : World)
    (h : OwnRun w B m s vv tv lv fv) (hB : B ≤ w.heap.size) (h7 : w.cell? ⟨m, 7, none⟩ = some (.int .i64 f)) (h9 : w.cell? ⟨m, 9, none⟩ = some (.slice is ins.length ic)) (hI : IntsAt w is ins) (hT : Tab w) (hln : (s.lines.length + 1) * 16 ≤ 140737488355328) :
    Calls Tryd.prog 75 #[.pointer (some ⟨m, 0, none⟩), .agg #[.int .i64 i.k, .int .i64 i.to, .int .i64 i.a, .int .i64 i.b, .int .i64 i.n, .int .i64 i.g]] w fun e w' => e = .returned (.int .i64 (endI s i)) ∧ MStep w w' B m (ownBlocks m vv tv lv fv) (doneI f ins s i) := by
  have hA := aOf_ok hr hi
  have hC := bOf_ok hr hi
  obtain ⟨k, tt, a, b, n, g⟩ := i
  obtain ⟨h1, h2, h3, h4, h5, h6, h7', h8, h9'⟩ := ckOne_parts hi
  simp only at h1 h2 h3 h4 h5 h6 h7' h8 h9' ⊢
  have hv := hr.vars
  have hV := hp.v8
  have tN : nTo k = true → ∃ t : Nat, tt = t ∧ t < s.vars.length := fun hk => by
    obtain ⟨t, rfl⟩ := Int.eq_ofNat_of_zero_le (h2 hk).1
    exact ⟨t, rfl, by have := (h2 hk).2; omega⟩
  have aN : nA k = true → ∃ x : Nat, ∃ hx : x < s.vars.length, a = x ∧ aOf s ⟨k, tt, a, b, n, g⟩ = s.vars[x] := fun hk => by
    obtain ⟨x, rfl⟩ := Int.eq_ofNat_of_zero_le (h3 hk).1
    have hx : x < s.vars.length := by have := (h3 hk).2; omega
    exact ⟨x, hx, rfl, by unfold aOf; simp only [hk, if_true]; exact varAt_eq hx⟩
  have bN : nB k = true → ∃ y : Nat, ∃ hy : y < s.vars.length, b = y ∧ bOf s ⟨k, tt, a, b, n, g⟩ = s.vars[y] := fun hk => by
    obtain ⟨y, rfl⟩ := Int.eq_ofNat_of_zero_le (h4 hk).1
    have hy : y < s.vars.length := by have := (h4 hk).2; omega
    exact ⟨y, hy, rfl, by unfold bOf; simp only [hk, if_true]; exact varAt_eq hy⟩
  unfold endI doneI endI
  generalize aOf s ⟨k, tt, a, b, n, g⟩ = A at *
  generalize bOf s ⟨k, tt, a, b, n, g⟩ = C at *
  rcases btw_cases h1 with rfl | rfl | rfl | rfl | rfl | rfl | rfl | rfl | rfl | rfl | rfl | rfl | rfl | rfl | rfl | rfl | rfl | rfl | rfl
  · obtain ⟨t, rfl, ht⟩ := tN rfl
    rw [end_none _ 1 (by omega), if_pos rfl, eff_1, Int.toNat_natCast]
    exact doK_1 m B t s vv tv lv fv a b n g w h hB ht (by have := h7' rfl; unfold wr; omega)
  · obtain ⟨t, rfl, ht⟩ := tN rfl
    rw [end_none _ 2 (by omega), if_pos rfl, eff_2, Int.toNat_natCast]
    have e : truV (n == 1) = ⟨2, n⟩ := by rcases h8 rfl with rfl | rfl <;> rfl
    rw [← e]
    exact doK_2 m B t s vv tv lv fv a b n g w h hB ht
  · obtain ⟨t, rfl, ht⟩ := tN rfl
    rw [end_none _ 3 (by omega), if_pos rfl, eff_3, Int.toNat_natCast]
    exact doK_3 m B t s vv tv lv fv a b n g w h hB ht
  · obtain ⟨t, rfl, ht⟩ := tN rfl
    obtain ⟨x, hx, rfl, rfl⟩ := aN rfl
    rw [end_none _ 4 (by omega), if_pos rfl, eff_4, Int.toNat_natCast]
    exact doK_4 m B t x s vv tv lv fv b n g w h hB ht hx
  · obtain ⟨t, rfl, ht⟩ := tN rfl
    obtain ⟨x, hx, rfl, rfl⟩ := aN rfl
    obtain ⟨y, hy, rfl, rfl⟩ := bN rfl
    rw [end_5 _ 5 (by omega), eff_5, Int.toNat_natCast]
    refine calls_ret (doC_5 m B t x y s vv tv lv fv n g w h hB ht hx hy) rfl (fun w' hw => hw.of ?_)
    unfold reckSt
    split
    · rw [if_neg (by omega)]
    · rw [if_pos rfl]; rfl
  · obtain ⟨t, rfl, ht⟩ := tN rfl
    obtain ⟨x, hx, rfl, rfl⟩ := aN rfl
    obtain ⟨y, hy, rfl, rfl⟩ := bN rfl
    rw [end_5 _ 6 (by omega), eff_6, Int.toNat_natCast]
    refine calls_ret (doC_6 m B t x y s vv tv lv fv n g w h hB ht hx hy) rfl (fun w' hw => hw.of ?_)
    unfold reckSt
    split
    · rw [if_neg (by omega)]
    · rw [if_pos rfl]; rfl
  · obtain ⟨t, rfl, ht⟩ := tN rfl
    obtain ⟨x, hx, rfl, rfl⟩ := aN rfl
    obtain ⟨y, hy, rfl, rfl⟩ := bN rfl
    rw [end_5 _ 7 (by omega), eff_7, Int.toNat_natCast]
    refine calls_ret (doC_7 m B t x y s vv tv lv fv n g w h hB ht hx hy) rfl (fun w' hw => hw.of ?_)
    unfold reckSt
    split
    · rw [if_neg (by omega)]
    · rw [if_pos rfl]; rfl
  · obtain ⟨t, rfl, ht⟩ := tN rfl
    obtain ⟨x, hx, rfl, rfl⟩ := aN rfl
    obtain ⟨y, hy, rfl, rfl⟩ := bN rfl
    rw [end_5 _ 8 (by omega), eff_8, Int.toNat_natCast]
    refine calls_ret (doC_8 m B t x y s vv tv lv fv n g w h hB ht hx hy) rfl (fun w' hw => hw.of ?_)
    unfold reckSt
    split
    · rw [if_neg (by omega)]
    · rw [if_pos rfl]; rfl
  · obtain ⟨t, rfl, ht⟩ := tN rfl
    obtain ⟨x, hx, rfl, rfl⟩ := aN rfl
    obtain ⟨y, hy, rfl, rfl⟩ := bN rfl
    rw [end_none _ 9 (by omega), if_pos rfl, eff_9, Int.toNat_natCast]
    exact doK_9 m B t x y s vv tv lv fv n g w h hB ht hx hy
  · obtain ⟨t, rfl, ht⟩ := tN rfl
    obtain ⟨x, hx, rfl, rfl⟩ := aN rfl
    rw [end_none _ 10 (by omega), if_pos rfl, eff_10, Int.toNat_natCast]
    exact doK_10 m B t x s vv tv lv fv b n g w h hB ht hx _ hA
  · obtain ⟨t, rfl, ht⟩ := tN rfl
    rw [end_11]
    by_cases h100 : s.things.length = 100
    · rw [if_pos h100, if_neg (by omega)]
      exact doC_11f m B s vv tv lv fv t a b n g w h hB h100
    · have := hr.things
      have hf3 := hp.f3
      rw [if_neg h100, if_pos rfl, eff_11, Int.toNat_natCast, Int.toNat_natCast]
      exact doC_11n m B t f s vv tv lv fv a b n g w h hB ht (by omega) (by omega) h7
  · obtain ⟨t, rfl, ht⟩ := tN rfl
    obtain ⟨x, hx, rfl, rfl⟩ := aN rfl
    rw [end_12 _ 12 (by omega)]
    by_cases hk3 : s.vars[x].k = 3
    · rw [if_pos hk3, if_pos rfl, eff_12, Int.toNat_natCast]
      rcases hA with hA | hA | hA | hA
      · omega
      · omega
      · omega
      obtain ⟨q, hq⟩ := Int.eq_ofNat_of_zero_le hA.2.1
      obtain ⟨f', rfl⟩ := Int.eq_ofNat_of_zero_le (h5 (.inl rfl)).1
      have hql : q < s.things.length := by omega
      have hfl : f' < s.things[q].fs.length := by have := hr.fields _ (List.getElem_mem hql); have := (h5 (.inl rfl)).2; omega
      rw [hq, fieldAt_eq hql hfl]
      exact doC_12 m B x q f' t s vv tv lv fv b g w h hB hx (by rw [← hk3, ← hq]) hql hfl ht
    · rw [if_neg hk3, if_neg (by omega)]
      exact doC_12w m B x s vv tv lv fv t b n g w h hB hx hk3
  · obtain ⟨x, hx, rfl, rfl⟩ := aN rfl
    obtain ⟨y, hy, rfl, rfl⟩ := bN rfl
    rw [end_12 _ 13 (by omega)]
    by_cases hk3 : s.vars[x].k = 3
    · rw [if_pos hk3, if_pos rfl, eff_13]
      rcases hA with hA | hA | hA | hA
      · omega
      · omega
      · omega
      obtain ⟨q, hq⟩ := Int.eq_ofNat_of_zero_le hA.2.1
      obtain ⟨f', rfl⟩ := Int.eq_ofNat_of_zero_le (h5 (.inr rfl)).1
      have hql : q < s.things.length := by omega
      have hfl : f' < s.things[q].fs.length := by have := hr.fields _ (List.getElem_mem hql); have := (h5 (.inr rfl)).2; omega
      rw [hq]
      exact doC_13 m B x q f' y s vv tv lv fv tt g w h hB hx (by rw [← hk3, ← hq]) hql hfl hy
    · rw [if_neg hk3, if_neg (by omega)]
      exact doC_13w m B x s vv tv lv fv tt y n g w h hB hx hk3
  · obtain ⟨t, rfl, ht⟩ := tN rfl
    rw [end_none _ 14 (by omega), if_pos rfl, eff_14, Int.toNat_natCast]
    exact doK_14 m B t s vv tv lv fv a b n g w h hB ht is ic ins (h9' rfl).1 (h9' rfl).2 h9 hI hr.tk
  · rw [end_none _ 15 (by omega), if_pos rfl, eff_flat 15 (by omega)]
    exact doK_15 m B s vv tv lv fv tt a b n g w h hB
  · rw [end_none _ 16 (by omega), if_pos rfl, eff_flat 16 (by omega)]
    exact doK_16 m B s vv tv lv fv tt a b n g w h hB
  · obtain ⟨x, hx, rfl, rfl⟩ := aN rfl
    rw [end_17, eff_flat 17 (by omega), show (if (if cnt s.vars[x] = true then (0 : Int) else 3) = 0 then s else s) = s by split <;> rfl]
    exact doK_17 m B x s vv tv lv fv tt b n g w h hB hx _ hA
  · obtain ⟨x, hx, rfl, rfl⟩ := aN rfl
    rw [end_none _ 18 (by omega), if_pos rfl, eff_18]
    exact doK_18 m B x s vv tv lv fv tt b n g w h hB hx _ hA hT hln
  · rw [end_19, eff_flat 19 (by omega), show (if (1 : Int) = 0 then s else s) = s by split <;> rfl]
    exact doK_19 m B s vv tv lv fv tt a b n g w h hB
end Go.Proofs.YtmapdpcfanecdaaDoor
