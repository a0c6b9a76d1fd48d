/- Walks over the document's own answers: small functions on values. -/
import Derived.Test.YtmapdpcfanecdaaDoorKlawrrp28
import Derived.Test.YtmapdpcfanecdaaDoorKlawrrp25
import Derived.Test.YtmapdpcfanecdaaDoorKlawrrp29
import Derived.Test.YtmapdpcfanecdaaDoorKlawrrp30
import Derived.Test.YtmapdpcfanecdaaDoorKlawrrp10
import Derived.Test.YtmapdpcfanecdaaDoorKlawrrp23
import Derived.Test.YtmapdpcfanecdaaDoorKlawrrp11
import Derived.Test.YtmapdpcfanecdaaDoorKlawrrp03
namespace Go.Proofs.YtmapdpcfanecdaaDoor
set_option linter.unusedVariables false
set_option linter.unusedSimpArgs false
open Go.RowKit
attribute [local go_sem ↓] Go.wp_at_zero Go.wp_at_succ

theorem MStep.of {w w' : World} {B m : Nat} {bs : List (Option Nat)} {s s' : St} (h : MStep w w' B m bs s) (e : s = s') : MStep w w' B m bs s' := e ▸ h
theorem calls_ret {P : Program} {f : FuncId} {args : Array Value} {w : World} {x y : Int} {Q R : World → Prop} (h : Calls P f args w fun e w' => e = .returned (.int .i64 x) ∧ Q w') (e : x = y) (hQ : ∀ w', Q w' → R w') : Calls P f args w fun e w' => e = .returned (.int .i64 y) ∧ R w' :=
  h.mono fun e' w' ⟨h1, h2⟩ => ⟨by rw [h1, e], hQ w' h2⟩
/-- The machine does whatever instruction of a right program, in a right run. -/
theorem do_any (V : Int) (f : Nat) (c : List Ins) (s : St) (hp : ProgOk V f c) (hr : RunOk V f c s) (i : Ins) (hi : ckOne V f c.length i = 0) (ins : List Int) (m B : Nat) (vv tv lv : Value) (fv : List Value) (is : Option Addr) (ic : Nat) (w : World)
    (h : OwnRun w B m s vv tv lv fv) (hB : B ≤ w.heap.size) (h7 : w.cell? ⟨m, 7, none⟩ = some (.int .i64 f)) (h9 : w.cell? ⟨m, 9, none⟩ = some (.slice is ins.length ic)) (hI : IntsAt w is ins) (hT : Tab w) (hln : (s.lines.length + 1) * 16 ≤ 140737488355328) :
    Calls Tryd.prog 75 #[.pointer (some ⟨m, 0, none⟩), .agg #[.int .i64 i.k, .int .i64 i.to, .int .i64 i.a, .int .i64 i.b, .int .i64 i.n, .int .i64 i.g]] w fun e w' => e = .returned (.int .i64 (endI s i)) ∧ MStep w w' B m (ownBlocks m vv tv lv fv) (doneI f ins s i) := by
  have hA := aOf_ok hr hi
  have hC := bOf_ok hr hi
  obtain ⟨k, tt, a, b, n, g⟩ := i
  obtain ⟨h1, h2, h3, h4, h5, h6, h7', h8, h9'⟩ := ckOne_parts hi
  simp only at h1 h2 h3 h4 h5 h6 h7' h8 h9' ⊢
  have hv := hr.vars
  have hV := hp.v8
  have tN : nTo k = true → ∃ t : Nat, tt = t ∧ t < s.vars.length := fun hk => by
    obtain ⟨t, rfl⟩ := Int.eq_ofNat_of_zero_le (h2 hk).1
    exact ⟨t, rfl, by have := (h2 hk).2; omega⟩
  have aN : nA k = true → ∃ x : Nat, ∃ hx : x < s.vars.length, a = x ∧ aOf s ⟨k, tt, a, b, n, g⟩ = s.vars[x] := fun hk => by
    obtain ⟨x, rfl⟩ := Int.eq_ofNat_of_zero_le (h3 hk).1
    have hx : x < s.vars.length := by have := (h3 hk).2; omega
    exact ⟨x, hx, rfl, by unfold aOf; simp only [hk, if_true]; exact varAt_eq hx⟩
  have bN : nB k = true → ∃ y : Nat, ∃ hy : y < s.vars.length, b = y ∧ bOf s ⟨k, tt, a, b, n, g⟩ = s.vars[y] := fun hk => by
    obtain ⟨y, rfl⟩ := Int.eq_ofNat_of_zero_le (h4 hk).1
    have hy : y < s.vars.length := by have := (h4 hk).2; omega
    exact ⟨y, hy, rfl, by unfold bOf; simp only [hk, if_true]; exact varAt_eq hy⟩
  unfold endI doneI endI
  generalize aOf s ⟨k, tt, a, b, n, g⟩ = A at *
  generalize bOf s ⟨k, tt, a, b, n, g⟩ = C at *
  rcases btw_cases h1 with rfl | rfl | rfl | rfl | rfl | rfl | rfl | rfl | rfl | rfl | rfl | rfl | rfl | rfl | rfl | rfl | rfl | rfl | rfl
  · obtain ⟨t, rfl, ht⟩ := tN rfl
    rw [end_none _ 1 (by omega), if_pos rfl, eff_1, Int.toNat_natCast]
    exact doK_1 m B t s vv tv lv fv a b n g w h hB ht (by have := h7' rfl; unfold wr; omega)
  · obtain ⟨t, rfl, ht⟩ := tN rfl
    rw [end_none _ 2 (by omega), if_pos rfl, eff_2, Int.toNat_natCast]
    have e : truV (n == 1) = ⟨2, n⟩ := by rcases h8 rfl with rfl | rfl <;> rfl
    rw [← e]
    exact doK_2 m B t s vv tv lv fv a b n g w h hB ht
  · obtain ⟨t, rfl, ht⟩ := tN rfl
    rw [end_none _ 3 (by omega), if_pos rfl, eff_3, Int.toNat_natCast]
    exact doK_3 m B t s vv tv lv fv a b n g w h hB ht
  · obtain ⟨t, rfl, ht⟩ := tN rfl
    obtain ⟨x, hx, rfl, rfl⟩ := aN rfl
    rw [end_none _ 4 (by omega), if_pos rfl, eff_4, Int.toNat_natCast]
    exact doK_4 m B t x s vv tv lv fv b n g w h hB ht hx
  · obtain ⟨t, rfl, ht⟩ := tN rfl
    obtain ⟨x, hx, rfl, rfl⟩ := aN rfl
    obtain ⟨y, hy, rfl, rfl⟩ := bN rfl
    rw [end_5 _ 5 (by omega), eff_5, Int.toNat_natCast]
    refine calls_ret (doC_5 m B t x y s vv tv lv fv n g w h hB ht hx hy) rfl (fun w' hw => hw.of ?_)
    unfold reckSt
    split
    · rw [if_neg (by omega)]
    · rw [if_pos rfl]; rfl
  · obtain ⟨t, rfl, ht⟩ := tN rfl
    obtain ⟨x, hx, rfl, rfl⟩ := aN rfl
    obtain ⟨y, hy, rfl, rfl⟩ := bN rfl
    rw [end_5 _ 6 (by omega), eff_6, Int.toNat_natCast]
    refine calls_ret (doC_6 m B t x y s vv tv lv fv n g w h hB ht hx hy) rfl (fun w' hw => hw.of ?_)
    unfold reckSt
    split
    · rw [if_neg (by omega)]
    · rw [if_pos rfl]; rfl
  · obtain ⟨t, rfl, ht⟩ := tN rfl
    obtain ⟨x, hx, rfl, rfl⟩ := aN rfl
    obtain ⟨y, hy, rfl, rfl⟩ := bN rfl
    rw [end_5 _ 7 (by omega), eff_7, Int.toNat_natCast]
    refine calls_ret (doC_7 m B t x y s vv tv lv fv n g w h hB ht hx hy) rfl (fun w' hw => hw.of ?_)
    unfold reckSt
    split
    · rw [if_neg (by omega)]
    · rw [if_pos rfl]; rfl
  · obtain ⟨t, rfl, ht⟩ := tN rfl
    obtain ⟨x, hx, rfl, rfl⟩ := aN rfl
    obtain ⟨y, hy, rfl, rfl⟩ := bN rfl
    rw [end_5 _ 8 (by omega), eff_8, Int.toNat_natCast]
    refine calls_ret (doC_8 m B t x y s vv tv lv fv n g w h hB ht hx hy) rfl (fun w' hw => hw.of ?_)
    unfold reckSt
    split
    · rw [if_neg (by omega)]
    · rw [if_pos rfl]; rfl
  · obtain ⟨t, rfl, ht⟩ := tN rfl
    obtain ⟨x, hx, rfl, rfl⟩ := aN rfl
    obtain ⟨y, hy, rfl, rfl⟩ := bN rfl
    rw [end_none _ 9 (by omega), if_pos rfl, eff_9, Int.toNat_natCast]
    exact doK_9 m B t x y s vv tv lv fv n g w h hB ht hx hy
  · obtain ⟨t, rfl, ht⟩ := tN rfl
    obtain ⟨x, hx, rfl, rfl⟩ := aN rfl
    rw [end_none _ 10 (by omega), if_pos rfl, eff_10, Int.toNat_natCast]
    exact doK_10 m B t x s vv tv lv fv b n g w h hB ht hx _ hA
  · obtain ⟨t, rfl, ht⟩ := tN rfl
    rw [end_11]
    by_cases h100 : s.things.length = 100
    · rw [if_pos h100, if_neg (by omega)]
      exact doC_11f m B s vv tv lv fv t a b n g w h hB h100
    · have := hr.things
      have hf3 := hp.f3
      rw [if_neg h100, if_pos rfl, eff_11, Int.toNat_natCast, Int.toNat_natCast]
      exact doC_11n m B t f s vv tv lv fv a b n g w h hB ht (by omega) (by omega) h7
  · obtain ⟨t, rfl, ht⟩ := tN rfl
    obtain ⟨x, hx, rfl, rfl⟩ := aN rfl
    rw [end_12 _ 12 (by omega)]
    by_cases hk3 : s.vars[x].k = 3
    · rw [if_pos hk3, if_pos rfl, eff_12, Int.toNat_natCast]
      rcases hA with hA | hA | hA | hA
      · omega
      · omega
      · omega
      obtain ⟨q, hq⟩ := Int.eq_ofNat_of_zero_le hA.2.1
      obtain ⟨f', rfl⟩ := Int.eq_ofNat_of_zero_le (h5 (.inl rfl)).1
      have hql : q < s.things.length := by omega
      have hfl : f' < s.things[q].fs.length := by have := hr.fields _ (List.getElem_mem hql); have := (h5 (.inl rfl)).2; omega
      rw [hq, fieldAt_eq hql hfl]
      exact doC_12 m B x q f' t s vv tv lv fv b g w h hB hx (by rw [← hk3, ← hq]) hql hfl ht
    · rw [if_neg hk3, if_neg (by omega)]
      exact doC_12w m B x s vv tv lv fv t b n g w h hB hx hk3
  · obtain ⟨x, hx, rfl, rfl⟩ := aN rfl
    obtain ⟨y, hy, rfl, rfl⟩ := bN rfl
    rw [end_12 _ 13 (by omega)]
    by_cases hk3 : s.vars[x].k = 3
    · rw [if_pos hk3, if_pos rfl, eff_13]
      rcases hA with hA | hA | hA | hA
      · omega
      · omega
      · omega
      obtain ⟨q, hq⟩ := Int.eq_ofNat_of_zero_le hA.2.1
      obtain ⟨f', rfl⟩ := Int.eq_ofNat_of_zero_le (h5 (.inr rfl)).1
      have hql : q < s.things.length := by omega
      have hfl : f' < s.things[q].fs.length := by have := hr.fields _ (List.getElem_mem hql); have := (h5 (.inr rfl)).2; omega
      rw [hq]
      exact doC_13 m B x q f' y s vv tv lv fv tt g w h hB hx (by rw [← hk3, ← hq]) hql hfl hy
    · rw [if_neg hk3, if_neg (by omega)]
      exact doC_13w m B x s vv tv lv fv tt y n g w h hB hx hk3
  · obtain ⟨t, rfl, ht⟩ := tN rfl
    rw [end_none _ 14 (by omega), if_pos rfl, eff_14, Int.toNat_natCast]
    exact doK_14 m B t s vv tv lv fv a b n g w h hB ht is ic ins (h9' rfl).1 (h9' rfl).2 h9 hI hr.tk
  · rw [end_none _ 15 (by omega), if_pos rfl, eff_flat 15 (by omega)]
    exact doK_15 m B s vv tv lv fv tt a b n g w h hB
  · rw [end_none _ 16 (by omega), if_pos rfl, eff_flat 16 (by omega)]
    exact doK_16 m B s vv tv lv fv tt a b n g w h hB
  · obtain ⟨x, hx, rfl, rfl⟩ := aN rfl
    rw [end_17, eff_flat 17 (by omega), show (if (if cnt s.vars[x] = true then (0 : Int) else 3) = 0 then s else s) = s by split <;> rfl]
    exact doK_17 m B x s vv tv lv fv tt b n g w h hB hx _ hA
  · obtain ⟨x, hx, rfl, rfl⟩ := aN rfl
    rw [end_none _ 18 (by omega), if_pos rfl, eff_18]
    exact doK_18 m B x s vv tv lv fv tt b n g w h hB hx _ hA hT hln
  · rw [end_19, eff_flat 19 (by omega), show (if (1 : Int) = 0 then s else s) = s by split <;> rfl]
    exact doK_19 m B s vv tv lv fv tt a b n g w h hB
end Go.Proofs.YtmapdpcfanecdaaDoor

namespace Go.Proofs.YtmapdpcfanecdaaDoor
set_option linter.unusedVariables false
set_option linter.unusedSimpArgs false
open Go.RowKit
attribute [local go_sem ↓] Go.wp_at_zero Go.wp_at_succ

set_option maxHeartbeats 2000000 in
set_option maxRecDepth 20000 in
theorem next_flat (m B : Nat) (s : St) (vv tv lv : Value) (fv : List Value) (k t a b n g : Int) (w : World) (h : OwnRun w B m s vv tv lv fv) (h15 : k ≠ 15) (h16 : k ≠ 16) (h0 : 0 ≤ s.at_) (h60 : s.at_ ≤ 60) :
    Calls Tryd.prog 76 #[.pointer (some ⟨m, 0, none⟩), .agg #[.int .i64 k, .int .i64 t, .int .i64 a, .int .i64 b, .int .i64 n, .int .i64 g]] w fun e w' => e = .returned (.int .i64 (s.at_ + 1)) ∧ Below w.heap.size w w' := by
  have hm : m < w.heap.size := h.lt (by simp [ownBlocks])
  have q0 := h.at_
  have b15 : (k == 15) = false := by simpa using h15
  have b16 : (k == 16) = false := by simpa using h16
  have HW : Below w.heap.size w (w.alloc (.cells #[.int .i64 k, .int .i64 t, .int .i64 a, .int .i64 b, .int .i64 n, .int .i64 g] 71)) := by go_grown
  have q0' : (w.alloc (.cells #[.int .i64 k, .int .i64 t, .int .i64 a, .int .i64 b, .int .i64 n, .int .i64 g] 71)).cell? ⟨m, 0, none⟩ = some (.int .i64 s.at_) := by rw [HW.cell (by simpa using hm)]; exact q0
  have x0 : (w.alloc (.cells #[.int .i64 k, .int .i64 t, .int .i64 a, .int .i64 b, .int .i64 n, .int .i64 g] 71)).cell? ⟨w.heap.size, 0, none⟩ = some (.int .i64 k) := by simp [go_sem]
  clear h
  go_enter Tryd.func76, Tryd.ntmps76
  go_wp2
  go_quiet (fail)
  go_wp2
  go_ret
  exact ⟨rfl, HW.trans (below_drewN (Below.refl _ _) _)⟩
set_option maxHeartbeats 2000000 in
set_option maxRecDepth 20000 in
theorem next_goto (m : Nat) (t a b n g : Int) (w : World) :
    Calls Tryd.prog 76 #[.pointer (some ⟨m, 0, none⟩), .agg #[.int .i64 16, .int .i64 t, .int .i64 a, .int .i64 b, .int .i64 n, .int .i64 g]] w fun e w' => e = .returned (.int .i64 g) ∧ Below w.heap.size w w' := by
  have HW : Below w.heap.size w (w.alloc (.cells #[.int .i64 16, .int .i64 t, .int .i64 a, .int .i64 b, .int .i64 n, .int .i64 g] 71)) := by go_grown
  have x0 : (w.alloc (.cells #[.int .i64 16, .int .i64 t, .int .i64 a, .int .i64 b, .int .i64 n, .int .i64 g] 71)).cell? ⟨w.heap.size, 0, none⟩ = some (.int .i64 16) := by simp [go_sem]
  go_enter Tryd.func76, Tryd.ntmps76
  go_wp2
  go_quiet (fail)
  go_wp2
  go_ret
  exact ⟨rfl, HW.trans (below_drewN (Below.refl _ _) _)⟩
set_option maxHeartbeats 2000000 in
set_option maxRecDepth 20000 in
theorem next_if (m B x : Nat) (s : St) (vv tv lv : Value) (fv : List Value) (t b n g : Int) (w : World) (h : OwnRun w B m s vv tv lv fv) (hx : x < s.vars.length) (T : Nat) (hv : okVal T s.vars[x]) (h0 : 0 ≤ s.at_) (h60 : s.at_ ≤ 60) :
    Calls Tryd.prog 76 #[.pointer (some ⟨m, 0, none⟩), .agg #[.int .i64 15, .int .i64 t, .int .i64 x, .int .i64 b, .int .i64 n, .int .i64 g]] w fun e w' => e = .returned (.int .i64 (bif cnt s.vars[x] then g else s.at_ + 1)) ∧ Below w.heap.size w w' := by
  have hm : m < w.heap.size := h.lt (by simp [ownBlocks])
  have q0 := h.at_
  have q1 := h.vars_
  obtain ⟨gb, cap, rfl, hg1, hg2, hcell, hfz⟩ := h.form (by omega)
  obtain ⟨kx0, kx1⟩ := hcell x hx
  have nx0 : (0 : Int) ≤ (x : Int) := by omega
  have nx1 : (x : Int) < (s.vars.length : Int) := by omega
  have HW : Below w.heap.size w (w.alloc (.cells #[.int .i64 15, .int .i64 t, .int .i64 x, .int .i64 b, .int .i64 n, .int .i64 g] 71)) := by go_grown
  have KZ : ∀ wx, Below (w.heap.size + 1) (w.alloc (.cells #[.int .i64 15, .int .i64 t, .int .i64 x, .int .i64 b, .int .i64 n, .int .i64 g] 71)) wx → wx.cell? ⟨m, 1, none⟩ = some (.slice (some ⟨gb, 0, none⟩) s.vars.length cap) ∧ wx.cell? ⟨w.heap.size, 0, none⟩ = some (.int .i64 15) ∧ wx.cell? ⟨w.heap.size, 2, none⟩ = some (.int .i64 x) ∧ wx.cell? ⟨gb, x * 2, none⟩ = some (.int .i64 s.vars[x].k) ∧ wx.cell? ⟨gb, x * 2 + 1, none⟩ = some (.int .i64 s.vars[x].n) := by
    intro wx hb
    rw [hb.cell (by simp; omega), hb.cell (by simp), hb.cell (by simp), hb.cell (by simp; omega), hb.cell (by simp; omega)]
    simp [go_sem, hm, q1, hg2, kx0, kx1]
  have q0' : (w.alloc (.cells #[.int .i64 15, .int .i64 t, .int .i64 x, .int .i64 b, .int .i64 n, .int .i64 g] 71)).cell? ⟨m, 0, none⟩ = some (.int .i64 s.at_) := by rw [HW.cell (by simpa using hm)]; exact q0
  have HC := hideK (fun wx => counts_any T s.vars[x] wx hv)
  clear h hcell hfz q1
  generalize cnt s.vars[x] = cv at *
  go_enter Tryd.func76, Tryd.ntmps76
  go_wp2
  refine wp_region_z (S := (fun wx => wx.cell? ⟨m, 1, none⟩ = some (.slice (some ⟨gb, 0, none⟩) s.vars.length cap) ∧ wx.cell? ⟨w.heap.size, 0, none⟩ = some (.int .i64 15) ∧ wx.cell? ⟨w.heap.size, 2, none⟩ = some (.int .i64 x) ∧ wx.cell? ⟨gb, x * 2, none⟩ = some (.int .i64 s.vars[x].k) ∧ wx.cell? ⟨gb, x * 2 + 1, none⟩ = some (.int .i64 s.vars[x].n))) [] (by kernel_rfl) (KZ _ (Below.refl _ _).drew) (fun hHeld => ?_)
  refine wpAnyZ_take (i := 0) (v := ?_) rfl (by kernel_rfl) (by kernel_rfl) (by kernel_rfl) (fun _ _ _ h => h) (Or.inl ⟨?_, ?_⟩) (by assumption) ?_
  rotate_left
  · rfl
  · (intro w hSw; (try dsimp only at hSw); first | (go_simp; done) | (go_simp; with_reducible rfl))
  (try simp only [Act.put, List.getElem_toArray, List.getElem_cons_zero, List.getElem_cons_succ, List.setIfInBounds_toArray, List.set_cons_zero, List.set_cons_succ])
  refine wpAnyZ_take (i := 1) (v := ?_) rfl (by kernel_rfl) (by kernel_rfl) (by kernel_rfl) (fun _ _ _ h => h) (Or.inl ⟨?_, ?_⟩) (by assumption) ?_
  rotate_left
  · rfl
  · (intro w hSw; (try dsimp only at hSw); first | (go_simp; done) | (go_simp; with_reducible rfl))
  (try simp only [Act.put, List.getElem_toArray, List.getElem_cons_zero, List.getElem_cons_succ, List.setIfInBounds_toArray, List.set_cons_zero, List.set_cons_succ])
  refine wpAnyZ_take (i := 2) (v := ?_) rfl (by kernel_rfl) (by kernel_rfl) (by kernel_rfl) (fun _ _ _ h => h) (Or.inl ⟨?_, ?_⟩) (by assumption) ?_
  rotate_left
  · rfl
  · (intro w hSw; (try dsimp only at hSw); first | (go_simp; done) | (go_simp; with_reducible rfl))
  (try simp only [Act.put, List.getElem_toArray, List.getElem_cons_zero, List.getElem_cons_succ, List.setIfInBounds_toArray, List.set_cons_zero, List.set_cons_succ])
  refine wpAnyZ_take (i := 3) (v := ?_) rfl (by kernel_rfl) (by kernel_rfl) (by kernel_rfl) (fun _ _ _ h => h) (Or.inl ⟨?_, ?_⟩) (by assumption) ?_
  rotate_left
  · rfl
  · (intro w hSw; (try dsimp only at hSw); first | (go_simp; done) | (go_simp; with_reducible rfl))
  (try simp only [Act.put, List.getElem_toArray, List.getElem_cons_zero, List.getElem_cons_succ, List.setIfInBounds_toArray, List.set_cons_zero, List.set_cons_succ])
  refine wpAnyZ_take (i := 4) (v := ?_) rfl (by kernel_rfl) (by kernel_rfl) (by kernel_rfl) (fun _ _ _ h => h) (Or.inl ⟨?_, ?_⟩) (by assumption) ?_
  rotate_left
  · rfl
  · (intro w hSw; (try dsimp only at hSw); first | (go_simp; done) | (go_simp; with_reducible rfl))
  (try simp only [Act.put, List.getElem_toArray, List.getElem_cons_zero, List.getElem_cons_succ, List.setIfInBounds_toArray, List.set_cons_zero, List.set_cons_succ])
  refine wpAnyZ_take (i := 5) (v := ?_) rfl (by kernel_rfl) (by kernel_rfl) (by kernel_rfl) (fun _ _ _ h => h) (Or.inl ⟨?_, ?_⟩) (by assumption) ?_
  rotate_left
  · rfl
  · (intro w hSw; (try dsimp only at hSw); first | (go_simp; done) | (go_simp; with_reducible rfl))
  (try simp only [Act.put, List.getElem_toArray, List.getElem_cons_zero, List.getElem_cons_succ, List.setIfInBounds_toArray, List.set_cons_zero, List.set_cons_succ])
  refine wpAnyZ_take (i := 6) (v := ?_) rfl (by kernel_rfl) (by kernel_rfl) (by kernel_rfl) (fun _ _ _ h => h) (Or.inl ⟨?_, ?_⟩) (by assumption) ?_
  rotate_left
  · rfl
  · (intro w hSw; (try dsimp only at hSw); first | (go_simp; done) | (go_simp; with_reducible rfl))
  (try simp only [Act.put, List.getElem_toArray, List.getElem_cons_zero, List.getElem_cons_succ, List.setIfInBounds_toArray, List.set_cons_zero, List.set_cons_succ])
  refine wpAnyZ_take (i := 7) (v := ?_) rfl (by kernel_rfl) (by kernel_rfl) (by kernel_rfl) (fun _ _ _ h => h) (Or.inl ⟨?_, ?_⟩) (by assumption) ?_
  rotate_left
  · rfl
  · (intro w hSw; (try dsimp only at hSw); first | (go_simp; done) | (go_simp; with_reducible rfl))
  (try simp only [Act.put, List.getElem_toArray, List.getElem_cons_zero, List.getElem_cons_succ, List.setIfInBounds_toArray, List.set_cons_zero, List.set_cons_succ])
  refine wpAnyZ_take (i := 8) (v := ?_) rfl (by kernel_rfl) (by kernel_rfl) (by kernel_rfl) (fun _ _ _ h => h) (Or.inl ⟨?_, ?_⟩) (by assumption) ?_
  rotate_left
  · rfl
  · (intro w hSw; (try dsimp only at hSw); first | (go_simp; done) | (go_simp; with_reducible rfl))
  (try simp only [Act.put, List.getElem_toArray, List.getElem_cons_zero, List.getElem_cons_succ, List.setIfInBounds_toArray, List.set_cons_zero, List.set_cons_succ])
  refine wpAnyZ_take (i := 9) (v := ?_) rfl (by kernel_rfl) (by kernel_rfl) (by kernel_rfl) (fun _ _ _ h => h) (Or.inl ⟨?_, ?_⟩) (by assumption) ?_
  rotate_left
  · rfl
  · (intro w hSw; (try dsimp only at hSw); first | (go_simp; done) | (go_simp; with_reducible rfl))
  (try simp only [Act.put, List.getElem_toArray, List.getElem_cons_zero, List.getElem_cons_succ, List.setIfInBounds_toArray, List.set_cons_zero, List.set_cons_succ])
  refine wpAnyZ_take (i := 10) (v := ?_) rfl (by kernel_rfl) (by kernel_rfl) (by kernel_rfl) (fun _ _ _ h => h) (Or.inl ⟨?_, ?_⟩) (by assumption) ?_
  rotate_left
  · rfl
  · (intro w hSw; (try dsimp only at hSw); first | (go_simp; done) | (go_simp; with_reducible rfl))
  (try simp only [Act.put, List.getElem_toArray, List.getElem_cons_zero, List.getElem_cons_succ, List.setIfInBounds_toArray, List.set_cons_zero, List.set_cons_succ])
  refine wpAnyZ_take (i := 11) (v := ?_) rfl (by kernel_rfl) (by kernel_rfl) (by kernel_rfl) (fun _ _ _ h => h) (Or.inl ⟨?_, ?_⟩) (by assumption) ?_
  rotate_left
  · rfl
  · (intro w hSw; (try dsimp only at hSw); first | (go_simp; done) | (go_simp; with_reducible rfl))
  (try simp only [Act.put, List.getElem_toArray, List.getElem_cons_zero, List.getElem_cons_succ, List.setIfInBounds_toArray, List.set_cons_zero, List.set_cons_succ])
  refine wpAnyZ_take (i := 12) (v := ?_) rfl (by kernel_rfl) (by kernel_rfl) (by kernel_rfl) (fun _ _ _ h => h) (Or.inl ⟨?_, ?_⟩) (by assumption) ?_
  rotate_left
  · rfl
  · (intro w hSw; (try dsimp only at hSw); first | (go_simp; done) | (go_simp; with_reducible rfl))
  (try simp only [Act.put, List.getElem_toArray, List.getElem_cons_zero, List.getElem_cons_succ, List.setIfInBounds_toArray, List.set_cons_zero, List.set_cons_succ])
  refine wpAnyZ_take (i := 13) (v := ?_) rfl (by kernel_rfl) (by kernel_rfl) (by kernel_rfl) (fun _ _ _ h => h) (Or.inl ⟨?_, ?_⟩) (by assumption) ?_
  rotate_left
  · rfl
  · (intro w hSw; (try dsimp only at hSw); first | (go_simp; done) | (go_simp; with_reducible rfl))
  (try simp only [Act.put, List.getElem_toArray, List.getElem_cons_zero, List.getElem_cons_succ, List.setIfInBounds_toArray, List.set_cons_zero, List.set_cons_succ])
  refine wpAnyZ_take (i := 14) (v := ?_) rfl (by kernel_rfl) (by kernel_rfl) (by kernel_rfl) (fun _ _ _ h => h) (Or.inl ⟨?_, ?_⟩) (by assumption) ?_
  rotate_left
  · rfl
  · (intro w hSw; (try dsimp only at hSw); first | (go_simp; done) | (go_simp; with_reducible rfl))
  (try simp only [Act.put, List.getElem_toArray, List.getElem_cons_zero, List.getElem_cons_succ, List.setIfInBounds_toArray, List.set_cons_zero, List.set_cons_succ])
  refine wpAnyZ_take (i := 15) (v := ?_) rfl (by kernel_rfl) (by kernel_rfl) (by kernel_rfl) (fun _ _ _ h => h) (Or.inl ⟨?_, ?_⟩) (by assumption) ?_
  rotate_left
  · rfl
  · (intro w hSw; (try dsimp only at hSw); first | (go_simp; done) | (go_simp; with_reducible rfl))
  (try simp only [Act.put, List.getElem_toArray, List.getElem_cons_zero, List.getElem_cons_succ, List.setIfInBounds_toArray, List.set_cons_zero, List.set_cons_succ])
  refine wpAnyZ_take (i := 16) (v := ?_) rfl (by kernel_rfl) (by kernel_rfl) (by kernel_rfl) (fun _ _ _ h => h) (Or.inl ⟨?_, ?_⟩) (by assumption) ?_
  rotate_left
  · rfl
  · (intro w hSw; (try dsimp only at hSw); first | (go_simp; done) | (go_simp; with_reducible rfl))
  (try simp only [Act.put, List.getElem_toArray, List.getElem_cons_zero, List.getElem_cons_succ, List.setIfInBounds_toArray, List.set_cons_zero, List.set_cons_succ])
  refine wpAnyZ_one (i := 17) rfl (by kernel_rfl) (fun K hK => ?_)
  go_simp
  go_at_call 98
  refine (HC.out _).mono ?_
  rintro e w1 ⟨rfl, hb1⟩
  have HB1 : Below (w.heap.size + 1) (w.alloc (.cells #[.int .i64 15, .int .i64 t, .int .i64 x, .int .i64 b, .int .i64 n, .int .i64 g] 71)) w1 := Below.trans (Below.refl _ _).drew (Below.mono hb1 (by simp))
  go_wp2_with fail
  refine hK.out _ _ (KZ _ HB1) (fun hHeld => ?_)
  clear hK K
  (try simp only [Act.put, List.getElem_toArray, List.getElem_cons_zero, List.getElem_cons_succ, List.setIfInBounds_toArray, List.set_cons_zero, List.set_cons_succ])
  refine wpAnyZ_take (i := 18) (v := ?_) rfl (by kernel_rfl) (by kernel_rfl) (by kernel_rfl) (fun _ _ _ h => h) (Or.inl ⟨?_, ?_⟩) (by assumption) ?_
  rotate_left
  · rfl
  · (intro w hSw; (try dsimp only at hSw); first | (go_simp; done) | (go_simp; with_reducible rfl))
  (try simp only [Act.put, List.getElem_toArray, List.getElem_cons_zero, List.getElem_cons_succ, List.setIfInBounds_toArray, List.set_cons_zero, List.set_cons_succ])
  refine wpAnyZ_take (i := 19) (v := ?_) rfl (by kernel_rfl) (by kernel_rfl) (by kernel_rfl) (fun _ _ _ h => h) (Or.inl ⟨?_, ?_⟩) (by assumption) ?_
  rotate_left
  · rfl
  · (intro w hSw; (try dsimp only at hSw); first | (go_simp; done) | (go_simp; with_reducible rfl))
  (try simp only [Act.put, List.getElem_toArray, List.getElem_cons_zero, List.getElem_cons_succ, List.setIfInBounds_toArray, List.set_cons_zero, List.set_cons_succ])
  refine wpAnyZ_done (by kernel_rfl) ?_ _
  have q0'' : w1.cell? ⟨m, 0, none⟩ = some (.int .i64 s.at_) := by rw [HB1.cell (by simp; omega)]; exact q0'
  have x5 : w1.cell? ⟨w.heap.size, 5, none⟩ = some (.int .i64 g) := by rw [HB1.cell (by simp)]; simp [go_sem]
  have HF : Below w.heap.size w w1 := HW.trans (HB1.mono (Nat.le_succ _))
  cases cv
  all_goals
    go_wp2
    go_ret
    exact ⟨rfl, HF⟩
end Go.Proofs.YtmapdpcfanecdaaDoor

namespace Go.Proofs.YtmapdpcfanecdaaDoor
set_option linter.unusedVariables false
set_option linter.unusedSimpArgs false
open Go.RowKit
attribute [local go_sem ↓] Go.wp_at_zero Go.wp_at_succ

theorem next_any (V : Int) (f : Nat) (c : List Ins) (s : St) (hp : ProgOk V f c) (hr : RunOk V f c s) (i : Ins) (hi : ckOne V f c.length i = 0) (s' : St) (ha : s'.at_ = s.at_) (hvs : i.k = 15 → s'.vars = s.vars) (m B : Nat) (vv tv lv : Value) (fv : List Value) (w : World) (h : OwnRun w B m s' vv tv lv fv) :
    Calls Tryd.prog 76 #[.pointer (some ⟨m, 0, none⟩), .agg #[.int .i64 i.k, .int .i64 i.to, .int .i64 i.a, .int .i64 i.b, .int .i64 i.n, .int .i64 i.g]] w fun e w' => e = .returned (.int .i64 (nextAt s i (aOf s i))) ∧ Below w.heap.size w w' := by
  have hA := aOf_ok hr hi
  have h0 := hr.at0
  have h1 := hr.at1
  have hl := hp.len
  obtain ⟨p1, p2, p3, p4, p5, p6, p7, p8, p9⟩ := ckOne_parts hi
  by_cases k16 : i.k = 16
  · have e : nextAt s i (aOf s i) = i.g := by unfold nextAt; rw [if_pos (.inl k16)]
    rw [e, k16]
    exact next_goto m _ _ _ _ _ w
  by_cases k15 : i.k = 15
  · have hn : nA i.k = true := by rw [k15]; rfl
    obtain ⟨x, hx⟩ := Int.eq_ofNat_of_zero_le (p3 hn).1
    have hv := hr.vars
    have hxl : x < s.vars.length := by have := (p3 hn).2; omega
    have hvx := hvs k15
    have hxl' : x < s'.vars.length := by rw [hvx]; exact hxl
    have ea : aOf s i = s.vars[x] := by unfold aOf; rw [hn, if_pos rfl, hx]; exact varAt_eq hxl
    have ev : s'.vars[x] = s.vars[x] := by simp only [hvx]
    rw [ea] at hA ⊢
    have e : nextAt s i s.vars[x] = bif cnt s.vars[x] then i.g else s.at_ + 1 := by
      unfold nextAt
      cases hc : cnt s.vars[x] <;> simp [k15, k16, hc]
    rw [e, k15, hx]
    have := next_if m B x s' vv tv lv fv i.to i.b i.n i.g w h hxl' _ (by rw [ev]; exact hA) (by omega) (by omega)
    rw [ev, ha] at this
    exact this
  · have e : nextAt s i (aOf s i) = s.at_ + 1 := by unfold nextAt; rw [if_neg (by omega)]
    rw [e, ← ha]
    exact next_flat m B s' vv tv lv fv _ _ _ _ _ _ w h k15 k16 (by omega) (by omega)

theorem OwnRun.withAt {w : World} {B m : Nat} {s : St} {vv tv lv : Value} {fv : List Value} (h : OwnRun w B m s vv tv lv fv) (x : Int) : OwnRun (w.setCell ⟨m, 0, none⟩ (.int .i64 x)) B m { s with at_ := x } vv tv lv fv := by
  simpa using h.setM 0 x (by omega)
theorem OwnRun.withFin {w : World} {B m : Nat} {s : St} {vv tv lv : Value} {fv : List Value} (h : OwnRun w B m s vv tv lv fv) (x : Int) : OwnRun (w.setCell ⟨m, 5, none⟩ (.int .i64 x)) B m { s with fin := x } vv tv lv fv := by
  simpa using h.setM 5 x (by omega)
theorem eff_vars15 (F : Int) (ins : List Int) (s : St) (i : Ins) (A C : Val) (h : i.k = 15) : effSt F ins s i A C = s := by
  obtain ⟨k, t, a, b, n, g⟩ := i
  simp only at h
  subst h
  rfl
end Go.Proofs.YtmapdpcfanecdaaDoor

namespace Go.Proofs.YtmapdpcfanecdaaDoor
set_option linter.unusedVariables false
set_option linter.unusedSimpArgs false
open Go.RowKit

structure SInv (w wx : World) (r : St) (v f : Int) (s : Option Addr) (n cap bi : Nat) (i : Ins) (A C : Val) (vv tv lv : Value) (fv : List Value) : Prop where
  own : OwnRun wx (w.heap.size + 1) (w.heap.size + 1) r vv tv lv fv
  prg : P3 wx w.heap.size v f s n cap
  res : R6 wx (w.heap.size + 1 + 1) (.int .i64 0) (.slice none 0 0) (.slice none 0 0) (.int .i64 0) (.slice none 0 0) (.int .i64 0)
  low : Below w.heap.size w wx
  ins : R6 wx bi (.int .i64 i.k) (.int .i64 i.to) (.int .i64 i.a) (.int .i64 i.b) (.int .i64 i.n) (.int .i64 i.g)
  va : VAt wx (bi + 1) A
  vb : VAt wx (bi + 1 + 1) C
  lt : ∀ k, some k ∈ ownBlocks (w.heap.size + 1) vv tv lv fv → k < bi
  biz : w.heap.size + 1 + 1 < bi
  nres : some (w.heap.size + 1 + 1) ∉ ownBlocks (w.heap.size + 1) vv tv lv fv
section
variable {w wx wy : World} {r r' : St} {v f : Int} {s : Option Addr} {n cap bi : Nat} {i : Ins} {A C : Val} {vv tv lv : Value} {fv : List Value}
theorem P3.far {w : World} {b : Nat} {V F : Int} {s : Option Addr} {n cap : Nat} (h : P3 w b V F s n cap) {a : Addr} (ha : a.block ≠ b) (y : Value) : P3 (w.setCell a y) b V F s n cap := by
  obtain ⟨⟨h0, h1, h2⟩, hz⟩ := h
  refine ⟨⟨?_, ?_, ?_⟩, by simpa [World.setCell] using hz⟩
  · rw [World.cell?_setCell_far _ _ _ _ ha]; exact h0
  · rw [World.cell?_setCell_far _ _ _ _ ha]; exact h1
  · rw [World.cell?_setCell_far _ _ _ _ ha]; exact h2
theorem OwnRun.far {w : World} {B m : Nat} {s : St} {vv tv lv : Value} {fv : List Value} (h : OwnRun w B m s vv tv lv fv) {a : Addr} (ha : ∀ k, some k ∈ ownBlocks m vv tv lv fv → k ≠ a.block) (y : Value) : OwnRun (w.setCell a y) B m s vv tv lv fv := h.same fun k hk => Below.heap_setCell _ _ _ _ (ha k hk)
theorem SInv.new (own : OwnRun wx (w.heap.size + 1) (w.heap.size + 1) r vv tv lv fv) (prg : P3 wx w.heap.size v f s n cap) (res : R6 wx (w.heap.size + 1 + 1) (.int .i64 0) (.slice none 0 0) (.slice none 0 0) (.int .i64 0) (.slice none 0 0) (.int .i64 0)) (low : Below w.heap.size w wx) (hz : w.heap.size + 1 + 1 + 1 ≤ wx.heap.size) (nres : some (w.heap.size + 1 + 1) ∉ ownBlocks (w.heap.size + 1) vv tv lv fv) (i : Ins) :
    SInv w (((wx.alloc (.cells #[.int .i64 i.k, .int .i64 i.to, .int .i64 i.a, .int .i64 i.b, .int .i64 i.n, .int .i64 i.g] 71)).alloc (.cells #[.int .i64 0, .int .i64 0] 94)).alloc (.cells #[.int .i64 0, .int .i64 0] 94)) r v f s n cap wx.heap.size i ⟨0, 0⟩ ⟨0, 0⟩ vv tv lv fv := by
  have hb : Below wx.heap.size wx (((wx.alloc (.cells #[.int .i64 i.k, .int .i64 i.to, .int .i64 i.a, .int .i64 i.b, .int .i64 i.n, .int .i64 i.g] 71)).alloc (.cells #[.int .i64 0, .int .i64 0] 94)).alloc (.cells #[.int .i64 0, .int .i64 0] 94)) := by go_grown
  have h1 := (R6.new wx 71 (.int .i64 i.k) (.int .i64 i.to) (.int .i64 i.a) (.int .i64 i.b) (.int .i64 i.n) (.int .i64 i.g)).call (w' := ((wx.alloc (.cells #[.int .i64 i.k, .int .i64 i.to, .int .i64 i.a, .int .i64 i.b, .int .i64 i.n, .int .i64 i.g] 71)).alloc (.cells #[.int .i64 0, .int .i64 0] 94)).alloc (.cells #[.int .i64 0, .int .i64 0] 94)) (by go_grown)
  have h2 := (VAt.new (wx.alloc (.cells #[.int .i64 i.k, .int .i64 i.to, .int .i64 i.a, .int .i64 i.b, .int .i64 i.n, .int .i64 i.g] 71)) ⟨0, 0⟩).call (w' := ((wx.alloc (.cells #[.int .i64 i.k, .int .i64 i.to, .int .i64 i.a, .int .i64 i.b, .int .i64 i.n, .int .i64 i.g] 71)).alloc (.cells #[.int .i64 0, .int .i64 0] 94)).alloc (.cells #[.int .i64 0, .int .i64 0] 94)) (by go_grown)
  have h3 := VAt.new ((wx.alloc (.cells #[.int .i64 i.k, .int .i64 i.to, .int .i64 i.a, .int .i64 i.b, .int .i64 i.n, .int .i64 i.g] 71)).alloc (.cells #[.int .i64 0, .int .i64 0] 94)) ⟨0, 0⟩
  rw [World.size_alloc] at h2
  rw [World.size_alloc, World.size_alloc] at h3
  exact ⟨own.below hb, prg.call hb, res.call hb, low.trans (hb.mono low.size), h1, h2, h3, fun k hk => own.lt hk, by omega, nres⟩
theorem SInv.call (h : SInv w wx r v f s n cap bi i A C vv tv lv fv) (hb : Below wx.heap.size wx wy) : SInv w wy r v f s n cap bi i A C vv tv lv fv :=
  ⟨h.own.below hb, h.prg.call hb, h.res.call hb, h.low.trans (hb.mono h.low.size), h.ins.call hb, h.va.call hb, h.vb.call hb, h.lt, h.biz, h.nres⟩
/-- A store into a block from the instruction's on, that is none of the three. -/
theorem SInv.far (h : SInv w wx r v f s n cap bi i A C vv tv lv fv) {a : Addr} (ha : bi + 1 + 1 < a.block) (y : Value) : SInv w (wx.setCell a y) r v f s n cap bi i A C vv tv lv fv := by
  have hb := h.biz
  exact ⟨h.own.far (fun k hk => by have := h.lt k hk; omega) y, h.prg.far (by omega) y, h.res.far (by omega) y, h.low.setCell (by omega) y, h.ins.far (by omega) y, h.va.set (by omega) y, h.vb.set (by omega) y, h.lt, h.biz, h.nres⟩
theorem SInv.putA (h : SInv w wx r v f s n cap bi i A C vv tv lv fv) (u : Val) : SInv w ((wx.setCell ⟨bi + 1, 0, none⟩ (.int .i64 u.k)).setCell ⟨bi + 1, 1, none⟩ (.int .i64 u.n)) r v f s n cap bi i u C vv tv lv fv := by
  have hb := h.biz
  have hl : ∀ k, some k ∈ ownBlocks (w.heap.size + 1) vv tv lv fv → k ≠ bi + 1 := fun k hk => by have := h.lt k hk; omega
  exact ⟨(h.own.far (a := ⟨bi + 1, 0, none⟩) hl _).far (a := ⟨bi + 1, 1, none⟩) hl _, (h.prg.far (a := ⟨bi + 1, 0, none⟩) (by simp only; omega) _).far (a := ⟨bi + 1, 1, none⟩) (by simp only; omega) _, (h.res.far (a := ⟨bi + 1, 0, none⟩) (by simp only; omega) _).far (a := ⟨bi + 1, 1, none⟩) (by simp only; omega) _, (h.low.setCell (by simp only; omega) _).setCell (by simp only; omega) _, (h.ins.far (a := ⟨bi + 1, 0, none⟩) (by simp) _).far (a := ⟨bi + 1, 1, none⟩) (by simp) _, h.va.put u, (h.vb.set (a := ⟨bi + 1, 0, none⟩) (by simp) _).set (a := ⟨bi + 1, 1, none⟩) (by simp) _, h.lt, h.biz, h.nres⟩
theorem SInv.putB (h : SInv w wx r v f s n cap bi i A C vv tv lv fv) (u : Val) : SInv w ((wx.setCell ⟨bi + 1 + 1, 0, none⟩ (.int .i64 u.k)).setCell ⟨bi + 1 + 1, 1, none⟩ (.int .i64 u.n)) r v f s n cap bi i A u vv tv lv fv := by
  have hb := h.biz
  have hl : ∀ k, some k ∈ ownBlocks (w.heap.size + 1) vv tv lv fv → k ≠ bi + 1 + 1 := fun k hk => by have := h.lt k hk; omega
  exact ⟨(h.own.far (a := ⟨bi + 1 + 1, 0, none⟩) hl _).far (a := ⟨bi + 1 + 1, 1, none⟩) hl _, (h.prg.far (a := ⟨bi + 1 + 1, 0, none⟩) (by simp only; omega) _).far (a := ⟨bi + 1 + 1, 1, none⟩) (by simp only; omega) _, (h.res.far (a := ⟨bi + 1 + 1, 0, none⟩) (by simp only; omega) _).far (a := ⟨bi + 1 + 1, 1, none⟩) (by simp only; omega) _, (h.low.setCell (by simp only; omega) _).setCell (by simp only; omega) _, (h.ins.far (a := ⟨bi + 1 + 1, 0, none⟩) (by simp only; omega) _).far (a := ⟨bi + 1 + 1, 1, none⟩) (by simp only; omega) _, (h.va.set (a := ⟨bi + 1 + 1, 0, none⟩) (by simp) _).set (a := ⟨bi + 1 + 1, 1, none⟩) (by simp) _, h.vb.put u, h.lt, h.biz, h.nres⟩
/-- The run is handed back: its six cells are laid into the result's block. -/
theorem own_back {st : St} (h : OwnRun wx (w.heap.size + 1) (w.heap.size + 1) st vv tv lv fv) (hz : some (w.heap.size + 1 + 1) ∉ ownBlocks (w.heap.size + 1) vv tv lv fv) (low : Below w.heap.size w wx) :
    OwnRows (set6 wx (w.heap.size + 1 + 1) (.int .i64 st.at_) vv tv (.int .i64 st.taken) lv (.int .i64 st.fin)) w.heap.size st vv tv lv fv ∧ Below w.heap.size w (set6 wx (w.heap.size + 1 + 1) (.int .i64 st.at_) vv tv (.int .i64 st.taken) lv (.int .i64 st.fin)) := by
  refine ⟨(OwnRows.same h.rows (fun k hk => set6_far _ _ _ _ _ _ _ _ k (fun e => hz ?_))).down (by omega), below_set6 low (by omega) _ _ _ _ _ _⟩
  rw [← e]
  unfold ownBlocks
  exact List.mem_cons_of_mem _ hk
/-- One block behind the three has turned, and no other. -/
theorem SInv.only (h : SInv w wx r v f s n cap bi i A C vv tv lv fv) {q : Nat} (hq : bi + 1 + 1 < q) (hf : ∀ k, k ≠ q → wy.heap[k]? = wx.heap[k]?) (hb : Below q wx wy) : SInv w wy r v f s n cap bi i A C vv tv lv fv := by
  have hz := h.biz
  have hsz := hb.size
  refine ⟨h.own.same fun k hk => hf k (by have := h.lt k hk; omega), ?_, h.res.same (hf _ (by omega)) hsz, h.low.trans (hb.mono (by omega)), h.ins.same (hf _ (by omega)) hsz, h.va.same (hf _ (by omega)) hsz, h.vb.same (hf _ (by omega)) hsz, h.lt, h.biz, h.nres⟩
  exact h.prg.below hb (by omega)
theorem stepSt_at {F : Int} {c : List Ins} {ins : List Int} {r : St} {k : Nat} {i : Ins} (hf : r.fin = 0) (ha : r.at_ = (k : Int)) (hk : k < c.length) (hc : c[k] = i) : stepSt F c ins r = if endI r i ≠ 0 then { r with fin := endI r i } else { effSt F ins r i (aOf r i) (bOf r i) with at_ := nextAt r i (aOf r i) } := by
  rw [stepSt_eq, if_neg (by omega), if_neg (by omega), ha, insAt_eq hk, hc, ← ha]
/-- Behind a store into one of the run's own blocks. -/
theorem R6.own {m : Nat} {x0 x1 x2 x3 x4 x5 : Value} (h : R6 wx m x0 x1 x2 x3 x4 x5) {bs : List (Option Nat)} (hf : ∀ k, k < wx.heap.size → some k ∉ bs → wy.heap[k]? = wx.heap[k]?) (hz : wx.heap.size ≤ wy.heap.size) (hm : some m ∉ bs) : R6 wy m x0 x1 x2 x3 x4 x5 := h.same (hf m h.2.1 hm) hz
end
end Go.Proofs.YtmapdpcfanecdaaDoor

namespace Go.Proofs.YtmapdpcfanecdaaDoor
set_option linter.unusedVariables false
set_option linter.unusedSimpArgs false
open Go.RowKit

set_option maxHeartbeats 1000000 in
theorem countsOf_any (v : Val) (w : World) :
    Calls Tryd.prog 53 #[.agg #[.int .i64 v.k, .int .i64 v.n]] w fun e w' => e = .returned (.bool (cnt v)) ∧ Below w.heap.size w w' := by
  obtain ⟨k, n⟩ := v
  by_cases h3 : k = 3
  · subst h3
    go_enter Tryd.func53, Tryd.ntmps53
    go_wp2
    go_ret
    exact ⟨rfl, by go_grown⟩
  by_cases h1 : k = 1
  · subst h1
    go_enter Tryd.func53, Tryd.ntmps53
    go_wp2
    go_ret
    exact ⟨ret_bool (by simp [cnt, bne]; rfl), by go_grown⟩
  by_cases h2 : k = 2
  · subst h2
    go_enter Tryd.func53, Tryd.ntmps53
    go_wp2
    go_ret
    exact ⟨ret_bool (by simp [cnt, bne]; rfl), by go_grown⟩
  · have e3 : (k == 3) = false := by simpa using h3
    have e1 : (k == 1) = false := by simpa using h1
    have e2 : (k == 2) = false := by simpa using h2
    go_enter Tryd.func53, Tryd.ntmps53
    go_wp2
    go_ret
    exact ⟨ret_bool (by simp [cnt, h1, h2, h3]), by go_grown⟩

set_option maxHeartbeats 1000000 in
theorem wrap_any (n : Int) (w : World) :
    Calls Tryd.prog 55 #[.int .i64 n] w fun e w' => e = .returned (.int .i64 (wr n)) ∧ w' = w := by
  have hq : Hid (4294967296 * n.tdiv 4294967296 + n.tmod 4294967296 = n) := Int.mul_tdiv_add_tmod n 4294967296
  have hlo : -4294967296 < n.tmod 4294967296 := Int.lt_tmod_of_pos n (by decide)
  have hhi : n.tmod 4294967296 < 4294967296 := Int.tmod_lt_of_pos n (by decide)
  go_enter Tryd.func55, Tryd.ntmps55
  go_wp2
  all_goals go_ret
  all_goals exact ⟨ret_int (by have := hq.out; unfold wr; first | omega | (simp only [wrap64] at *; omega)), rfl⟩

/-- A value's line. -/
def showV (v : Val) : ByteArray := if v.k = 0 then ⟨#[110, 117, 108, 108]⟩ else if v.k = 1 then ⟨(Lib.itoa v.n).toArray⟩ else if v.k = 2 then (if v.n = 1 then ⟨#[116, 114, 117, 101]⟩ else ⟨#[102, 97, 108, 115, 101]⟩) else ⟨#[116, 104, 105, 110, 103]⟩

set_option maxHeartbeats 1000000 in
theorem showValue_any (v : Val) (w : World) (h0 : -9223372036854775808 ≤ v.n) (h1 : v.n ≤ 9223372036854775807) :
    Calls Tryd.prog 56 #[.agg #[.int .i64 v.k, .int .i64 v.n]] w fun e w' => e = .returned (.string (showV v)) ∧ Below w.heap.size w w' := by
  obtain ⟨k, n⟩ := v
  simp only at h0 h1
  have walk : ∀ s : ByteArray, showV ⟨k, n⟩ = s → Calls Tryd.prog 56 #[.agg #[.int .i64 k, .int .i64 n]] w (fun e w' => e = .returned (.string s) ∧ Below w.heap.size w w') := by
    intro s hs
    by_cases e0 : k = 0
    · subst e0
      have hs : s = ⟨#[110, 117, 108, 108]⟩ := by rw [← hs]; rfl
      subst hs
      go_enter Tryd.func56, Tryd.ntmps56
      go_wp2
      go_ret
      exact ⟨rfl, by go_grown⟩
    by_cases e1 : k = 1
    · subst e1
      have hs : s = ⟨(Lib.itoa n).toArray⟩ := by rw [← hs]; rfl
      subst hs
      go_enter Tryd.func56, Tryd.ntmps56
      go_wp2_with (go_at_call 38; refine (digits_any _ _ h0 h1).mono ?_; rintro e w1 ⟨rfl, hb1⟩)
      go_ret
      exact ⟨rfl, Below.trans (by go_grown) (hb1.mono (by go_size))⟩
    by_cases e2 : k = 2
    · subst e2
      by_cases en : n = 1
      · subst en
        have hs : s = ⟨#[116, 114, 117, 101]⟩ := by rw [← hs]; rfl
        subst hs
        go_enter Tryd.func56, Tryd.ntmps56
        go_wp2
        go_ret
        exact ⟨rfl, by go_grown⟩
      · have hs : s = ⟨#[102, 97, 108, 115, 101]⟩ := by rw [← hs]; simp [showV, en]
        subst hs
        have en' : (n == 1) = false := by simpa using en
        go_enter Tryd.func56, Tryd.ntmps56
        go_wp2
        go_ret
        exact ⟨rfl, by go_grown⟩
    · have hs : s = ⟨#[116, 104, 105, 110, 103]⟩ := by rw [← hs]; simp [showV, e0, e1, e2]
      subst hs
      have e0' : (k == 0) = false := by simpa using e0
      have e1' : (k == 1) = false := by simpa using e1
      have e2' : (k == 2) = false := by simpa using e2
      go_enter Tryd.func56, Tryd.ntmps56
      go_wp2
      go_ret
      exact ⟨rfl, by go_grown⟩
  exact walk _ rfl
end Go.Proofs.YtmapdpcfanecdaaDoor
