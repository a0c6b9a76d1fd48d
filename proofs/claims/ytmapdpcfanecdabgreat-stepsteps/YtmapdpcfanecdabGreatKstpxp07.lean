/- A region that draws its order, reads under one condition on the world, and ends in stores that wait for all that was read: behind those stores the condition need not hold. -/
import Derived.Test.YtmapdpcfanecdabGreatKstpxp02
import Derived.Deep.RegionHeld
import Derived.OwnWalk
set_option linter.unusedSimpArgs false
set_option linter.unusedVariables false
namespace Go.Proofs.YtmapdpcfanecdabGreat
section
set_option maxHeartbeats 1000000
set_option maxRecDepth 100000
open Go.RowKit

/-- Two spans that came in, and one that goes out, in memory. -/
abbrev w3 (s t r : Sp) (w : World) : World := ((w.alloc (.cells #[.bool s.n, .int .i64 s.lo, .int .i64 s.hi] 58)).alloc (.cells #[.bool t.n, .int .i64 t.lo, .int .i64 t.hi] 58)).alloc (.cells #[.bool r.n, .int .i64 r.lo, .int .i64 r.hi] 58)

theorem w3_cells {B : Nat} {s t r : Sp} {w w1 : World} (hb : Below B (w3 s t r w) w1) (hB : w.heap.size + 2 < B) : (w1.cell? ⟨w.heap.size, 0, none⟩ = some (.bool s.n) ∧ w1.cell? ⟨w.heap.size, 1, none⟩ = some (.int .i64 s.lo) ∧ w1.cell? ⟨w.heap.size, 2, none⟩ = some (.int .i64 s.hi)) ∧ (w1.cell? ⟨w.heap.size + 1, 0, none⟩ = some (.bool t.n) ∧ w1.cell? ⟨w.heap.size + 1, 1, none⟩ = some (.int .i64 t.lo) ∧ w1.cell? ⟨w.heap.size + 1, 2, none⟩ = some (.int .i64 t.hi)) ∧ (w1.cell? ⟨w.heap.size + 1 + 1, 0, none⟩ = some (.bool r.n) ∧ w1.cell? ⟨w.heap.size + 1 + 1, 1, none⟩ = some (.int .i64 r.lo) ∧ w1.cell? ⟨w.heap.size + 1 + 1, 2, none⟩ = some (.int .i64 r.hi)) ∧ (w1.frozen? ⟨w.heap.size + 1 + 1, 0, none⟩ = false ∧ w1.frozen? ⟨w.heap.size + 1 + 1, 1, none⟩ = false ∧ w1.frozen? ⟨w.heap.size + 1 + 1, 2, none⟩ = false) ∧ (w.heap.size < w1.heap.size ∧ w.heap.size + 1 < w1.heap.size ∧ w.heap.size + 1 + 1 < w1.heap.size) := by
 have hs := hb.size
 rw [hb.cell (by simp; omega), hb.cell (by simp; omega), hb.cell (by simp; omega), hb.cell (by simp; omega), hb.cell (by simp; omega), hb.cell (by simp; omega), hb.cell (by simp; omega), hb.cell (by simp; omega), hb.cell (by simp; omega), hb.frozen (by simp; omega), hb.frozen (by simp; omega), hb.frozen (by simp; omega)]
 simp [go_sem] at hs ⊢
 omega

theorem w3_below (s t r : Sp) (w : World) : Below w.heap.size w (w3 s t r w) := by go_grown

theorem together_err (F : Nat) (s t : Sp) (w : World) (h : ckSps s t ≠ 0) :
  Calls Tryz.prog 111 #[sv s, sv t, .func (.func F) #[] #[]] w fun e w' => e = .returned (.tuple #[sv zeroSp, .int .i64 (ckSps s t)]) ∧ Below w.heap.size w w' := by
 obtain ⟨n, lo, hi⟩ := s
 obtain ⟨n', lo', hi'⟩ := t
 go_enter Tryz.func111, Tryz.ntmps111
 go_wp2_with (go_at_call 138; fail)
 refine (checkBoth_any ⟨n, lo, hi⟩ ⟨n', lo', hi'⟩ _).mono ?_
 rintro e w1 ⟨rfl, hb1⟩
 obtain ⟨⟨c0, c1, c2⟩, ⟨d0, d1, d2⟩, ⟨r0, r1, r2⟩, ⟨f0, f1, f2⟩, z0, z1, z2⟩ := w3_cells (s := ⟨n, lo, hi⟩) (t := ⟨n', lo', hi'⟩) (r := zeroSp) hb1 (by simp)
 have H1 : Below w.heap.size w w1 := (w3_below ⟨n, lo, hi⟩ ⟨n', lo', hi'⟩ zeroSp w).trans (hb1.mono (by simp; omega))
 clear hb1
 simp only [zeroSp] at r0 r1 r2
 go_wp2
 refine bodyPost_ret (v := .tuple #[sv zeroSp, .int .i64 (ckSps ⟨n, lo, hi⟩ ⟨n', lo', hi'⟩)]) (by simp [results, Tryz.results111, go_sem, r0, r1, r2, zeroSp]) rfl ⟨rfl, ?_⟩
 exact ((H1.setCell (by simp; omega) _).setCell (by simp; omega) _).setCell (by simp; omega) _

theorem prf_6f29cf {p : Prop} (h : p := by
 obtain ⟨rn, rlo, rhi⟩ := r
 go_wp2
 refine bodyPost_ret (v := .tuple #[sv ⟨rn, rlo, rhi⟩, .int .i64 0]) (by simp [results, Tryz.results111, go_sem, g0, g1, g2]) rfl ⟨by rw [hr], ?_⟩
 exact ((H2.setCell (by simp; omega) _).setCell (by simp; omega) _).setCell (by simp; omega) _) : p := h
theorem together_join (s t : Sp) (w : World) (h : ckSps s t = 0) :
  Calls Tryz.prog 111 #[sv s, sv t, .func (.func 137) #[] #[]] w fun e w' => e = .returned (.tuple #[sv (joinSp s t), .int .i64 0]) ∧ Below w.heap.size w w' := by
 obtain ⟨n, lo, hi⟩ := s
 obtain ⟨n', lo', hi'⟩ := t
 go_enter Tryz.func111, Tryz.ntmps111
 go_wp2_with (go_at_call 138; fail)
 refine (checkBoth_any ⟨n, lo, hi⟩ ⟨n', lo', hi'⟩ _).mono ?_
 rintro e w1 ⟨rfl, hb1⟩
 obtain ⟨⟨c0, c1, c2⟩, ⟨d0, d1, d2⟩, ⟨r0, r1, r2⟩, ⟨f0, f1, f2⟩, z0, z1, z2⟩ := w3_cells (s := ⟨n, lo, hi⟩) (t := ⟨n', lo', hi'⟩) (r := zeroSp) hb1 (by simp)
 have H1 : Below w.heap.size w w1 := (w3_below ⟨n, lo, hi⟩ ⟨n', lo', hi'⟩ zeroSp w).trans (hb1.mono (by simp; omega))
 rw [h]
 simp only [zeroSp] at r0 r1 r2
 clear hb1
 go_wp2_with (go_at_call 137; fail)
 refine (join_any ⟨n, lo, hi⟩ ⟨n', lo', hi'⟩ _).mono ?_
 rintro e w2 ⟨rfl, hb2⟩
 have g0 := r0; have g1 := r1; have g2 := r2; have k0 := f0; have k1 := f1; have k2 := f2
 rw [← hb2.cell z2] at g0 g1 g2
 rw [← hb2.frozen z2] at k0 k1 k2
 have H2 : Below w.heap.size w w2 := H1.trans (hb2.mono (by omega))
 clear r0 r1 r2 f0 f1 f2 hb2 c0 c1 c2 d0 d1 d2
 generalize hr : joinSp ⟨n, lo, hi⟩ ⟨n', lo', hi'⟩ = r
 exact prf_6f29cf

theorem together_meet (s t : Sp) (w : World) (h : ckSps s t = 0) :
  Calls Tryz.prog 111 #[sv s, sv t, .func (.func 112) #[] #[]] w fun e w' => e = .returned (.tuple #[sv (meetSp s t), .int .i64 0]) ∧ Below w.heap.size w w' := by
 obtain ⟨n, lo, hi⟩ := s
 obtain ⟨n', lo', hi'⟩ := t
 go_enter Tryz.func111, Tryz.ntmps111
 go_wp2_with (go_at_call 138; fail)
 refine (checkBoth_any ⟨n, lo, hi⟩ ⟨n', lo', hi'⟩ _).mono ?_
 rintro e w1 ⟨rfl, hb1⟩
 obtain ⟨⟨c0, c1, c2⟩, ⟨d0, d1, d2⟩, ⟨r0, r1, r2⟩, ⟨f0, f1, f2⟩, z0, z1, z2⟩ := w3_cells (s := ⟨n, lo, hi⟩) (t := ⟨n', lo', hi'⟩) (r := zeroSp) hb1 (by simp)
 have H1 : Below w.heap.size w w1 := (w3_below ⟨n, lo, hi⟩ ⟨n', lo', hi'⟩ zeroSp w).trans (hb1.mono (by simp; omega))
 rw [h]
 simp only [zeroSp] at r0 r1 r2
 clear hb1
 go_wp2_with (go_at_call 112; fail)
 refine (meet_any ⟨n, lo, hi⟩ ⟨n', lo', hi'⟩ _).mono ?_
 rintro e w2 ⟨rfl, hb2⟩
 have g0 := r0; have g1 := r1; have g2 := r2; have k0 := f0; have k1 := f1; have k2 := f2
 rw [← hb2.cell z2] at g0 g1 g2
 rw [← hb2.frozen z2] at k0 k1 k2
 have H2 : Below w.heap.size w w2 := H1.trans (hb2.mono (by omega))
 clear r0 r1 r2 f0 f1 f2 hb2 c0 c1 c2 d0 d1 d2
 generalize hr : meetSp ⟨n, lo, hi⟩ ⟨n', lo', hi'⟩ = r
 exact prf_6f29cf
end
section
set_option maxHeartbeats 1000000
open Go.RowKit

/-- What comes beside an errno. -/
abbrev spIf (e : Int) (r : Sp) : Sp := if e = 0 then r else zeroSp

theorem tog_join (s t : Sp) (w : World) :
  Calls Tryz.prog 111 #[sv s, sv t, .func (.func 137) #[] #[]] w fun e w' => e = .returned (.tuple #[sv (spIf (ckSps s t) (joinSp s t)), .int .i64 (ckSps s t)]) ∧ Below w.heap.size w w' := by
 by_cases h : ckSps s t = 0
 ·rw [h]; exact together_join s t w h
 ·unfold spIf; rw [if_neg h]; exact together_err _ s t w h

theorem joinF_any (s t : Sp) (w : World) :
  Calls Tryz.prog 110 #[sv s, sv t] w fun e w' => e = .returned (.tuple #[sv (spIf (ckSps s t) (joinSp s t)), .int .i64 (ckSps s t)]) ∧ Below w.heap.size w w' := by
 have hT := tog_join s t
 generalize spIf (ckSps s t) (joinSp s t) = r at hT ⊢
 generalize ckSps s t = c at hT ⊢
 obtain ⟨n, lo, hi⟩ := s
 obtain ⟨n', lo', hi'⟩ := t
 obtain ⟨rn, rlo, rhi⟩ := r
 go_enter Tryz.func110, Tryz.ntmps110
 go_wp2_with (go_at_call 111; fail)
 refine (hT _).mono ?_
 rintro e w1 ⟨rfl, hb1⟩
 obtain ⟨-, -, ⟨r0, r1, r2⟩, ⟨f0, f1, f2⟩, z0, z1, z2⟩ := w3_cells (s := ⟨n, lo, hi⟩) (t := ⟨n', lo', hi'⟩) (r := zeroSp) hb1 (by simp)
 have H1 : Below w.heap.size w w1 := (w3_below ⟨n, lo, hi⟩ ⟨n', lo', hi'⟩ zeroSp w).trans (hb1.mono (by simp; omega))
 simp only [zeroSp] at r0 r1 r2
 clear hb1 hT
 go_wp2
 refine bodyPost_ret (v := .tuple #[sv ⟨rn, rlo, rhi⟩, .int .i64 c]) (by simp [results, Tryz.results110, go_sem, r0, r1, r2]) rfl ⟨rfl, ?_⟩
 exact ((H1.setCell (by simp; omega) _).setCell (by simp; omega) _).setCell (by simp; omega) _

theorem tog_meet (s t : Sp) (w : World) :
  Calls Tryz.prog 111 #[sv s, sv t, .func (.func 112) #[] #[]] w fun e w' => e = .returned (.tuple #[sv (spIf (ckSps s t) (meetSp s t)), .int .i64 (ckSps s t)]) ∧ Below w.heap.size w w' := by
 by_cases h : ckSps s t = 0
 ·rw [h]; exact together_meet s t w h
 ·unfold spIf; rw [if_neg h]; exact together_err _ s t w h

theorem meetF_any (s t : Sp) (w : World) :
  Calls Tryz.prog 86 #[sv s, sv t] w fun e w' => e = .returned (.tuple #[sv (spIf (ckSps s t) (meetSp s t)), .int .i64 (ckSps s t)]) ∧ Below w.heap.size w w' := by
 have hT := tog_meet s t
 generalize spIf (ckSps s t) (meetSp s t) = r at hT ⊢
 generalize ckSps s t = c at hT ⊢
 obtain ⟨n, lo, hi⟩ := s
 obtain ⟨n', lo', hi'⟩ := t
 obtain ⟨rn, rlo, rhi⟩ := r
 go_enter Tryz.func86, Tryz.ntmps86
 go_wp2_with (go_at_call 111; fail)
 refine (hT _).mono ?_
 rintro e w1 ⟨rfl, hb1⟩
 obtain ⟨-, -, ⟨r0, r1, r2⟩, ⟨f0, f1, f2⟩, z0, z1, z2⟩ := w3_cells (s := ⟨n, lo, hi⟩) (t := ⟨n', lo', hi'⟩) (r := zeroSp) hb1 (by simp)
 have H1 : Below w.heap.size w w1 := (w3_below ⟨n, lo, hi⟩ ⟨n', lo', hi'⟩ zeroSp w).trans (hb1.mono (by simp; omega))
 simp only [zeroSp] at r0 r1 r2
 clear hb1 hT
 go_wp2
 refine bodyPost_ret (v := .tuple #[sv ⟨rn, rlo, rhi⟩, .int .i64 c]) (by simp [results, Tryz.results86, go_sem, r0, r1, r2]) rfl ⟨rfl, ?_⟩
 exact ((H1.setCell (by simp; omega) _).setCell (by simp; omega) _).setCell (by simp; omega) _

theorem within_err (s t : Sp) (w : World) (h : ckSps s t ≠ 0) :
  Calls Tryz.prog 119 #[sv s, sv t] w fun e w' => e = .returned (.tuple #[.bool false, .int .i64 (ckSps s t)]) ∧ Below w.heap.size w w' := by
 have hT := meetF_any s t
 have h' : (ckSps s t == 0) = false := by simpa using h
 generalize spIf (ckSps s t) (meetSp s t) = r at hT
 generalize ckSps s t = c at hT h h' ⊢
 obtain ⟨n, lo, hi⟩ := s
 obtain ⟨n', lo', hi'⟩ := t
 obtain ⟨rn, rlo, rhi⟩ := r
 have h0 : Below w.heap.size w ((w.alloc (.cells #[.bool n, .int .i64 lo, .int .i64 hi] 58)).alloc (.cells #[.bool n', .int .i64 lo', .int .i64 hi'] 58)) := by go_grown
 go_enter Tryz.func119, Tryz.ntmps119
 go_wp2_with (go_at_call 86; fail)
 refine (hT _).mono ?_
 rintro e w1 ⟨rfl, hb1⟩
 obtain ⟨c0, c1, c2, d0, d1, d2⟩ := sp_cells2 hb1 (by simp)
 have H1 : Below w.heap.size w w1 := h0.trans (hb1.mono (by simp; omega))
 have z0 : w.heap.size < w1.heap.size := by have := hb1.size; simp at this; omega
 clear hb1 hT
 go_wp2
 go_ret2
 exact ⟨rfl, H1.alloc (by omega) _⟩

/-- Are two spans the same, part by part? -/
theorem sp_eq (r : Sp) (s : Sp) : decide (r = s) = (r.n == s.n && (r.lo == s.lo && r.hi == s.hi)) := by
 obtain ⟨n, lo, hi⟩ := r
 obtain ⟨n', lo', hi'⟩ := s
 rw [Bool.eq_iff_iff]
 simp

theorem within_ok (s t : Sp) (w : World) (h : ckSps s t = 0) :
  Calls Tryz.prog 119 #[sv s, sv t] w fun e w' => e = .returned (.tuple #[.bool (decide (meetSp s t = s)), .int .i64 0]) ∧ Below w.heap.size w w' := by
 have hT := meetF_any s t
 rw [h] at hT
 have e0 : spIf 0 (meetSp s t) = meetSp s t := rfl
 rw [e0] at hT
 rw [sp_eq]
 clear e0 h
 generalize meetSp s t = r at hT ⊢
 obtain ⟨n, lo, hi⟩ := s
 obtain ⟨n', lo', hi'⟩ := t
 obtain ⟨rn, rlo, rhi⟩ := r
 have h0 : Below w.heap.size w ((w.alloc (.cells #[.bool n, .int .i64 lo, .int .i64 hi] 58)).alloc (.cells #[.bool n', .int .i64 lo', .int .i64 hi'] 58)) := by go_grown
 go_enter Tryz.func119, Tryz.ntmps119
 go_wp2_with (go_at_call 86; fail)
 refine (hT _).mono ?_
 rintro e w1 ⟨rfl, hb1⟩
 obtain ⟨c0, c1, c2, d0, d1, d2⟩ := sp_cells2 hb1 (by simp)
 have H1 : Below w.heap.size w w1 := h0.trans (hb1.mono (by simp; omega))
 have z0 : w.heap.size < w1.heap.size := by have := hb1.size; simp at this; omega
 clear hb1 hT
 go_wp2
 all_goals go_ret2
 all_goals exact ⟨ret_t2b (by simp_all), H1.alloc (by omega) _⟩

theorem within_any (s t : Sp) (w : World) :
  Calls Tryz.prog 119 #[sv s, sv t] w fun e w' => e = .returned (.tuple #[.bool (decide (ckSps s t = 0) && decide (meetSp s t = s)), .int .i64 (ckSps s t)]) ∧ Below w.heap.size w w' := by
 by_cases h : ckSps s t = 0
 ·have := within_ok s t w h
  rw [h]
  simpa using this
 ·have := within_err s t w h
  simpa [h] using this
end
section
open Go

section
variable {P : Program} {ops : Array Oper} {Q : Exit → Act → World → Prop} {md : Region.Mode} {S : World → Prop} {zs : List Nat}

/-- Whatever order is picked from here on, and S holds behind every operation that is carried out, but for those of zs. -/
def wpAnyZ (P : Program) (md : Region.Mode) (ops : Array Oper) (Q : Exit → Act → World → Prop) (S : World → Prop) (zs : List Nat) : Nat → Array Bool → Act → World → Prop
 | 0, listed, a, w => Region.ready md ops listed = [] ∧ Q .normal a w
 | fuel + 1, listed, a, w =>
  (Region.ready md ops listed = [] → Q .normal a w) ∧
  ∀ i ∈ Region.ready md ops listed, wpOp P ops Q i (fun a' w' => (i ∉ zs → S w') ∧ wpAnyZ P md ops Q S zs fuel (listed.setIfInBounds i true) a' w') a w

theorem wpAny_of_z : ∀ (fuel : Nat) (listed : Array Bool) (a : Act) (w : World), wpAnyZ P md ops Q S zs fuel listed a w → wpAny P md ops Q fuel listed a w
 | 0, _, _, _, h => h
 | fuel + 1, _, _, _, h => ⟨h.1, fun i hi => wpOp_mono (fun a' w' h' => wpAny_of_z fuel _ a' w' h'.2) (h.2 i hi)⟩

/-- Those that wait for number i, through others too. -/
def waitsOf (md : Region.Mode) (ops : Array Oper) (i : Nat) : Nat → List Nat → List Nat
 | 0, ws => ws
 | n + 1, ws => waitsOf md ops i n ((List.range ops.size).filter fun x => ((ops[x]?).map fun o => o.after.any fun e => Region.binds md e && (e.on == i || ws.contains e.on)).getD false)
def waitsOk (md : Region.Mode) (ops : Array Oper) (listed : Array Bool) (i : Nat) (ws : List Nat) : Bool :=
 ws.all fun x => !(listed.getD x true) && ((ops[x]?).map fun o => o.after.any fun e => Region.binds md e && (e.on == i || ws.contains e.on)).getD false
def zOk (md : Region.Mode) (ops : Array Oper) (listed : Array Bool) (i : Nat) (zs : List Nat) : Bool :=
 !zs.contains i && (let ws := waitsOf md ops i 8 []; waitsOk md ops listed i ws && zs.all fun z => listed.getD z true || ws.contains z)

theorem wpAnyZ_first {i : Nat} {oi : Oper} {v : Value} (hi : ops[i]? = some oi) (hsel : ∀ (j : Nat) (o : Oper) cs b, ops[j]? = some o → o.op ≠ .select cs b)
  (hQ : ∀ c a w, Q (.panic c) (a.put oi.dst v) w → Q (.panic c) a w) (hiz : i ∉ zs) (ws : List Nat)
  (hws : ∀ x ∈ ws, ∀ o, ops[x]? = some o → ∃ e ∈ o.after, Region.binds md e = true ∧ (e.on = i ∨ e.on ∈ ws)) :
  ∀ (fuel : Nat) (listed : Array Bool) (a : Act) (w : World),
   (∀ j oj, ops[j]? = some oj → j ≠ i → listed.getD j true = false → (∀ e ∈ oj.after, Region.binds md e = true → e.on ≠ i) → oi.apart ops oj = true) →
   (∀ x ∈ ws, listed.getD x true = false) → (∀ z ∈ zs, listed.getD z true = true ∨ z ∈ ws) →
   i ∈ Region.ready md ops listed → YieldsIf P ops S oi v a → S w →
   wpAnyZ P md ops Q S zs fuel (listed.setIfInBounds i true) (a.put oi.dst v) w → wpAnyZ P md ops Q S zs (fuel + 1) listed a w := by
 intro fuel
 induction fuel with
 | zero =>
  intro listed a w _ _ _ hr hy hS H
  refine ⟨fun h => (by rw [h] at hr; cases hr), fun j hj => ?_⟩
  by_cases hji : j = i
  ·subst hji; exact hy.wpOp hi hS ⟨fun _ => hS, H⟩
  ·have := ready_mono hj hji
   rw [H.1] at this
   cases this
 | succ fuel ih =>
  intro listed a w hfree hun hzs hr hy hS H
  refine ⟨fun h => (by rw [h] at hr; cases hr), fun j hj => ?_⟩
  by_cases hji : j = i
  ·subst hji; exact hy.wpOp hi hS ⟨fun _ => hS, H⟩
  ·have h1 := H.2 j (ready_mono hj hji)
   obtain ⟨hjun, oj, hoj, hall⟩ := mem_ready.1 hj
   have h0 := (mem_ready.1 hr).1
   have hf : ∀ x, listed.getD x true = false → listed.getD x false = false := fun x hx => by
    rcases Nat.lt_or_ge x listed.size with h' | h'
    ·simp [h'] at hx ⊢; exact hx
    ·simp [Array.getElem?_eq_none h'] at hx
   have hjw : j ∉ ws := fun hj' => by
    obtain ⟨e, he, hb, hon⟩ := hws j hj' oj hoj
    have h2 := hall e he hb
    rcases hon with hon | hon
    ·rw [hon, hf i h0] at h2; cases h2
    ·rw [hf _ (hun _ hon)] at h2; cases h2
   have hjz : j ∉ zs := fun hj' => by
    rcases hzs j hj' with h | h
    ·rw [h] at hjun; cases hjun
    ·exact hjw h
   have hnot : ∀ e ∈ oj.after, Region.binds md e = true → e.on ≠ i := fun e he hb heq => by
    have h2 := hall e he hb
    rw [heq, hf i h0] at h2
    cases h2
   have h2 := wpOp_putIf hoj (hfree j oj hoj hji hjun hnot) (fun cs b => hsel i oi cs b hi) (fun cs b => hsel j oj cs b hoj) hQ hy h1
   have hset : ∀ k, (listed.setIfInBounds j true).getD k true = false → listed.getD k true = false := fun k hk => by
    by_cases hjk : j = k
    ·subst hjk; exact hjun
    ·rw [getD_set_ne true hjk] at hk; exact hk
   have hfree' : ∀ k ok, ops[k]? = some ok → k ≠ i → (listed.setIfInBounds j true).getD k true = false →
     (∀ e ∈ ok.after, Region.binds md e = true → e.on ≠ i) → oi.apart ops ok = true := fun k ok hk hki hun' hno => hfree k ok hk hki (hset k hun') hno
   refine wpOp_mono (fun a' w' h3 => ⟨h3.2.1, ih (listed.setIfInBounds j true) a' w' hfree' (fun x hx => ?_) (fun z hz => ?_) (ready_mono hr (Ne.symm hji)) h3.1 (h3.2.1 hjz) ?_⟩) h2
   ·rw [getD_set_ne true (fun e => hjw (by rw [e]; exact hx))]; exact hun x hx
   ·rcases hzs z hz with h | h
    ·left
     by_cases hjk : j = z
     ·exact absurd (hjk ▸ hz) hjz
     ·rw [getD_set_ne true hjk]; exact h
    ·exact .inr h
   ·rw [Array.setIfInBounds_comm _ _ hji]
    exact h3.2.2

theorem wpAnyZ_take {i : Nat} {oi : Oper} {v : Value} {fuel : Nat} {listed : Array Bool} {a : Act} {w : World} (hi : ops[i]? = some oi)
  (hs : Region.noSelect ops = true) (hf : (Region.free md ops listed i && zOk md ops listed i zs) = true) (hr : (Region.ready md ops listed).contains i = true)
  (hQ : ∀ c a w, Q (.panic c) (a.put oi.dst v) w → Q (.panic c) a w) (hy : YieldsIf P ops S oi v a) (hS : S w)
  (h : wpAnyZ P md ops Q S zs fuel (listed.setIfInBounds i true) (a.put oi.dst v) w) : wpAnyZ P md ops Q S zs (fuel + 1) listed a w := by
 rw [Bool.and_eq_true] at hf
 obtain ⟨hf, hz⟩ := hf
 simp only [zOk, Bool.and_eq_true, waitsOk, List.all_eq_true, Bool.not_eq_true', Bool.or_eq_true] at hz
 obtain ⟨hz1, hz2, hz3⟩ := hz
 refine wpAnyZ_first hi (Region.noSelect_spec hs) hQ (by simpa using hz1) (waitsOf md ops i 8 []) (fun x hx o ho => ?_) fuel listed a w (Region.free_spec hi hf) (fun x hx => (hz2 x hx).1) (fun z hz => ?_) (by simpa using hr) hy hS h
 ·have := (hz2 x hx).2
  rw [ho] at this
  simp only [Option.map_some, Option.getD_some, Array.any_eq_true, Bool.and_eq_true, Bool.or_eq_true, beq_iff_eq] at this
  obtain ⟨k, hk, hb, hon⟩ := this
  exact ⟨_, Array.getElem_mem hk, hb, hon.imp id (by simp)⟩
 ·rcases hz3 z hz with h | h
  ·exact .inl h
  ·exact .inr (by simpa using h)

theorem wpAnyZ_done {listed : Array Bool} {a : Act} {w : World} (hr : Region.ready md ops listed = []) (h : Q .normal a w) :
  ∀ fuel, wpAnyZ P md ops Q S zs fuel listed a w
 | 0 => ⟨hr, h⟩
 | _ + 1 => ⟨fun _ => h, by rw [hr]; simp⟩

/-- The operation that alone may come up is carried out; behind it S is shown anew. -/
theorem wpAnyZ_one {i : Nat} {o : Oper} {fuel : Nat} {listed : Array Bool} {a : Act} {w : World} (ho : ops[i]? = some o) (hr : Region.ready md ops listed = [i])
  (h : ∀ K' : Act → World → Prop, Shut (∀ a w, S w → (S w → wpAnyZ P md ops Q S zs fuel (listed.setIfInBounds i true) a w) → K' a w) → if Region.wanted o (yielded ops a.tmps) = true then Oper.wp P o a w K' Q else K' (a.put o.dst undef) w) :
  wpAnyZ P md ops Q S zs (fuel + 1) listed a w := by
 refine ⟨fun h0 => (by rw [hr] at h0; cases h0), fun j hj => ?_⟩
 rw [hr] at hj
 obtain rfl : j = i := by simpa using hj
 exact wpOp_step ho (fun K' hK => h K' (fun a w hS hW => hK a w ⟨fun _ => hS, hW hS⟩))
/-- Of two that may come up whichever comes first. -/
theorem wpAnyZ_two {i j : Nat} {oi oj : Oper} {fuel : Nat} {listed : Array Bool} {a : Act} {w : World} (hoi : ops[i]? = some oi) (hoj : ops[j]? = some oj) (hr : Region.ready md ops listed = [i, j])
  (h : ∀ K' : Act → World → Prop, Shut (∀ a w, S w → (S w → wpAnyZ P md ops Q S zs fuel (listed.setIfInBounds i true) a w) → K' a w) → if Region.wanted oi (yielded ops a.tmps) = true then Oper.wp P oi a w K' Q else K' (a.put oi.dst undef) w)
  (h' : ∀ K' : Act → World → Prop, Shut (∀ a w, S w → (S w → wpAnyZ P md ops Q S zs fuel (listed.setIfInBounds j true) a w) → K' a w) → if Region.wanted oj (yielded ops a.tmps) = true then Oper.wp P oj a w K' Q else K' (a.put oj.dst undef) w) :
  wpAnyZ P md ops Q S zs (fuel + 1) listed a w := by
 refine ⟨fun h0 => (by rw [hr] at h0; cases h0), fun k hk => ?_⟩
 rw [hr] at hk
 rcases List.mem_cons.1 hk with rfl | hk
 ·exact wpOp_step hoi (fun K' hK => h K' (fun a w hS hW => hK a w ⟨fun _ => hS, hW hS⟩))
 ·obtain rfl : k = j := by simpa using hk
  exact wpOp_step hoj (fun K' hK => h' K' (fun a w hS hW => hK a w ⟨fun _ => hS, hW hS⟩))
/-- .. and one of the last stores. -/
theorem wpAnyZ_last {i : Nat} {o : Oper} {fuel : Nat} {listed : Array Bool} {a : Act} {w : World} (ho : ops[i]? = some o) (hr : Region.ready md ops listed = [i]) (hz : zs.contains i = true)
  (h : ∀ K' : Act → World → Prop, Shut (∀ a w, wpAnyZ P md ops Q S zs fuel (listed.setIfInBounds i true) a w → K' a w) → if Region.wanted o (yielded ops a.tmps) = true then Oper.wp P o a w K' Q else K' (a.put o.dst undef) w) :
  wpAnyZ P md ops Q S zs (fuel + 1) listed a w := by
 refine ⟨fun h0 => (by rw [hr] at h0; cases h0), fun j hj => ?_⟩
 rw [hr] at hj
 obtain rfl : j = i := by simpa using hj
 exact wpOp_step ho (fun K' hK => h K' (fun a w hW => hK a w ⟨fun hn => absurd (by simpa using hz) hn, hW⟩))

theorem wp_region_z {id : Nat} {a : Act} {w : World} (zs : List Nat) (hm : P.follows .mixedOrders = true) (hS : S w.drew)
  (h : S w.drew → wpAnyZ P .any ops Q S zs ops.size (Array.replicate ops.size false) a w.drew) : (Code.region id ops true).wp P Q a w :=
 wp_region_any hm (wpAny_of_z _ _ _ _ (h hS))
end
end
end Go.Proofs.YtmapdpcfanecdabGreat
