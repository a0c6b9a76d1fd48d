/- Walks over package guess: two guesses that are put together. -/
import Derived.Test.YtmapdpcfanecdaaGreatKguyp16
import Derived.Deep.DrawnRows
import Derived.Deep.RegionHeld3
namespace Go.Proofs.YtmapdpcfanecdaaGreat
set_option linter.unusedVariables false
set_option linter.unusedSimpArgs false
open Go.RowKit

/-- What comes beside an errno. -/
abbrev spIf (e : Int) (r : Sp) : Sp := if e = 0 then r else zeroSp

theorem tog_join (s t : Sp) (w : World) :
    Calls Tryz.prog 84 #[sv s, sv t, .func (.func 85) #[] #[]] w fun e w' => e = .returned (.tuple #[sv (spIf (ckSps s t) (joinSp s t)), .int .i64 (ckSps s t)]) ∧ Below w.heap.size w w' := by
  by_cases h : ckSps s t = 0
  · rw [h]; exact together_join s t w h
  · unfold spIf; rw [if_neg h]; exact together_err _ s t w h

set_option maxHeartbeats 1000000 in
theorem joinF_any (s t : Sp) (w : World) :
    Calls Tryz.prog 38 #[sv s, sv t] w fun e w' => e = .returned (.tuple #[sv (spIf (ckSps s t) (joinSp s t)), .int .i64 (ckSps s t)]) ∧ Below w.heap.size w w' := by
  have hT := tog_join s t
  generalize spIf (ckSps s t) (joinSp s t) = r at hT ⊢
  generalize ckSps s t = c at hT ⊢
  obtain ⟨n, lo, hi⟩ := s
  obtain ⟨n', lo', hi'⟩ := t
  obtain ⟨rn, rlo, rhi⟩ := r
  go_enter Tryz.func38, Tryz.ntmps38
  go_wp2_with (go_at_call 84; fail)
  refine (hT _).mono ?_
  rintro e w1 ⟨rfl, hb1⟩
  obtain ⟨-, -, ⟨r0, r1, r2⟩, ⟨f0, f1, f2⟩, z0, z1, z2⟩ := w3_cells (s := ⟨n, lo, hi⟩) (t := ⟨n', lo', hi'⟩) (r := zeroSp) hb1 (by simp)
  have H1 : Below w.heap.size w w1 := (w3_below ⟨n, lo, hi⟩ ⟨n', lo', hi'⟩ zeroSp w).trans (hb1.mono (by simp; omega))
  simp only [zeroSp] at r0 r1 r2
  clear hb1 hT
  go_wp2
  refine bodyPost_ret (v := .tuple #[sv ⟨rn, rlo, rhi⟩, .int .i64 c]) (by simp [results, Tryz.results38, go_sem, r0, r1, r2]) rfl ⟨rfl, ?_⟩
  exact ((H1.setCell (by simp; omega) _).setCell (by simp; omega) _).setCell (by simp; omega) _

theorem tog_meet (s t : Sp) (w : World) :
    Calls Tryz.prog 84 #[sv s, sv t, .func (.func 124) #[] #[]] w fun e w' => e = .returned (.tuple #[sv (spIf (ckSps s t) (meetSp s t)), .int .i64 (ckSps s t)]) ∧ Below w.heap.size w w' := by
  by_cases h : ckSps s t = 0
  · rw [h]; exact together_meet s t w h
  · unfold spIf; rw [if_neg h]; exact together_err _ s t w h

set_option maxHeartbeats 1000000 in
theorem meetF_any (s t : Sp) (w : World) :
    Calls Tryz.prog 90 #[sv s, sv t] w fun e w' => e = .returned (.tuple #[sv (spIf (ckSps s t) (meetSp s t)), .int .i64 (ckSps s t)]) ∧ Below w.heap.size w w' := by
  have hT := tog_meet s t
  generalize spIf (ckSps s t) (meetSp s t) = r at hT ⊢
  generalize ckSps s t = c at hT ⊢
  obtain ⟨n, lo, hi⟩ := s
  obtain ⟨n', lo', hi'⟩ := t
  obtain ⟨rn, rlo, rhi⟩ := r
  go_enter Tryz.func90, Tryz.ntmps90
  go_wp2_with (go_at_call 84; fail)
  refine (hT _).mono ?_
  rintro e w1 ⟨rfl, hb1⟩
  obtain ⟨-, -, ⟨r0, r1, r2⟩, ⟨f0, f1, f2⟩, z0, z1, z2⟩ := w3_cells (s := ⟨n, lo, hi⟩) (t := ⟨n', lo', hi'⟩) (r := zeroSp) hb1 (by simp)
  have H1 : Below w.heap.size w w1 := (w3_below ⟨n, lo, hi⟩ ⟨n', lo', hi'⟩ zeroSp w).trans (hb1.mono (by simp; omega))
  simp only [zeroSp] at r0 r1 r2
  clear hb1 hT
  go_wp2
  refine bodyPost_ret (v := .tuple #[sv ⟨rn, rlo, rhi⟩, .int .i64 c]) (by simp [results, Tryz.results90, go_sem, r0, r1, r2]) rfl ⟨rfl, ?_⟩
  exact ((H1.setCell (by simp; omega) _).setCell (by simp; omega) _).setCell (by simp; omega) _

theorem tog_widen (s t : Sp) (w : World) :
    Calls Tryz.prog 84 #[sv s, sv t, .func (.func 86) #[] #[]] w fun e w' => e = .returned (.tuple #[sv (spIf (ckSps s t) (wideSp s t)), .int .i64 (ckSps s t)]) ∧ Below w.heap.size w w' := by
  by_cases h : ckSps s t = 0
  · rw [h]; exact together_widen s t w h
  · unfold spIf; rw [if_neg h]; exact together_err _ s t w h

set_option maxHeartbeats 1000000 in
theorem widenF_any (s t : Sp) (w : World) :
    Calls Tryz.prog 39 #[sv s, sv t] w fun e w' => e = .returned (.tuple #[sv (spIf (ckSps s t) (wideSp s t)), .int .i64 (ckSps s t)]) ∧ Below w.heap.size w w' := by
  have hT := tog_widen s t
  generalize spIf (ckSps s t) (wideSp s t) = r at hT ⊢
  generalize ckSps s t = c at hT ⊢
  obtain ⟨n, lo, hi⟩ := s
  obtain ⟨n', lo', hi'⟩ := t
  obtain ⟨rn, rlo, rhi⟩ := r
  go_enter Tryz.func39, Tryz.ntmps39
  go_wp2_with (go_at_call 84; fail)
  refine (hT _).mono ?_
  rintro e w1 ⟨rfl, hb1⟩
  obtain ⟨-, -, ⟨r0, r1, r2⟩, ⟨f0, f1, f2⟩, z0, z1, z2⟩ := w3_cells (s := ⟨n, lo, hi⟩) (t := ⟨n', lo', hi'⟩) (r := zeroSp) hb1 (by simp)
  have H1 : Below w.heap.size w w1 := (w3_below ⟨n, lo, hi⟩ ⟨n', lo', hi'⟩ zeroSp w).trans (hb1.mono (by simp; omega))
  simp only [zeroSp] at r0 r1 r2
  clear hb1 hT
  go_wp2
  refine bodyPost_ret (v := .tuple #[sv ⟨rn, rlo, rhi⟩, .int .i64 c]) (by simp [results, Tryz.results39, go_sem, r0, r1, r2]) rfl ⟨rfl, ?_⟩
  exact ((H1.setCell (by simp; omega) _).setCell (by simp; omega) _).setCell (by simp; omega) _

set_option maxHeartbeats 1000000 in
theorem within_err (s t : Sp) (w : World) (h : ckSps s t ≠ 0) :
    Calls Tryz.prog 44 #[sv s, sv t] w fun e w' => e = .returned (.tuple #[.bool false, .int .i64 (ckSps s t)]) ∧ Below w.heap.size w w' := by
  have hT := meetF_any s t
  have h' : (ckSps s t == 0) = false := by simpa using h
  generalize spIf (ckSps s t) (meetSp s t) = r at hT
  generalize ckSps s t = c at hT h h' ⊢
  obtain ⟨n, lo, hi⟩ := s
  obtain ⟨n', lo', hi'⟩ := t
  obtain ⟨rn, rlo, rhi⟩ := r
  have h0 : Below w.heap.size w ((w.alloc (.cells #[.bool n, .int .i64 lo, .int .i64 hi] 26)).alloc (.cells #[.bool n', .int .i64 lo', .int .i64 hi'] 26)) := by go_grown
  go_enter Tryz.func44, Tryz.ntmps44
  go_wp2_with (go_at_call 90; fail)
  refine (hT _).mono ?_
  rintro e w1 ⟨rfl, hb1⟩
  obtain ⟨c0, c1, c2, d0, d1, d2⟩ := sp_cells2 hb1 (by simp)
  have H1 : Below w.heap.size w w1 := h0.trans (hb1.mono (by simp; omega))
  have z0 : w.heap.size < w1.heap.size := by have := hb1.size; simp at this; omega
  clear hb1 hT
  go_wp2
  go_ret2
  exact ⟨rfl, H1.alloc (by omega) _⟩

/-- Are two spans the same, part by part? -/
theorem sp_eq (r : Sp) (s : Sp) : @decide _ (r.dq s) = (r.n == s.n && (r.lo == s.lo && r.hi == s.hi)) := by
  obtain ⟨n, lo, hi⟩ := r
  obtain ⟨n', lo', hi'⟩ := s
  rw [Bool.eq_iff_iff]
  simp

set_option maxHeartbeats 1000000 in
theorem within_ok (s t : Sp) (w : World) (h : ckSps s t = 0) :
    Calls Tryz.prog 44 #[sv s, sv t] w fun e w' => e = .returned (.tuple #[.bool (@decide _ ((meetSp s t).dq s)), .int .i64 0]) ∧ Below w.heap.size w w' := by
  have hT := meetF_any s t
  rw [h] at hT
  have e0 : spIf 0 (meetSp s t) = meetSp s t := rfl
  rw [e0] at hT
  rw [sp_eq]
  clear e0 h
  generalize meetSp s t = r at hT ⊢
  obtain ⟨n, lo, hi⟩ := s
  obtain ⟨n', lo', hi'⟩ := t
  obtain ⟨rn, rlo, rhi⟩ := r
  have h0 : Below w.heap.size w ((w.alloc (.cells #[.bool n, .int .i64 lo, .int .i64 hi] 26)).alloc (.cells #[.bool n', .int .i64 lo', .int .i64 hi'] 26)) := by go_grown
  go_enter Tryz.func44, Tryz.ntmps44
  go_wp2_with (go_at_call 90; fail)
  refine (hT _).mono ?_
  rintro e w1 ⟨rfl, hb1⟩
  obtain ⟨c0, c1, c2, d0, d1, d2⟩ := sp_cells2 hb1 (by simp)
  have H1 : Below w.heap.size w w1 := h0.trans (hb1.mono (by simp; omega))
  have z0 : w.heap.size < w1.heap.size := by have := hb1.size; simp at this; omega
  clear hb1 hT
  go_wp2
  all_goals go_ret2
  all_goals exact ⟨ret_t2b (by simp_all), H1.alloc (by omega) _⟩

theorem within_any (s t : Sp) (w : World) :
    Calls Tryz.prog 44 #[sv s, sv t] w fun e w' => e = .returned (.tuple #[.bool (decide (ckSps s t = 0) && @decide _ ((meetSp s t).dq s)), .int .i64 (ckSps s t)]) ∧ Below w.heap.size w w' := by
  by_cases h : ckSps s t = 0
  · have := within_ok s t w h
    rw [h]
    simpa using this
  · have := within_err s t w h
    simpa [h] using this
end Go.Proofs.YtmapdpcfanecdaaGreat

namespace Go.Proofs.YtmapdpcfanecdaaGreat
set_option linter.unusedVariables false
set_option linter.unusedSimpArgs false
open Go.RowKit

/-- The boxes of together: program, two guesses, the answer. -/
abbrev togW (w : World) (V F : Int) (s : Option Addr) (c : List Ins) (cap : Nat) (g : Gs) (ss : Option Addr) (gc : Nat) (h : Gs) (st : Option Addr) (hc : Nat) : World :=
  (((w.alloc (.cells #[.int .i64 V, .int .i64 F, .slice s c.length cap] 24)).alloc (.cells #[.bool g.n, .bool g.sp.n, .int .i64 g.sp.lo, .int .i64 g.sp.hi, .bool g.t, .bool g.f, .slice ss g.s.length gc] 29)).alloc (.cells #[.bool h.n, .bool h.sp.n, .int .i64 h.sp.lo, .int .i64 h.sp.hi, .bool h.t, .bool h.f, .slice st h.s.length hc] 29)).alloc (.cells #[.bool false, .bool false, .int .i64 0, .int .i64 0, .bool false, .bool false, .slice none 0 0] 29)

/-- Its result's block may be written. -/
def Fr7 (w : World) (b : Nat) : Prop := (∀ j, w.frozen? ⟨b, j, none⟩ = false) ∧ b < w.heap.size
theorem Fr7.call {w w' : World} {b : Nat} (h : Fr7 w b) (hb : Below w.heap.size w w') : Fr7 w' b :=
  ⟨fun j => by rw [hb.frozen (by simpa using h.2)]; exact h.1 j, Nat.lt_of_lt_of_le h.2 hb.size⟩

theorem Fr7.drew {w : World} {b : Nat} (h : Fr7 w b) : Fr7 w.drew b := h.call (Below.refl _ _).drew
theorem Fr7.alloc {w : World} {b : Nat} (h : Fr7 w b) (o : Obj) : Fr7 (w.alloc o) b := h.call (Below.alloc (Below.refl _ _) (Nat.le_refl _) o)

theorem ckAllG_spans {V F : Int} {c : List Ins} {g h : Gs} (hk : ckAllG V F c [g, h] = 0) : ckSps g.sp h.sp = 0 := by
  unfold ckAllG at hk
  split at hk
  · have e : ckGss c [g, h] = if ckGs c g = 0 then (if ckGs c h = 0 then 0 else ckGs c h) else ckGs c g := rfl
    have sp0 : ∀ x, ckGs c x = 0 → ckSp x.sp = 0 := fun x hx => by
      unfold ckGs at hx
      split at hx
      · assumption
      · rename_i hn; exact Decidable.not_not.1 hn
    rw [e] at hk
    by_cases hg : ckGs c g = 0
    · rw [if_pos hg] at hk
      by_cases hh : ckGs c h = 0
      · exact ckSps_ok.2 ⟨ckSp_ok.1 (sp0 g hg), ckSp_ok.1 (sp0 h hh)⟩
      · rw [if_neg hh] at hk; exact absurd hk hh
    · rw [if_neg hg] at hk; exact absurd hk hg
  · rename_i hn; exact absurd hk hn

theorem togW_at (w : World) (V F : Int) (s : Option Addr) (c : List Ins) (cap : Nat) (g : Gs) (ss : Option Addr) (gc : Nat) (h : Gs) (st : Option Addr) (hc : Nat) :
    PrAt (togW w V F s c cap g ss gc h st hc) w.heap.size V F s c cap ∧ GuAt (togW w V F s c cap g ss gc h st hc) (w.heap.size + 1) 0 g ss gc ∧ GuAt (togW w V F s c cap g ss gc h st hc) (w.heap.size + 1 + 1) 0 h st hc ∧ GuAt (togW w V F s c cap g ss gc h st hc) (w.heap.size + 1 + 1 + 1) 0 zeroG none 0 ∧ Fr7 (togW w V F s c cap g ss gc h st hc) (w.heap.size + 1 + 1 + 1) := by
  refine ⟨?_, ?_, ?_, ?_, ?_⟩
  · exact (((PrAt.new w V F s c cap).alloc _).alloc _).alloc _
  · have := GuAt.new (w.alloc (.cells #[.int .i64 V, .int .i64 F, .slice s c.length cap] 24)) g ss gc
    rw [World.size_alloc] at this
    exact (this.alloc _).alloc _
  · have := GuAt.new ((w.alloc (.cells #[.int .i64 V, .int .i64 F, .slice s c.length cap] 24)).alloc (.cells #[.bool g.n, .bool g.sp.n, .int .i64 g.sp.lo, .int .i64 g.sp.hi, .bool g.t, .bool g.f, .slice ss g.s.length gc] 29)) h st hc
    simp only [World.size_alloc] at this
    exact this.alloc _
  · have := GuAt.new (((w.alloc (.cells #[.int .i64 V, .int .i64 F, .slice s c.length cap] 24)).alloc (.cells #[.bool g.n, .bool g.sp.n, .int .i64 g.sp.lo, .int .i64 g.sp.hi, .bool g.t, .bool g.f, .slice ss g.s.length gc] 29)).alloc (.cells #[.bool h.n, .bool h.sp.n, .int .i64 h.sp.lo, .int .i64 h.sp.hi, .bool h.t, .bool h.f, .slice st h.s.length hc] 29)) zeroG none 0
    simp only [World.size_alloc] at this
    exact this
  · refine ⟨fun j => ?_, by simp⟩
    simp [go_sem]

theorem togW_below (w : World) (V F : Int) (s : Option Addr) (c : List Ins) (cap : Nat) (g : Gs) (ss : Option Addr) (gc : Nat) (h : Gs) (st : Option Addr) (hc : Nat) : Below w.heap.size w (togW w V F s c cap g ss gc h st hc) := by go_grown

/-- What the region reads. -/
def regS (w : World) (jb : Nat) (g : Gs) (ss : Option Addr) (gc : Nat) (h : Gs) (st : Option Addr) (hc : Nat) (J : Sp) (w' : World) : Prop :=
  (w'.cell? ⟨w.heap.size + 1, 0, none⟩ = some (.bool g.n) ∧ w'.cell? ⟨w.heap.size + 1, 1, none⟩ = some (.bool g.sp.n) ∧ w'.cell? ⟨w.heap.size + 1, 2, none⟩ = some (.int .i64 g.sp.lo) ∧ w'.cell? ⟨w.heap.size + 1, 3, none⟩ = some (.int .i64 g.sp.hi) ∧ w'.cell? ⟨w.heap.size + 1, 4, none⟩ = some (.bool g.t) ∧ w'.cell? ⟨w.heap.size + 1, 5, none⟩ = some (.bool g.f) ∧ w'.cell? ⟨w.heap.size + 1, 6, none⟩ = some (.slice ss g.s.length gc)) ∧
  (w'.cell? ⟨w.heap.size + 1 + 1, 0, none⟩ = some (.bool h.n) ∧ w'.cell? ⟨w.heap.size + 1 + 1, 1, none⟩ = some (.bool h.sp.n) ∧ w'.cell? ⟨w.heap.size + 1 + 1, 2, none⟩ = some (.int .i64 h.sp.lo) ∧ w'.cell? ⟨w.heap.size + 1 + 1, 3, none⟩ = some (.int .i64 h.sp.hi) ∧ w'.cell? ⟨w.heap.size + 1 + 1, 4, none⟩ = some (.bool h.t) ∧ w'.cell? ⟨w.heap.size + 1 + 1, 5, none⟩ = some (.bool h.f) ∧ w'.cell? ⟨w.heap.size + 1 + 1, 6, none⟩ = some (.slice st h.s.length hc)) ∧
  (w'.cell? ⟨jb, 0, none⟩ = some (.bool J.n) ∧ w'.cell? ⟨jb, 1, none⟩ = some (.int .i64 J.lo) ∧ w'.cell? ⟨jb, 2, none⟩ = some (.int .i64 J.hi))


/-- A guess is stored. -/
abbrev put7 (w : World) (b : Nat) (v0 v1 v2 v3 v4 v5 v6 : Value) : World := ((((((w.setCell ⟨b, 0, none⟩ v0).setCell ⟨b, 1, none⟩ v1).setCell ⟨b, 2, none⟩ v2).setCell ⟨b, 3, none⟩ v3).setCell ⟨b, 4, none⟩ v4).setCell ⟨b, 5, none⟩ v5).setCell ⟨b, 6, none⟩ v6
theorem heap_put7 (w : World) (b k : Nat) (v0 v1 v2 v3 v4 v5 v6 : Value) (h : k ≠ b) : (put7 w b v0 v1 v2 v3 v4 v5 v6).heap[k]? = w.heap[k]? := by
  unfold put7
  rw [Below.heap_setCell _ _ _ _ h, Below.heap_setCell _ _ _ _ h, Below.heap_setCell _ _ _ _ h, Below.heap_setCell _ _ _ _ h, Below.heap_setCell _ _ _ _ h, Below.heap_setCell _ _ _ _ h, Below.heap_setCell _ _ _ _ h]
theorem size_put7 (w : World) (b : Nat) (v0 v1 v2 v3 v4 v5 v6 : Value) : (put7 w b v0 v1 v2 v3 v4 v5 v6).heap.size = w.heap.size := by simp [put7]
theorem cell_put7 (w : World) (b k j : Nat) (v0 v1 v2 v3 v4 v5 v6 : Value) (h : k ≠ b) : (put7 w b v0 v1 v2 v3 v4 v5 v6).cell? ⟨k, j, none⟩ = w.cell? ⟨k, j, none⟩ := World.cell?_of_block (a := ⟨k, j, none⟩) (heap_put7 w b k v0 v1 v2 v3 v4 v5 v6 h)
theorem GuAt.put7 {w : World} {b k o : Nat} {g : Gs} {ss : Option Addr} {cap : Nat} {v0 v1 v2 v3 v4 v5 v6 : Value} (hg : GuAt w k o g ss cap) (h : k ≠ b) : GuAt (put7 w b v0 v1 v2 v3 v4 v5 v6) k o g ss cap := by
  obtain ⟨⟨h0, h1, h2, h3, h4, h5, h6⟩, hz⟩ := hg
  refine ⟨⟨?_, ?_, ?_, ?_, ?_, ?_, ?_⟩, by rw [size_put7]; exact hz⟩ <;> rw [cell_put7 _ _ _ _ _ _ _ _ _ _ _ h] <;> assumption
theorem SpAt.put7 {w : World} {b k : Nat} {s : Sp} {v0 v1 v2 v3 v4 v5 v6 : Value} (hg : SpAt w k s) (h : k ≠ b) : SpAt (put7 w b v0 v1 v2 v3 v4 v5 v6) k s := by
  obtain ⟨⟨h0, h1, h2⟩, hz⟩ := hg
  refine ⟨⟨?_, ?_, ?_⟩, by rw [size_put7]; exact hz⟩ <;> rw [cell_put7 _ _ _ _ _ _ _ _ _ _ _ h] <;> assumption
theorem below_put7 {B b : Nat} {a w : World} {v0 v1 v2 v3 v4 v5 v6 : Value} (h : Below B a w) (hg : B ≤ b) : Below B a (put7 w b v0 v1 v2 v3 v4 v5 v6) := ((((((h.setCell (by simpa using hg) _).setCell (by simpa using hg) _).setCell (by simpa using hg) _).setCell (by simpa using hg) _).setCell (by simpa using hg) _).setCell (by simpa using hg) _).setCell (by simpa using hg) _
theorem ownsRow_base {w : World} {B B' n z : Nat} {e : TypeId} {v : Value} {xs : List Value} (h : w.ownsRow B e z v n xs) (hB : B' ≤ B) : w.ownsRow B' e z v n xs :=
  ⟨h.1, h.2.imp id fun ⟨g, cap, cur, r1, r2, r3⟩ => ⟨g, cap, cur, r1, by omega, r3⟩⟩
theorem ownsRow_put7 {w : World} {B n b z : Nat} {e : TypeId} {v : Value} {xs : List Value} {v0 v1 v2 v3 v4 v5 v6 : Value} (h : w.ownsRow B e z v n xs) (hb : b < B) : (put7 w b v0 v1 v2 v3 v4 v5 v6).ownsRow B e z v n xs :=
  ⟨h.1, h.2.imp id fun ⟨g, cap, cur, r1, r2, r3, r4⟩ => ⟨g, cap, cur, r1, r2, by rw [heap_put7 _ _ _ _ _ _ _ _ _ _ (by omega)]; exact r3, r4⟩⟩
theorem GsAt.drew {w : World} {ls : Option Addr} {L : List Gs} (h : GsAt w ls L) : GsAt w.drew ls L := h.call ((Below.refl _ _).drew)

set_option maxHeartbeats 2000000 in
set_option maxRecDepth 10000 in
theorem togetherG_err (fn : Nat) (V F : Int) (s : Option Addr) (c : List Ins) (cap : Nat) (g : Gs) (ss : Option Addr) (gc : Nat) (h : Gs) (st : Option Addr) (hc : Nat) (w : World)
    (hcd : CodeAt w s c) (hs : IntsAt w ss g.s) (h1 : g.s.length ≤ gc) (h2 : gc ≤ maxLen) (ht : IntsAt w st h.s) (h3 : h.s.length ≤ hc) (h4 : hc ≤ maxLen) (hck : ckAllG V F c [g, h] ≠ 0) :
    Calls Tryz.prog 37 #[pv V F s c cap, gv g ss gc, gv h st hc, .func (.func fn) #[] #[]] w fun e w' => e = .returned (.tuple #[gv zeroG none 0, .int .i64 (ckAllG V F c [g, h])]) ∧ Below w.heap.size w w' := by
  obtain ⟨P0, G0, H0, R0, F0⟩ := togW_at w V F s c cap g ss gc h st hc
  have B0 := togW_below w V F s c cap g ss gc h st hc
  have C0 : CodeAt (togW w V F s c cap g ss gc h st hc) s c := hcd.below B0 (Nat.le_refl _)
  have I0 : IntsAt (togW w V F s c cap g ss gc h st hc) ss g.s := hs.below B0 (Nat.le_refl _)
  have J0 : IntsAt (togW w V F s c cap g ss gc h st hc) st h.s := ht.below B0 (Nat.le_refl _)
  have L0 := GsAt.new2 (togW w V F s c cap g ss gc h st hc) g ss gc h st hc I0 h1 h2 J0 h3 h4
  simp only [World.size_alloc] at L0
  have hne : (ckAllG V F c [g, h] != 0) = true := by simpa using hck
  have HC := hideH (checkAllG_any V F s c cap (some ⟨w.heap.size + 1 + 1 + 1 + 1, 0, none⟩) [g, h] 2 _ (C0.alloc _) L0 (by simp))
  generalize ckAllG V F c [g, h] = ce at *
  clear hck
  go_enter Tryz.func37, Tryz.ntmps37
  go_wp2_with (go_at_call 40; fail)
  refine HC.out.mono ?_
  rintro e w1 ⟨rfl, hb1⟩
  have R1 := (R0.alloc _).call hb1
  have F1 : Fr7 w1 (w.heap.size + 1 + 1 + 1) := (F0.alloc _).call hb1
  have B1 : Below w.heap.size w w1 := (B0.alloc B0.size _).trans (hb1.mono (by simp; omega))
  clear hb1 G0 H0 R0 I0 J0 F0 B0 C0 P0 L0 hcd hs ht HC
  obtain ⟨⟨r0, r1, r2, r3, r4, r5, r6⟩, rz⟩ := id R1
  simp only [Nat.zero_add, zeroG] at r0 r1 r2 r3 r4 r5 r6
  have fz := F1.1
  go_wp2
  refine bodyPost_ret (v := .tuple #[gv zeroG none 0, .int .i64 ce]) (by simp [results, Tryz.results37, go_sem, r0, r1, r2, r3, r4, r5, r6, zeroG]) rfl ⟨rfl, ?_⟩
  exact below_put7 B1 (by omega)
end Go.Proofs.YtmapdpcfanecdaaGreat
