/- Walks over package span: what is widened, what is put together. -/
import Derived.Test.YtmapdpcfanecdaaGreatKpicxp05
import Derived.Test.YtmapdpcfanecdaaGreatKpicxp16
import Derived.Test.YtmapdpcfanecdaaGreatKpicxp07
import Derived.Deep.DeepCutAuto
import Derived.Test.YtmapdpcfanecdaaGreatKpicxp01
import Derived.Deep.QuietTactic
import Derived.BigQuiet
import Derived.Test.YtmapdpcfanecdaaGreatKpicxp02
namespace Go.Proofs.YtmapdpcfanecdaaGreat
set_option linter.unusedVariables false
set_option linter.unusedSimpArgs false
open Go.RowKit
attribute [local go_sem ↓] Go.wp_at_zero Go.wp_at_succ

set_option maxHeartbeats 2000000 in
set_option maxRecDepth 10000 in
theorem checkPicture_none (V F : Int) (s : Option Addr) (c : List Ins) (cap : Nat) (vars : List Gs) (flds : List (List Gs)) (vs : Option Addr) (vc : Nat) (fs : Option Addr) (fc : Nat) (w : World) :
    Calls Tryz.prog 75 #[pv V F s c cap, xv ⟨true, vars, flds⟩ vs vc fs fc] w fun e w' => e = .returned (.int .i64 (ckPic V F c ⟨true, vars, flds⟩)) ∧ Below w.heap.size w w' := by
  have e1 : ckPic V F c ⟨true, vars, flds⟩ = if vars.length = 0 ∧ flds.length = 0 then 0 else 1 := by
    unfold ckPic formedPic
    simp only [if_true]
    by_cases h1 : vars.length = 0
    · by_cases h2 : flds.length = 0
      · have e1 : vars = [] := List.eq_nil_of_length_eq_zero h1
        have e2 : flds = [] := List.eq_nil_of_length_eq_zero h2
        subst e1 e2
        rfl
      · simp [h1, h2]
    · simp [h1]
  rw [e1]
  clear e1
  cases vars with
  | nil =>
    cases flds with
    | nil =>
      rw [if_pos ⟨rfl, rfl⟩]
      go_enter Tryz.func75, Tryz.ntmps75
      go_wp2
      go_ret
      exact ⟨rfl, by go_grown⟩
    | cons r flds =>
      rw [if_neg (fun h => by cases h.2)]
      go_enter Tryz.func75, Tryz.ntmps75
      go_wp2
      go_ret
      exact ⟨rfl, by go_grown⟩
  | cons g vars =>
    rw [if_neg (fun h => by cases h.1)]
    go_enter Tryz.func75, Tryz.ntmps75
    go_wp2
    go_ret
    exact ⟨rfl, by go_grown⟩

set_option maxHeartbeats 2000000 in
set_option maxRecDepth 10000 in
theorem checkPicture_vars (V F : Int) (s : Option Addr) (c : List Ins) (cap : Nat) (vars : List Gs) (flds : List (List Gs)) (vs : Option Addr) (vc : Nat) (fs : Option Addr) (fc : Nat) (w : World) (h : ¬ (vars.length : Int) = V) :
    Calls Tryz.prog 75 #[pv V F s c cap, xv ⟨false, vars, flds⟩ vs vc fs fc] w fun e w' => e = .returned (.int .i64 1) ∧ Below w.heap.size w w' := by
  have hb0 : Below w.heap.size w ((w.alloc (.cells #[.int .i64 V, .int .i64 F, .slice s c.length cap] 24)).alloc (.cells #[.bool false, .slice vs vars.length vc, .slice fs flds.length fc] 58)) := by go_grown
  have P0 := (PrAt.new w V F s c cap).call (w' := ((w.alloc (.cells #[.int .i64 V, .int .i64 F, .slice s c.length cap] 24)).alloc (.cells #[.bool false, .slice vs vars.length vc, .slice fs flds.length fc] 58))) (by go_grown)
  have X0 := XAt.new (w.alloc (.cells #[.int .i64 V, .int .i64 F, .slice s c.length cap] 24)) ⟨false, vars, flds⟩ vs vc fs fc
  rw [World.size_alloc] at X0
  simp only at X0
  have n1 : ((vars.length : Int) == V) = false := by simpa using h
  clear h
  go_enter Tryz.func75, Tryz.ntmps75
  go_wp2
  go_ret
  exact ⟨rfl, by go_grown⟩

set_option maxHeartbeats 2000000 in
set_option maxRecDepth 10000 in
theorem checkPicture_flds (V F : Int) (s : Option Addr) (c : List Ins) (cap : Nat) (vars : List Gs) (flds : List (List Gs)) (vs : Option Addr) (vc : Nat) (fs : Option Addr) (fc : Nat) (w : World) (h0 : (vars.length : Int) = V) (h : ¬ flds.length = c.length) :
    Calls Tryz.prog 75 #[pv V F s c cap, xv ⟨false, vars, flds⟩ vs vc fs fc] w fun e w' => e = .returned (.int .i64 1) ∧ Below w.heap.size w w' := by
  subst h0
  have hb0 : Below w.heap.size w ((w.alloc (.cells #[.int .i64 (vars.length : Int), .int .i64 F, .slice s c.length cap] 24)).alloc (.cells #[.bool false, .slice vs vars.length vc, .slice fs flds.length fc] 58)) := by go_grown
  have P0 := (PrAt.new w (vars.length : Int) F s c cap).call (w' := ((w.alloc (.cells #[.int .i64 (vars.length : Int), .int .i64 F, .slice s c.length cap] 24)).alloc (.cells #[.bool false, .slice vs vars.length vc, .slice fs flds.length fc] 58))) (by go_grown)
  have X0 := XAt.new (w.alloc (.cells #[.int .i64 (vars.length : Int), .int .i64 F, .slice s c.length cap] 24)) ⟨false, vars, flds⟩ vs vc fs fc
  rw [World.size_alloc] at X0
  simp only at X0
  have n1 : ((flds.length : Int) == (c.length : Int)) = false := by simp; omega
  clear h
  go_enter Tryz.func75, Tryz.ntmps75
  go_wp2
  go_ret
  exact ⟨rfl, by go_grown⟩

set_option maxHeartbeats 4000000 in
set_option maxRecDepth 10000 in
theorem checkPicture_row (F : Int) (s : Option Addr) (c : List Ins) (cap : Nat) (vars : List Gs) (flds : List (List Gs)) (vs : Option Addr) (vc : Nat) (fs : Option Addr) (fc : Nat) (w : World) (hP : PicAt w ⟨false, vars, flds⟩ vs fs) (h60 : c.length ≤ 60) (hfc : flds.length = c.length) (hb : ∃ r ∈ flds, ¬ (r.length : Int) = F) :
    Calls Tryz.prog 75 #[pv (vars.length : Int) F s c cap, xv ⟨false, vars, flds⟩ vs vc fs fc] w fun e w' => e = .returned (.int .i64 1) ∧ Below w.heap.size w w' := by
  have hb0 : Below w.heap.size w ((w.alloc (.cells #[.int .i64 (vars.length : Int), .int .i64 F, .slice s c.length cap] 24)).alloc (.cells #[.bool false, .slice vs vars.length vc, .slice fs flds.length fc] 58)) := by go_grown
  have P0 := (PrAt.new w (vars.length : Int) F s c cap).call (w' := ((w.alloc (.cells #[.int .i64 (vars.length : Int), .int .i64 F, .slice s c.length cap] 24)).alloc (.cells #[.bool false, .slice vs vars.length vc, .slice fs flds.length fc] 58))) (by go_grown)
  have X0 := XAt.new (w.alloc (.cells #[.int .i64 (vars.length : Int), .int .i64 F, .slice s c.length cap] 24)) ⟨false, vars, flds⟩ vs vc fs fc
  rw [World.size_alloc] at X0
  simp only at X0
  have hfl : ((flds.length : Int) != (c.length : Int)) = false := by simp; omega
  have hl60 : flds.length ≤ 60 := by omega
  have RW0 := hP.2.below hb0 (Nat.le_refl _)
  have HB := hideH hb
  clear hP hfc hb
  simp only at RW0
  go_enter Tryz.func75, Tryz.ntmps75
  go_upto_region 7 with fail
  generalize ((w.alloc (.cells #[.int .i64 (vars.length : Int), .int .i64 F, .slice s c.length cap] 24)).alloc (.cells #[.bool false, .slice vs vars.length vc, .slice fs flds.length fc] 58)) = w1 at *
  have P1 := P0
  have X1 := X0
  have RW := RW0
  clear P0 X0 RW0 hfl
  go_wp2
  go_loopw [5] (fun i wr => ∃ k : Nat, k ≤ flds.length ∧ i = .int .i64 k ∧ Below w1.heap.size w1 wr ∧ Hid (∀ j (h : j < flds.length), j < k → (flds[j].length : Int) = F)) (fun i _ => flds.length - (intOf i).toNat)
  case atStart => exact ⟨0, Nat.zero_le _, rfl, Below.refl _ _, fun j _ h => absurd h (by omega)⟩
  case round =>
    obtain ⟨k, hk, rfl, hbr, HJ⟩ := hrel
    obtain ⟨⟨p0, p1', p2⟩, pz⟩ := id (P1.call hbr)
    obtain ⟨⟨x0, x1, x2⟩, xz, -⟩ := id (X1.call hbr)
    by_cases hlt : k < flds.length
    · have n0 : (0 : Int) ≤ (k : Int) := by omega
      have n1 : (k : Int) < (flds.length : Int) := by omega
      obtain ⟨p1, q1, rfl, zp1, r1, rc1, C1, k1, m1, -⟩ := RW.below hbr (Nat.le_refl _) k hlt
      have HKZ : Hid (∀ wx, Below wr.heap.size wr wx → wx.cell? ⟨w.heap.size, 1, none⟩ = some (.int .i64 F) ∧ wx.cell? ⟨w.heap.size + 1, 2, none⟩ = some (.slice (some ⟨p1, q1, none⟩) flds.length fc) ∧ wx.cell? ⟨p1, q1 + k, none⟩ = some (.slice r1 flds[k].length rc1)) := fun wx hx => ⟨by rw [hx.cell (by simp only; exact pz)]; exact p1', by rw [hx.cell (by simp only; exact xz)]; exact x2, by rw [hx.cell (by simp only; exact zp1)]; exact C1⟩
      have HD : Below wr.heap.size wr wr.drew := (Below.refl _ _).drew
      go_wp2
      refine wp_region_z (S := (fun wx => wx.cell? ⟨w.heap.size, 1, none⟩ = some (.int .i64 F) ∧ wx.cell? ⟨w.heap.size + 1, 2, none⟩ = some (.slice (some ⟨p1, q1, none⟩) flds.length fc) ∧ wx.cell? ⟨p1, q1 + k, none⟩ = some (.slice r1 flds[k].length rc1))) [] (by kernel_rfl) (HKZ.out _ HD) (fun hHeld => ?_)
      refine tkZ 0 ?_ ?_ ?_
      rotate_left
      · exact rn
      (try simp only [Act.put, List.getElem_toArray, List.getElem_cons_zero, List.getElem_cons_succ, List.setIfInBounds_toArray, List.set_cons_zero, List.set_cons_succ])
      refine tkZ 1 ?_ ?_ ?_
      rotate_left
      · exact rn
      (try simp only [Act.put, List.getElem_toArray, List.getElem_cons_zero, List.getElem_cons_succ, List.setIfInBounds_toArray, List.set_cons_zero, List.set_cons_succ])
      refine tkZ 2 ?_ ?_ ?_
      rotate_left
      · exact rn
      (try simp only [Act.put, List.getElem_toArray, List.getElem_cons_zero, List.getElem_cons_succ, List.setIfInBounds_toArray, List.set_cons_zero, List.set_cons_succ])
      refine tkZ 3 ?_ ?_ ?_
      rotate_left
      · exact rn
      (try simp only [Act.put, List.getElem_toArray, List.getElem_cons_zero, List.getElem_cons_succ, List.setIfInBounds_toArray, List.set_cons_zero, List.set_cons_succ])
      refine tkZ 4 ?_ ?_ ?_
      rotate_left
      · exact rn
      (try simp only [Act.put, List.getElem_toArray, List.getElem_cons_zero, List.getElem_cons_succ, List.setIfInBounds_toArray, List.set_cons_zero, List.set_cons_succ])
      refine tkZ 5 ?_ ?_ ?_
      rotate_left
      · exact rn
      (try simp only [Act.put, List.getElem_toArray, List.getElem_cons_zero, List.getElem_cons_succ, List.setIfInBounds_toArray, List.set_cons_zero, List.set_cons_succ])
      refine tkZ 6 ?_ ?_ ?_
      rotate_left
      · exact rn
      (try simp only [Act.put, List.getElem_toArray, List.getElem_cons_zero, List.getElem_cons_succ, List.setIfInBounds_toArray, List.set_cons_zero, List.set_cons_succ])
      refine tkZ 7 ?_ ?_ ?_
      rotate_left
      · exact rn
      (try simp only [Act.put, List.getElem_toArray, List.getElem_cons_zero, List.getElem_cons_succ, List.setIfInBounds_toArray, List.set_cons_zero, List.set_cons_succ])
      refine tkZ 8 ?_ ?_ ?_
      rotate_left
      · exact rn
      (try simp only [Act.put, List.getElem_toArray, List.getElem_cons_zero, List.getElem_cons_succ, List.setIfInBounds_toArray, List.set_cons_zero, List.set_cons_succ])
      refine wpAnyZ_done (by kernel_rfl) ?_ _
      by_cases hF : (flds[k].length : Int) = F
      · have e1 : ((flds[k].length : Int) != F) = false := by simpa using hF
        go_wp2
        go_roundw
        case rel => exact ⟨k + 1, by omega, by go_num, hbr.trans (HD.mono hbr.size), fun j hj hjk => by
          by_cases e : j = k
          · subst e; exact hF
          · exact HJ.out j hj (by omega)⟩
        case measure => simp [intOf]; omega
      · have e1 : ((flds[k].length : Int) != F) = true := by simpa using hF
        go_wp2
        go_ret
        exact ⟨rfl, hb0.trans ((hbr.trans (HD.mono hbr.size)).mono hb0.size)⟩
    · have n1 : ¬ (k : Int) < (flds.length : Int) := by omega
      exfalso
      obtain ⟨r, hr, hne⟩ := HB.out
      obtain ⟨j, hj, rfl⟩ := List.getElem_of_mem hr
      exact hne (HJ.out j hj (by omega))
end Go.Proofs.YtmapdpcfanecdaaGreat

namespace Go.Proofs.YtmapdpcfanecdaaGreat
set_option linter.unusedVariables false
set_option linter.unusedSimpArgs false
open Go.RowKit

set_option maxHeartbeats 1000000 in
theorem sameInts_loop (b1 o1 c1 b2 o2 c2 : Nat) (l : List Int) (w : World) (h63 : l.length ≤ maxLen) (b1lt : b1 < w.heap.size) (b2lt : b2 < w.heap.size)
    (h1 : ∀ k (h : k < l.length), w.cell? ⟨b1, o1 + k, none⟩ = some (.int .i64 l[k])) (h2 : ∀ k (h : k < l.length), w.cell? ⟨b2, o2 + k, none⟩ = some (.int .i64 l[k])) :
    Calls Tryz.prog 95 #[.slice (some ⟨b1, o1, none⟩) l.length c1, .slice (some ⟨b2, o2, none⟩) l.length c2] w fun e w' => e = .returned (.bool true) ∧ Below w.heap.size w w' := by
  unfold maxLen at h63
  go_enter Tryz.func95, Tryz.ntmps95
  go_wp2
  go_loopw [5] (fun i wr => ∃ k : Nat, k ≤ l.length ∧ i = .int .i64 k ∧ Below w.heap.size w wr) (fun i _ => l.length - (intOf i).toNat)
  case atStart => exact ⟨0, Nat.zero_le _, rfl, Below.refl _ _⟩
  case round =>
    obtain ⟨k, hk, rfl, hb⟩ := hrel
    by_cases hlt : k < l.length
    · have n0 : (0 : Int) ≤ (k : Int) := by omega
      have n1 : (k : Int) < (l.length : Int) := by omega
      have q0 : wr.cell? ⟨b1, o1 + k, none⟩ = some (.int .i64 l[k]) := by rw [hb.cell (p := ⟨b1, _, none⟩) b1lt]; exact h1 k hlt
      have r0 : wr.cell? ⟨b2, o2 + k, none⟩ = some (.int .i64 l[k]) := by rw [hb.cell (p := ⟨b2, _, none⟩) b2lt]; exact h2 k hlt
      clear h1 h2
      go_wp2
      go_quiet (fail)
      go_wp2
      go_roundw
      case rel => exact ⟨k + 1, by omega, by go_num, below_drewN hb _⟩
      case measure => simp [intOf]; omega
    · go_wp2
      go_ret
      exact ⟨rfl, hb⟩

set_option maxHeartbeats 1000000 in
theorem sameInts_nil (s1 s2 : Option Addr) (c1 c2 : Nat) (w : World) :
    Calls Tryz.prog 95 #[.slice s1 0 c1, .slice s2 0 c2] w fun e w' => e = .returned (.bool true) ∧ Below w.heap.size w w' := by
  go_enter Tryz.func95, Tryz.ntmps95
  go_wp2
  go_rounds 1
  go_ret
  exact ⟨rfl, Below.refl _ _⟩

theorem sameInts_any (s1 s2 : Option Addr) (c1 c2 : Nat) (l : List Int) (w : World) (h63 : l.length ≤ maxLen) (h1 : IntsAt w s1 l) (h2 : IntsAt w s2 l) :
    Calls Tryz.prog 95 #[.slice s1 l.length c1, .slice s2 l.length c2] w fun e w' => e = .returned (.bool true) ∧ Below w.heap.size w w' := by
  rcases h1 with rfl | ⟨b1, o1, rfl, hb1, h1⟩
  · exact sameInts_nil s1 s2 c1 c2 w
  · rcases h2 with rfl | ⟨b2, o2, rfl, hb2, h2⟩
    · exact sameInts_nil _ s2 c1 c2 w
    · exact sameInts_loop b1 o1 c1 b2 o2 c2 l w h63 hb1 hb2 h1 h2

end Go.Proofs.YtmapdpcfanecdaaGreat

namespace Go.Proofs.YtmapdpcfanecdaaGreat
set_option linter.unusedVariables false
set_option linter.unusedSimpArgs false
open Go.RowKit

/-- Two spans that came in, and one that goes out, in memory. -/
abbrev w3 (s t r : Sp) (w : World) : World := ((w.alloc (.cells #[.bool s.n, .int .i64 s.lo, .int .i64 s.hi] 26)).alloc (.cells #[.bool t.n, .int .i64 t.lo, .int .i64 t.hi] 26)).alloc (.cells #[.bool r.n, .int .i64 r.lo, .int .i64 r.hi] 26)

theorem w3_cells {B : Nat} {s t r : Sp} {w w1 : World} (hb : Below B (w3 s t r w) w1) (hB : w.heap.size + 2 < B) : (w1.cell? ⟨w.heap.size, 0, none⟩ = some (.bool s.n) ∧ w1.cell? ⟨w.heap.size, 1, none⟩ = some (.int .i64 s.lo) ∧ w1.cell? ⟨w.heap.size, 2, none⟩ = some (.int .i64 s.hi)) ∧ (w1.cell? ⟨w.heap.size + 1, 0, none⟩ = some (.bool t.n) ∧ w1.cell? ⟨w.heap.size + 1, 1, none⟩ = some (.int .i64 t.lo) ∧ w1.cell? ⟨w.heap.size + 1, 2, none⟩ = some (.int .i64 t.hi)) ∧ (w1.cell? ⟨w.heap.size + 1 + 1, 0, none⟩ = some (.bool r.n) ∧ w1.cell? ⟨w.heap.size + 1 + 1, 1, none⟩ = some (.int .i64 r.lo) ∧ w1.cell? ⟨w.heap.size + 1 + 1, 2, none⟩ = some (.int .i64 r.hi)) ∧ (w1.frozen? ⟨w.heap.size + 1 + 1, 0, none⟩ = false ∧ w1.frozen? ⟨w.heap.size + 1 + 1, 1, none⟩ = false ∧ w1.frozen? ⟨w.heap.size + 1 + 1, 2, none⟩ = false) ∧ (w.heap.size < w1.heap.size ∧ w.heap.size + 1 < w1.heap.size ∧ w.heap.size + 1 + 1 < w1.heap.size) := by
  have hs := hb.size
  rw [hb.cell (by simp; omega), hb.cell (by simp; omega), hb.cell (by simp; omega), hb.cell (by simp; omega), hb.cell (by simp; omega), hb.cell (by simp; omega), hb.cell (by simp; omega), hb.cell (by simp; omega), hb.cell (by simp; omega), hb.frozen (by simp; omega), hb.frozen (by simp; omega), hb.frozen (by simp; omega)]
  simp [go_sem] at hs ⊢
  omega

theorem w3_below (s t r : Sp) (w : World) : Below w.heap.size w (w3 s t r w) := by go_grown

theorem join_ff {lo hi lo' hi' a b : Int} (ha : a = min lo lo') (hb : b = max hi hi') : joinSp ⟨false, lo, hi⟩ ⟨false, lo', hi'⟩ = ⟨false, a, b⟩ := by
  subst ha hb
  rfl

set_option maxHeartbeats 1000000 in
theorem widen_any (s t : Sp) (w : World) :
    Calls Tryz.prog 86 #[sv s, sv t] w fun e w' => e = .returned (sv (wideSp s t)) ∧ Below w.heap.size w w' := by
  obtain ⟨n, lo, hi⟩ := s
  obtain ⟨n', lo', hi'⟩ := t
  go_enter Tryz.func86, Tryz.ntmps86
  go_wp2_with (go_at_call 85; fail)
  refine (join_any ⟨n, lo, hi⟩ ⟨n', lo', hi'⟩ _).mono ?_
  rintro e w1 ⟨rfl, hb1⟩
  obtain ⟨⟨c0, c1, c2⟩, ⟨d0, d1, d2⟩, ⟨r0, r1, r2⟩, ⟨f0, f1, f2⟩, z0, z1, z2⟩ := w3_cells (s := ⟨n, lo, hi⟩) (t := ⟨n', lo', hi'⟩) (r := zeroSp) hb1 (by simp)
  have H1 : Below w.heap.size w w1 := (w3_below ⟨n, lo, hi⟩ ⟨n', lo', hi'⟩ zeroSp w).trans (hb1.mono (by simp; omega))
  clear hb1
  simp only [zeroSp] at r0 r1 r2
  cases n with
  | true =>
    have e0 : joinSp ⟨true, lo, hi⟩ ⟨n', lo', hi'⟩ = ⟨n', lo', hi'⟩ := rfl
    rw [e0]
    go_wp2
    refine bodyPost_ret (v := sv ⟨n', lo', hi'⟩) (by simp [results, Tryz.results86, go_sem, r0, r1, r2, z2]) rfl ⟨rfl, ?_⟩
    exact (((H1.setCell (by simp; omega) _).setCell (by simp; omega) _).setCell (by simp; omega) _).alloc (by simp; omega) _
  | false =>
    cases n' with
    | true =>
      have e0 : joinSp ⟨false, lo, hi⟩ ⟨true, lo', hi'⟩ = ⟨false, lo, hi⟩ := rfl
      rw [e0]
      go_wp2
      refine bodyPost_ret (v := sv ⟨false, lo, hi⟩) (by simp [results, Tryz.results86, go_sem, r0, r1, r2, z2]) rfl ⟨rfl, ?_⟩
      exact (((H1.setCell (by simp; omega) _).setCell (by simp; omega) _).setCell (by simp; omega) _).alloc (by simp; omega) _
    | false =>
    rcases Int.lt_or_le lo' lo with h1 | h1 <;> rcases Int.lt_or_le hi hi' with h2 | h2
    · have e0 : joinSp ⟨false, lo, hi⟩ ⟨false, lo', hi'⟩ = ⟨false, lo', hi'⟩ := join_ff (by omega) (by omega)
      rw [e0]
      go_wp2
      refine bodyPost_ret (v := sv ⟨false, -2147483648, 2147483647⟩) (by simp [results, Tryz.results86, go_sem, r0, r1, r2, z2]) rfl ⟨?_, ?_⟩
      · exact ret_sp (by simp [wideSp] <;> omega)
      · exact (((H1.setCell (by simp; omega) _).setCell (by simp; omega) _).setCell (by simp; omega) _).alloc (by simp; omega) _
    · have e0 : joinSp ⟨false, lo, hi⟩ ⟨false, lo', hi'⟩ = ⟨false, lo', hi⟩ := join_ff (by omega) (by omega)
      rw [e0]
      go_wp2
      refine bodyPost_ret (v := sv ⟨false, -2147483648, hi⟩) (by simp [results, Tryz.results86, go_sem, r0, r1, r2, z2]) rfl ⟨?_, ?_⟩
      · exact ret_sp (by simp [wideSp] <;> omega)
      · exact (((H1.setCell (by simp; omega) _).setCell (by simp; omega) _).setCell (by simp; omega) _).alloc (by simp; omega) _
    · have e0 : joinSp ⟨false, lo, hi⟩ ⟨false, lo', hi'⟩ = ⟨false, lo, hi'⟩ := join_ff (by omega) (by omega)
      rw [e0]
      go_wp2
      refine bodyPost_ret (v := sv ⟨false, lo, 2147483647⟩) (by simp [results, Tryz.results86, go_sem, r0, r1, r2, z2]) rfl ⟨?_, ?_⟩
      · exact ret_sp (by simp [wideSp] <;> omega)
      · exact (((H1.setCell (by simp; omega) _).setCell (by simp; omega) _).setCell (by simp; omega) _).alloc (by simp; omega) _
    · have e0 : joinSp ⟨false, lo, hi⟩ ⟨false, lo', hi'⟩ = ⟨false, lo, hi⟩ := join_ff (by omega) (by omega)
      rw [e0]
      go_wp2
      refine bodyPost_ret (v := sv ⟨false, lo, hi⟩) (by simp [results, Tryz.results86, go_sem, r0, r1, r2, z2]) rfl ⟨?_, ?_⟩
      · exact ret_sp (by simp [wideSp] <;> omega)
      · exact (((H1.setCell (by simp; omega) _).setCell (by simp; omega) _).setCell (by simp; omega) _).alloc (by simp; omega) _

set_option maxHeartbeats 1000000 in
theorem together_err (F : Nat) (s t : Sp) (w : World) (h : ckSps s t ≠ 0) :
    Calls Tryz.prog 84 #[sv s, sv t, .func (.func F) #[] #[]] w fun e w' => e = .returned (.tuple #[sv zeroSp, .int .i64 (ckSps s t)]) ∧ Below w.heap.size w w' := by
  obtain ⟨n, lo, hi⟩ := s
  obtain ⟨n', lo', hi'⟩ := t
  go_enter Tryz.func84, Tryz.ntmps84
  go_wp2_with (go_at_call 96; fail)
  refine (checkBoth_any ⟨n, lo, hi⟩ ⟨n', lo', hi'⟩ _).mono ?_
  rintro e w1 ⟨rfl, hb1⟩
  obtain ⟨⟨c0, c1, c2⟩, ⟨d0, d1, d2⟩, ⟨r0, r1, r2⟩, ⟨f0, f1, f2⟩, z0, z1, z2⟩ := w3_cells (s := ⟨n, lo, hi⟩) (t := ⟨n', lo', hi'⟩) (r := zeroSp) hb1 (by simp)
  have H1 : Below w.heap.size w w1 := (w3_below ⟨n, lo, hi⟩ ⟨n', lo', hi'⟩ zeroSp w).trans (hb1.mono (by simp; omega))
  clear hb1
  simp only [zeroSp] at r0 r1 r2
  go_wp2
  refine bodyPost_ret (v := .tuple #[sv zeroSp, .int .i64 (ckSps ⟨n, lo, hi⟩ ⟨n', lo', hi'⟩)]) (by simp [results, Tryz.results84, go_sem, r0, r1, r2, zeroSp]) rfl ⟨rfl, ?_⟩
  exact ((H1.setCell (by simp; omega) _).setCell (by simp; omega) _).setCell (by simp; omega) _

set_option maxHeartbeats 1000000 in
theorem together_join (s t : Sp) (w : World) (h : ckSps s t = 0) :
    Calls Tryz.prog 84 #[sv s, sv t, .func (.func 85) #[] #[]] w fun e w' => e = .returned (.tuple #[sv (joinSp s t), .int .i64 0]) ∧ Below w.heap.size w w' := by
  obtain ⟨n, lo, hi⟩ := s
  obtain ⟨n', lo', hi'⟩ := t
  go_enter Tryz.func84, Tryz.ntmps84
  go_wp2_with (go_at_call 96; fail)
  refine (checkBoth_any ⟨n, lo, hi⟩ ⟨n', lo', hi'⟩ _).mono ?_
  rintro e w1 ⟨rfl, hb1⟩
  obtain ⟨⟨c0, c1, c2⟩, ⟨d0, d1, d2⟩, ⟨r0, r1, r2⟩, ⟨f0, f1, f2⟩, z0, z1, z2⟩ := w3_cells (s := ⟨n, lo, hi⟩) (t := ⟨n', lo', hi'⟩) (r := zeroSp) hb1 (by simp)
  have H1 : Below w.heap.size w w1 := (w3_below ⟨n, lo, hi⟩ ⟨n', lo', hi'⟩ zeroSp w).trans (hb1.mono (by simp; omega))
  rw [h]
  simp only [zeroSp] at r0 r1 r2
  clear hb1
  go_wp2_with (go_at_call 85; fail)
  refine (join_any ⟨n, lo, hi⟩ ⟨n', lo', hi'⟩ _).mono ?_
  rintro e w2 ⟨rfl, hb2⟩
  have g0 := r0; have g1 := r1; have g2 := r2; have k0 := f0; have k1 := f1; have k2 := f2
  rw [← hb2.cell z2] at g0 g1 g2
  rw [← hb2.frozen z2] at k0 k1 k2
  have H2 : Below w.heap.size w w2 := H1.trans (hb2.mono (by omega))
  clear r0 r1 r2 f0 f1 f2 hb2 c0 c1 c2 d0 d1 d2
  generalize hr : joinSp ⟨n, lo, hi⟩ ⟨n', lo', hi'⟩ = r
  obtain ⟨rn, rlo, rhi⟩ := r
  go_wp2
  refine bodyPost_ret (v := .tuple #[sv ⟨rn, rlo, rhi⟩, .int .i64 0]) (by simp [results, Tryz.results84, go_sem, g0, g1, g2]) rfl ⟨by rw [hr], ?_⟩
  exact ((H2.setCell (by simp; omega) _).setCell (by simp; omega) _).setCell (by simp; omega) _

set_option maxHeartbeats 1000000 in
theorem together_meet (s t : Sp) (w : World) (h : ckSps s t = 0) :
    Calls Tryz.prog 84 #[sv s, sv t, .func (.func 124) #[] #[]] w fun e w' => e = .returned (.tuple #[sv (meetSp s t), .int .i64 0]) ∧ Below w.heap.size w w' := by
  obtain ⟨n, lo, hi⟩ := s
  obtain ⟨n', lo', hi'⟩ := t
  go_enter Tryz.func84, Tryz.ntmps84
  go_wp2_with (go_at_call 96; fail)
  refine (checkBoth_any ⟨n, lo, hi⟩ ⟨n', lo', hi'⟩ _).mono ?_
  rintro e w1 ⟨rfl, hb1⟩
  obtain ⟨⟨c0, c1, c2⟩, ⟨d0, d1, d2⟩, ⟨r0, r1, r2⟩, ⟨f0, f1, f2⟩, z0, z1, z2⟩ := w3_cells (s := ⟨n, lo, hi⟩) (t := ⟨n', lo', hi'⟩) (r := zeroSp) hb1 (by simp)
  have H1 : Below w.heap.size w w1 := (w3_below ⟨n, lo, hi⟩ ⟨n', lo', hi'⟩ zeroSp w).trans (hb1.mono (by simp; omega))
  rw [h]
  simp only [zeroSp] at r0 r1 r2
  clear hb1
  go_wp2_with (go_at_call 124; fail)
  refine (meet_any ⟨n, lo, hi⟩ ⟨n', lo', hi'⟩ _).mono ?_
  rintro e w2 ⟨rfl, hb2⟩
  have g0 := r0; have g1 := r1; have g2 := r2; have k0 := f0; have k1 := f1; have k2 := f2
  rw [← hb2.cell z2] at g0 g1 g2
  rw [← hb2.frozen z2] at k0 k1 k2
  have H2 : Below w.heap.size w w2 := H1.trans (hb2.mono (by omega))
  clear r0 r1 r2 f0 f1 f2 hb2 c0 c1 c2 d0 d1 d2
  generalize hr : meetSp ⟨n, lo, hi⟩ ⟨n', lo', hi'⟩ = r
  obtain ⟨rn, rlo, rhi⟩ := r
  go_wp2
  refine bodyPost_ret (v := .tuple #[sv ⟨rn, rlo, rhi⟩, .int .i64 0]) (by simp [results, Tryz.results84, go_sem, g0, g1, g2]) rfl ⟨by rw [hr], ?_⟩
  exact ((H2.setCell (by simp; omega) _).setCell (by simp; omega) _).setCell (by simp; omega) _

set_option maxHeartbeats 1000000 in
theorem together_widen (s t : Sp) (w : World) (h : ckSps s t = 0) :
    Calls Tryz.prog 84 #[sv s, sv t, .func (.func 86) #[] #[]] w fun e w' => e = .returned (.tuple #[sv (wideSp s t), .int .i64 0]) ∧ Below w.heap.size w w' := by
  obtain ⟨n, lo, hi⟩ := s
  obtain ⟨n', lo', hi'⟩ := t
  go_enter Tryz.func84, Tryz.ntmps84
  go_wp2_with (go_at_call 96; fail)
  refine (checkBoth_any ⟨n, lo, hi⟩ ⟨n', lo', hi'⟩ _).mono ?_
  rintro e w1 ⟨rfl, hb1⟩
  obtain ⟨⟨c0, c1, c2⟩, ⟨d0, d1, d2⟩, ⟨r0, r1, r2⟩, ⟨f0, f1, f2⟩, z0, z1, z2⟩ := w3_cells (s := ⟨n, lo, hi⟩) (t := ⟨n', lo', hi'⟩) (r := zeroSp) hb1 (by simp)
  have H1 : Below w.heap.size w w1 := (w3_below ⟨n, lo, hi⟩ ⟨n', lo', hi'⟩ zeroSp w).trans (hb1.mono (by simp; omega))
  rw [h]
  simp only [zeroSp] at r0 r1 r2
  clear hb1
  go_wp2_with (go_at_call 86; fail)
  refine (widen_any ⟨n, lo, hi⟩ ⟨n', lo', hi'⟩ _).mono ?_
  rintro e w2 ⟨rfl, hb2⟩
  have g0 := r0; have g1 := r1; have g2 := r2; have k0 := f0; have k1 := f1; have k2 := f2
  rw [← hb2.cell z2] at g0 g1 g2
  rw [← hb2.frozen z2] at k0 k1 k2
  have H2 : Below w.heap.size w w2 := H1.trans (hb2.mono (by omega))
  clear r0 r1 r2 f0 f1 f2 hb2 c0 c1 c2 d0 d1 d2
  generalize hr : wideSp ⟨n, lo, hi⟩ ⟨n', lo', hi'⟩ = r
  obtain ⟨rn, rlo, rhi⟩ := r
  go_wp2
  refine bodyPost_ret (v := .tuple #[sv ⟨rn, rlo, rhi⟩, .int .i64 0]) (by simp [results, Tryz.results84, go_sem, g0, g1, g2]) rfl ⟨by rw [hr], ?_⟩
  exact ((H2.setCell (by simp; omega) _).setCell (by simp; omega) _).setCell (by simp; omega) _

end Go.Proofs.YtmapdpcfanecdaaGreat
