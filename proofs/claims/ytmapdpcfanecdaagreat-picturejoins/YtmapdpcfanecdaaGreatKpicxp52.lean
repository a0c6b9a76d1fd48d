/- Begin and Step, whatever they are handed: one contract each. -/
import Derived.Test.YtmapdpcfanecdaaGreatKpicxp03
import Derived.Test.YtmapdpcfanecdaaGreatKpicxp18
import Derived.Test.YtmapdpcfanecdaaGreatKpicxp07
import Derived.Test.YtmapdpcfanecdaaGreatKpicxp01
import Derived.Test.YtmapdpcfanecdaaGreatKpicxp11
import Derived.Test.YtmapdpcfanecdaaGreatShelf
import Derived.Shelf.Strings.Builder1
import Derived.Test.YtmapdpcfanecdaaGreatKpicxp08
import Derived.Lib.ItoaNum
import Derived.Lib.ItoaLen
import Derived.Lib.QuietBelow
import Derived.BigQuiet
import Derived.Test.YtmapdpcfanecdaaGreatKpicxp48
import Derived.Test.YtmapdpcfanecdaaGreatKpicxp15
import Derived.Deep.RegionHeld3
import Derived.Deep.AppendLies
import Derived.Lib.SplitLaws
import Derived.Lib.AtoiTie
import Derived.Test.YtmapdpcfanecdaaGreatKpicxp47
import Derived.Test.YtmapdpcfanecdaaGreatKpicxp17
import Derived.Deep.QuietTactic
import Derived.Deep.RegionHeldLaw
import Derived.OwnWalk
import Derived.Test.YtmapdpcfanecdaaGreatKpicxp05
import Derived.Lib.SliceRun
import Derived.Deep.DeepCutAuto
import Derived.Test.YtmapdpcfanecdaaGreatKpicxp50
import Derived.Test.YtmapdpcfanecdaaGreatKpicxp49
namespace Go.Proofs.YtmapdpcfanecdaaGreat
set_option linter.unusedVariables false
set_option linter.unusedSimpArgs false
open Go.RowKit
attribute [local go_sem ↓] Go.wp_at_zero Go.wp_at_succ

set_option maxHeartbeats 2000000 in
set_option maxRecDepth 10000 in
theorem sameGuesses_any (l : List Gs) (s1 : Option Addr) (c1 : Nat) (s2 : Option Addr) (c2 : Nat) (w : World) (hl : l.length ≤ maxLen) (h1 : GsAt w s1 l) (h2 : GsAt w s2 l) :
    Calls Tryz.prog 118 #[.slice s1 l.length c1, .slice s2 l.length c2] w fun e w' => e = .returned (.bool true) ∧ Below w.heap.size w w' := by
  have hm : maxLen ≤ 9223372036854775807 := by decide
  go_enter Tryz.func118, Tryz.ntmps118
  go_wp2
  go_loopw [5] (fun i wr => ∃ k : Nat, k ≤ l.length ∧ i = .int .i64 k ∧ Below w.heap.size w wr) (fun i _ => l.length - (intOf i).toNat)
  case atStart => exact ⟨0, Nat.zero_le _, rfl, Below.refl _ _⟩
  case round =>
    obtain ⟨k, hk, rfl, hbr⟩ := hrel
    by_cases hlt : k < l.length
    · have n0 : (0 : Int) ≤ (k : Int) := by omega
      have n1 : (k : Int) < (l.length : Int) := by omega
      obtain ⟨b1, o1, rfl, ss1, g1, G1, I1, k1, m1⟩ := h1.below hbr (Nat.le_refl _) k hlt
      obtain ⟨b2, o2, rfl, ss2, g2, G2, I2, k2, m2⟩ := h2.below hbr (Nat.le_refl _) k hlt
      have hgl : l[k].s.length ≤ maxLen := Nat.le_trans k1 m1
      have HKZ := hideH (fun wx (hx : Below wr.heap.size wr wx) => And.intro (G1.call hx).1 (G2.call hx).1)
      have HD : Below wr.heap.size wr wr.drew := (Below.refl _ _).drew
      go_wp2
      refine wp_region_z (S := (fun wx => (wx.cell? ⟨b1, o1 + k * 7, none⟩ = some (.bool l[k].n) ∧ wx.cell? ⟨b1, o1 + k * 7 + 1, none⟩ = some (.bool l[k].sp.n) ∧ wx.cell? ⟨b1, o1 + k * 7 + 2, none⟩ = some (.int .i64 l[k].sp.lo) ∧ wx.cell? ⟨b1, o1 + k * 7 + 3, none⟩ = some (.int .i64 l[k].sp.hi) ∧ wx.cell? ⟨b1, o1 + k * 7 + 4, none⟩ = some (.bool l[k].t) ∧ wx.cell? ⟨b1, o1 + k * 7 + 5, none⟩ = some (.bool l[k].f) ∧ wx.cell? ⟨b1, o1 + k * 7 + 6, none⟩ = some (.slice ss1 l[k].s.length g1)) ∧ (wx.cell? ⟨b2, o2 + k * 7, none⟩ = some (.bool l[k].n) ∧ wx.cell? ⟨b2, o2 + k * 7 + 1, none⟩ = some (.bool l[k].sp.n) ∧ wx.cell? ⟨b2, o2 + k * 7 + 2, none⟩ = some (.int .i64 l[k].sp.lo) ∧ wx.cell? ⟨b2, o2 + k * 7 + 3, none⟩ = some (.int .i64 l[k].sp.hi) ∧ wx.cell? ⟨b2, o2 + k * 7 + 4, none⟩ = some (.bool l[k].t) ∧ wx.cell? ⟨b2, o2 + k * 7 + 5, none⟩ = some (.bool l[k].f) ∧ wx.cell? ⟨b2, o2 + k * 7 + 6, none⟩ = some (.slice ss2 l[k].s.length g2)))) [] (by kernel_rfl) (HKZ.out _ HD) (fun hHeld => ?_)
      refine tkZ 0 ?_ ?_ ?_
      rotate_left
      · exact rn
      (try simp only [Act.put, List.getElem_toArray, List.getElem_cons_zero, List.getElem_cons_succ, List.setIfInBounds_toArray, List.set_cons_zero, List.set_cons_succ])
      refine tkZ 1 ?_ ?_ ?_
      rotate_left
      · exact rn
      (try simp only [Act.put, List.getElem_toArray, List.getElem_cons_zero, List.getElem_cons_succ, List.setIfInBounds_toArray, List.set_cons_zero, List.set_cons_succ])
      refine tkZ 2 ?_ ?_ ?_
      rotate_left
      · exact rn
      (try simp only [Act.put, List.getElem_toArray, List.getElem_cons_zero, List.getElem_cons_succ, List.setIfInBounds_toArray, List.set_cons_zero, List.set_cons_succ])
      refine tkZ 3 ?_ ?_ ?_
      rotate_left
      · exact rn
      (try simp only [Act.put, List.getElem_toArray, List.getElem_cons_zero, List.getElem_cons_succ, List.setIfInBounds_toArray, List.set_cons_zero, List.set_cons_succ])
      refine tkZ 4 ?_ ?_ ?_
      rotate_left
      · exact rn
      (try simp only [Act.put, List.getElem_toArray, List.getElem_cons_zero, List.getElem_cons_succ, List.setIfInBounds_toArray, List.set_cons_zero, List.set_cons_succ])
      refine tkZ 5 ?_ ?_ ?_
      rotate_left
      · exact rn
      (try simp only [Act.put, List.getElem_toArray, List.getElem_cons_zero, List.getElem_cons_succ, List.setIfInBounds_toArray, List.set_cons_zero, List.set_cons_succ])
      refine tkZ 6 ?_ ?_ ?_
      rotate_left
      · exact rn
      (try simp only [Act.put, List.getElem_toArray, List.getElem_cons_zero, List.getElem_cons_succ, List.setIfInBounds_toArray, List.set_cons_zero, List.set_cons_succ])
      refine tkZ 7 ?_ ?_ ?_
      rotate_left
      · exact rn
      (try simp only [Act.put, List.getElem_toArray, List.getElem_cons_zero, List.getElem_cons_succ, List.setIfInBounds_toArray, List.set_cons_zero, List.set_cons_succ])
      refine wpAnyZ_one (i := 8) rfl (by kernel_rfl) (fun K hK => ?_)
      go_simp
      go_at_call 53
      refine (sameGuess_any l[k] ss1 g1 ss2 g2 _ (I1.call HD) (I2.call HD) hgl).mono ?_
      rintro e w5 ⟨rfl, hb5⟩
      have HB5 : Below wr.heap.size wr w5 := HD.trans (hb5.mono HD.size)
      go_wp2_with fail
      refine hK.out _ _ (HKZ.out _ HB5) (fun hHeld => ?_)
      clear hK K
      (try simp only [Act.put, List.getElem_toArray, List.getElem_cons_zero, List.getElem_cons_succ, List.setIfInBounds_toArray, List.set_cons_zero, List.set_cons_succ])
      refine tkZ 9 ?_ ?_ ?_
      rotate_left
      · exact rn
      (try simp only [Act.put, List.getElem_toArray, List.getElem_cons_zero, List.getElem_cons_succ, List.setIfInBounds_toArray, List.set_cons_zero, List.set_cons_succ])
      refine wpAnyZ_done (by kernel_rfl) ?_ _
      go_wp2
      go_roundw
      case rel => exact ⟨k + 1, by omega, by go_num, hbr.trans (HB5.mono hbr.size)⟩
      case measure => simp [intOf]; omega
    · have n1 : ¬ (k : Int) < (l.length : Int) := by omega
      go_wp2
      go_ret
      exact ⟨rfl, hbr⟩

set_option maxHeartbeats 4000000 in
set_option maxRecDepth 20000 in
theorem samePicture_any (x : Pic) (vs1 : Option Addr) (vc1 : Nat) (fs1 : Option Addr) (fc1 : Nat) (vs2 : Option Addr) (vc2 : Nat) (fs2 : Option Addr) (fc2 : Nat) (w : World) (hl : LenPic x) (h1 : PicAt w x vs1 fs1) (h2 : PicAt w x vs2 fs2) :
    Calls Tryz.prog 77 #[xv x vs1 vc1 fs1 fc1, xv x vs2 vc2 fs2 fc2] w fun e w' => e = .returned (.bool true) ∧ Below w.heap.size w w' := by
  obtain ⟨hl1, hl2⟩ := hl
  have hm : maxLen ≤ 9223372036854775807 := by decide
  have hb0 : Below w.heap.size w ((w.alloc (.cells #[.bool x.none, .slice vs1 x.vars.length vc1, .slice fs1 x.flds.length fc1] 58)).alloc (.cells #[.bool x.none, .slice vs2 x.vars.length vc2, .slice fs2 x.flds.length fc2] 58)) := by go_grown
  have A0 := (XAt.new w x vs1 vc1 fs1 fc1).call (w' := ((w.alloc (.cells #[.bool x.none, .slice vs1 x.vars.length vc1, .slice fs1 x.flds.length fc1] 58)).alloc (.cells #[.bool x.none, .slice vs2 x.vars.length vc2, .slice fs2 x.flds.length fc2] 58))) (by go_grown)
  have B0 := XAt.new (w.alloc (.cells #[.bool x.none, .slice vs1 x.vars.length vc1, .slice fs1 x.flds.length fc1] 58)) x vs2 vc2 fs2 fc2
  rw [World.size_alloc] at B0
  have hP1 := h1.below hb0 (Nat.le_refl _)
  have hP2 := h2.below hb0 (Nat.le_refl _)
  have HS := hideH (sameGuesses_any x.vars vs1 vc1 vs2 vc2 ((w.alloc (.cells #[.bool x.none, .slice vs1 x.vars.length vc1, .slice fs1 x.flds.length fc1] 58)).alloc (.cells #[.bool x.none, .slice vs2 x.vars.length vc2, .slice fs2 x.flds.length fc2] 58)) hl1 hP1.1 hP2.1)
  clear h1 h2
  go_enter Tryz.func77, Tryz.ntmps77
  go_wp2_with (go_at_call 118; fail)
  refine HS.out.mono ?_
  rintro e w1 ⟨rfl, hb1⟩
  clear HS
  have R1 := hP1.2.below hb1 (Nat.le_refl _)
  have R2 := hP2.2.below hb1 (Nat.le_refl _)
  have A1 := A0.call hb1
  have B1 := B0.call hb1
  have H1 := hb0.trans (hb1.mono hb0.size)
  clear A0 B0 hP1 hP2 hb0 hb1
  obtain ⟨⟨a0, a1, a2⟩, az, -⟩ := id A1
  obtain ⟨⟨b0, b1, b2⟩, bz, -⟩ := id B1
  go_wp2
  clear a0 a1 a2 az b0 b1 b2 bz
  go_loopw [5] (fun i wr => ∃ k : Nat, k ≤ x.flds.length ∧ i = .int .i64 k ∧ Below w1.heap.size w1 wr) (fun i _ => x.flds.length - (intOf i).toNat)
  case atStart => exact ⟨0, Nat.zero_le _, rfl, Below.refl _ _⟩
  case round =>
    obtain ⟨k, hk, rfl, hbr⟩ := hrel
    obtain ⟨⟨a0, a1, a2⟩, az, -⟩ := id (A1.call hbr)
    obtain ⟨⟨b0, b1, b2⟩, bz, -⟩ := id (B1.call hbr)
    by_cases hlt : k < x.flds.length
    · have n0 : (0 : Int) ≤ (k : Int) := by omega
      have n1 : (k : Int) < (x.flds.length : Int) := by omega
      obtain ⟨p1, q1, rfl, zp1, r1, rc1, C1, k1, m1, J1⟩ := R1.below hbr (Nat.le_refl _) k hlt
      obtain ⟨p2, q2, rfl, zp2, r2, rc2, C2, k2, m2, J2⟩ := R2.below hbr (Nat.le_refl _) k hlt
      have hgl : x.flds[k].length ≤ maxLen := Nat.le_trans k1 m1
      have HKZ : Hid (∀ wx, Below wr.heap.size wr wx → (wx.cell? ⟨w.heap.size, 2, none⟩ = some (.slice (some ⟨p1, q1, none⟩) x.flds.length fc1) ∧ wx.cell? ⟨p1, q1 + k, none⟩ = some (.slice r1 x.flds[k].length rc1)) ∧ (wx.cell? ⟨w.heap.size + 1, 2, none⟩ = some (.slice (some ⟨p2, q2, none⟩) x.flds.length fc2) ∧ wx.cell? ⟨p2, q2 + k, none⟩ = some (.slice r2 x.flds[k].length rc2))) := fun wx hx => ⟨⟨by rw [hx.cell (by simp only; exact az)]; exact a2, by rw [hx.cell (by simp only; exact zp1)]; exact C1⟩, by rw [hx.cell (by simp only; exact bz)]; exact b2, by rw [hx.cell (by simp only; exact zp2)]; exact C2⟩
      have HD : Below wr.heap.size wr wr.drew := (Below.refl _ _).drew
      go_wp2
      refine wp_region_z (S := (fun wx => (wx.cell? ⟨w.heap.size, 2, none⟩ = some (.slice (some ⟨p1, q1, none⟩) x.flds.length fc1) ∧ wx.cell? ⟨p1, q1 + k, none⟩ = some (.slice r1 x.flds[k].length rc1)) ∧ (wx.cell? ⟨w.heap.size + 1, 2, none⟩ = some (.slice (some ⟨p2, q2, none⟩) x.flds.length fc2) ∧ wx.cell? ⟨p2, q2 + k, none⟩ = some (.slice r2 x.flds[k].length rc2)))) [] (by kernel_rfl) (HKZ.out _ HD) (fun hHeld => ?_)
      refine tkZ 0 ?_ ?_ ?_
      rotate_left
      · exact rn
      (try simp only [Act.put, List.getElem_toArray, List.getElem_cons_zero, List.getElem_cons_succ, List.setIfInBounds_toArray, List.set_cons_zero, List.set_cons_succ])
      refine tkZ 1 ?_ ?_ ?_
      rotate_left
      · exact rn
      (try simp only [Act.put, List.getElem_toArray, List.getElem_cons_zero, List.getElem_cons_succ, List.setIfInBounds_toArray, List.set_cons_zero, List.set_cons_succ])
      refine tkZ 2 ?_ ?_ ?_
      rotate_left
      · exact rn
      (try simp only [Act.put, List.getElem_toArray, List.getElem_cons_zero, List.getElem_cons_succ, List.setIfInBounds_toArray, List.set_cons_zero, List.set_cons_succ])
      refine tkZ 3 ?_ ?_ ?_
      rotate_left
      · exact rn
      (try simp only [Act.put, List.getElem_toArray, List.getElem_cons_zero, List.getElem_cons_succ, List.setIfInBounds_toArray, List.set_cons_zero, List.set_cons_succ])
      refine tkZ 4 ?_ ?_ ?_
      rotate_left
      · exact rn
      (try simp only [Act.put, List.getElem_toArray, List.getElem_cons_zero, List.getElem_cons_succ, List.setIfInBounds_toArray, List.set_cons_zero, List.set_cons_succ])
      refine tkZ 5 ?_ ?_ ?_
      rotate_left
      · exact rn
      (try simp only [Act.put, List.getElem_toArray, List.getElem_cons_zero, List.getElem_cons_succ, List.setIfInBounds_toArray, List.set_cons_zero, List.set_cons_succ])
      refine tkZ 6 ?_ ?_ ?_
      rotate_left
      · exact rn
      (try simp only [Act.put, List.getElem_toArray, List.getElem_cons_zero, List.getElem_cons_succ, List.setIfInBounds_toArray, List.set_cons_zero, List.set_cons_succ])
      refine tkZ 7 ?_ ?_ ?_
      rotate_left
      · exact rn
      (try simp only [Act.put, List.getElem_toArray, List.getElem_cons_zero, List.getElem_cons_succ, List.setIfInBounds_toArray, List.set_cons_zero, List.set_cons_succ])
      refine tkZ 8 ?_ ?_ ?_
      rotate_left
      · exact rn
      (try simp only [Act.put, List.getElem_toArray, List.getElem_cons_zero, List.getElem_cons_succ, List.setIfInBounds_toArray, List.set_cons_zero, List.set_cons_succ])
      refine tkZ 9 ?_ ?_ ?_
      rotate_left
      · exact rn
      (try simp only [Act.put, List.getElem_toArray, List.getElem_cons_zero, List.getElem_cons_succ, List.setIfInBounds_toArray, List.set_cons_zero, List.set_cons_succ])
      refine wpAnyZ_one (i := 10) rfl (by kernel_rfl) (fun K hK => ?_)
      go_simp
      go_at_call 118
      refine (sameGuesses_any x.flds[k] r1 rc1 r2 rc2 _ hgl (J1.call HD) (J2.call HD)).mono ?_
      rintro e w5 ⟨rfl, hb5⟩
      have HB5 : Below wr.heap.size wr w5 := HD.trans (hb5.mono HD.size)
      go_wp2_with fail
      refine hK.out _ _ (HKZ.out _ HB5) (fun hHeld => ?_)
      clear hK K
      (try simp only [Act.put, List.getElem_toArray, List.getElem_cons_zero, List.getElem_cons_succ, List.setIfInBounds_toArray, List.set_cons_zero, List.set_cons_succ])
      refine tkZ 11 ?_ ?_ ?_
      rotate_left
      · exact rn
      (try simp only [Act.put, List.getElem_toArray, List.getElem_cons_zero, List.getElem_cons_succ, List.setIfInBounds_toArray, List.set_cons_zero, List.set_cons_succ])
      refine wpAnyZ_done (by kernel_rfl) ?_ _
      go_wp2
      go_roundw
      case rel => exact ⟨k + 1, by omega, by go_num, hbr.trans (HB5.mono hbr.size)⟩
      case measure => simp [intOf]; omega
    · have n1 : ¬ (k : Int) < (x.flds.length : Int) := by omega
      go_wp2
      go_ret
      exact ⟨rfl, H1.trans (hbr.mono H1.size)⟩
end Go.Proofs.YtmapdpcfanecdaaGreat

namespace Go.Proofs.YtmapdpcfanecdaaGreat
set_option linter.unusedVariables false
set_option linter.unusedSimpArgs false
open Go.RowKit

def smallC : List Ins := [⟨1, 0, 0, 0, 5, 0⟩, ⟨18, 0, 0, 0, 0, 0⟩]

set_option maxHeartbeats 1000000 in
set_option maxRecDepth 20000 in
theorem small_any (w : World) :
    Calls Tryz.prog 52 #[] w fun e w' => ∃ b, e = .returned (.agg #[.int .i64 1, .int .i64 0, .slice (some ⟨b, 0, none⟩) 2 2]) ∧ CodeAt w' (some ⟨b, 0, none⟩) smallC ∧ Below w.heap.size w w' := by
  go_enter Tryz.func52, Tryz.ntmps52
  go_wp2
  refine bodyPost_ret (v := .agg #[.int .i64 1, .int .i64 0, .slice (some ⟨w.heap.size + 1, 0, none⟩) 2 2]) (by simp [results, Tryz.results52, go_sem]) rfl ⟨w.heap.size + 1, rfl, .inr ⟨_, _, rfl, by simp, ?_⟩, by go_grown⟩
  intro k hk
  match k, hk with
  | 0, _ => refine ⟨?_, ?_, ?_, ?_, ?_, ?_⟩ <;> simp [go_sem, smallC]
  | 1, _ => refine ⟨?_, ?_, ?_, ?_, ?_, ?_⟩ <;> simp [go_sem, smallC]
  | k + 2, h => simp [smallC] at h; omega
end Go.Proofs.YtmapdpcfanecdaaGreat

namespace Go.Proofs.YtmapdpcfanecdaaGreat
set_option linter.unusedVariables false
set_option linter.unusedSimpArgs false
open Go.RowKit

theorem ownsRow_lower {w : World} {B B' : Nat} {e : TypeId} {z : Nat} {v : Value} {n : Nat} {xs : List Value} (h : w.ownsRow B e z v n xs) (hb : B' ≤ B) : w.ownsRow B' e z v n xs := by
  obtain ⟨h1, h2⟩ := h
  refine ⟨h1, ?_⟩
  rcases h2 with h2 | ⟨g, cap, cur, hv, hB, r⟩
  · exact .inl h2
  · exact .inr ⟨g, cap, cur, hv, Nat.le_trans hb hB, r⟩

end Go.Proofs.YtmapdpcfanecdaaGreat

namespace Go.Proofs.YtmapdpcfanecdaaGreat
set_option linter.unusedVariables false
set_option linter.unusedSimpArgs false

theorem ckAll_each {V F L : Int} : ∀ {c : List Ins}, ckAll V F L c = 0 → ∀ i ∈ c, ckOne V F L i = 0
  | [], _, i, hi => by cases hi
  | x :: r, h, i, hi => by
    unfold ckAll at h
    split at h
    · rename_i hx
      rcases List.mem_cons.1 hi with rfl | hi
      · exact hx
      · exact ckAll_each h i hi
    · exact absurd h (by assumption)
theorem ckProg_each {V F : Int} {c : List Ins} (h : ckProg V F c = 0) : (1 ≤ V ∧ V ≤ 8) ∧ (0 ≤ F ∧ F ≤ 3) ∧ c.length ≤ 60 ∧ ∀ i ∈ c, ckOne V F c.length i = 0 := by
  unfold ckProg at h
  split at h
  · cases h
  · rename_i h3
    split at h
    · cases h
    · rename_i h60
      simp [btw] at h3
      exact ⟨⟨by omega, by omega⟩, ⟨by omega, by omega⟩, by omega, ckAll_each h⟩
end Go.Proofs.YtmapdpcfanecdaaGreat

namespace Go.Proofs.YtmapdpcfanecdaaGreat
set_option linter.unusedVariables false
set_option linter.unusedSimpArgs false
open Go.RowKit

theorem info_val : (Tryz.prog.info? 31).map (fun i => (i.zero, i.size, i.bytes)) = some (some (.agg #[.int .i64 0, .int .i64 0]), 2, 16) := by kernel_rfl
/-- A variable of type Run lies as it was made. -/
def ZRun (w : World) (b : Nat) : Prop := w.cell? ⟨b, 0, none⟩ = some (.int .i64 0) ∧ w.cell? ⟨b, 1, none⟩ = some (.slice none 0 0) ∧ w.cell? ⟨b, 2, none⟩ = some (.slice none 0 0) ∧ w.cell? ⟨b, 3, none⟩ = some (.int .i64 0) ∧ w.cell? ⟨b, 4, none⟩ = some (.slice none 0 0) ∧ w.cell? ⟨b, 5, none⟩ = some (.int .i64 0) ∧ (∀ j, w.frozen? ⟨b, j, none⟩ = false) ∧ b < w.heap.size
theorem ZRun.new (w : World) : ZRun (w.alloc (.cells #[.int .i64 0, .slice none 0 0, .slice none 0 0, .int .i64 0, .slice none 0 0, .int .i64 0] 76)) w.heap.size := by
  refine ⟨?_, ?_, ?_, ?_, ?_, ?_, fun j => ?_, ?_⟩ <;> simp [go_sem]
theorem ZRun.block {w w' : World} {b : Nat} (h : ZRun w b) (hb : w'.heap[b]? = w.heap[b]?) : ZRun w' b := by
  have hc : ∀ j, w'.cell? ⟨b, j, none⟩ = w.cell? ⟨b, j, none⟩ := fun j => World.cell?_of_block (a := ⟨b, j, none⟩) hb
  have hf : ∀ j, w'.frozen? ⟨b, j, none⟩ = w.frozen? ⟨b, j, none⟩ := fun j => World.frozen?_of_block (a := ⟨b, j, none⟩) hb
  obtain ⟨h0, h1, h2, h3, h4, h5, h6, hz⟩ := h
  refine ⟨(hc _).trans h0, (hc _).trans h1, (hc _).trans h2, (hc _).trans h3, (hc _).trans h4, (hc _).trans h5, fun j => (hf j).trans (h6 j), ?_⟩
  rw [Array.getElem?_eq_getElem hz] at hb
  exact (Array.getElem?_eq_some_iff.1 hb).1
theorem ZRun.call {w w' : World} {b : Nat} (h : ZRun w b) (hb : Below w.heap.size w w') : ZRun w' b := h.block (hb.block _ h.2.2.2.2.2.2.2)

set_option maxHeartbeats 1000000 in
set_option maxRecDepth 20000 in
theorem begin_err (V F : Int) (s : Option Addr) (c : List Ins) (cap : Nat) (w : World) (hc : CodeAt w s c) (h0 : ckProg V F c ≠ 0) :
    Calls Tryz.prog 76 #[.agg #[.int .i64 V, .int .i64 F, .slice s c.length cap]] w fun e w' => e = .returned (.tuple #[.agg #[.int .i64 0, .slice none 0 0, .slice none 0 0, .int .i64 0, .slice none 0 0, .int .i64 0], .int .i64 (ckProg V F c)]) ∧ Below w.heap.size w w' := by
  have Z0 := ZRun.new (w.alloc (.cells #[.int .i64 V, .int .i64 F, .slice s c.length cap] 24))
  rw [World.size_alloc] at Z0
  have hb0 : Below w.heap.size w ((w.alloc (.cells #[.int .i64 V, .int .i64 F, .slice s c.length cap] 24)).alloc (.cells #[.int .i64 0, .slice none 0 0, .slice none 0 0, .int .i64 0, .slice none 0 0, .int .i64 0] 76)) := by go_grown
  have hk : (ckProg V F c != 0) = true := by simpa using h0
  go_enter Tryz.func76, Tryz.ntmps76
  go_wp2_with (go_at_call 66; fail)
  refine (codeCheck_any V F s cap c _ (hc.below hb0 (Nat.le_refl _))).mono ?_
  rintro e w1 ⟨rfl, hb1⟩
  have H1 := hb0.trans (hb1.mono hb0.size)
  obtain ⟨r0, r1, r2, r3, r4, r5, rf, rz⟩ := Z0.call hb1
  go_wp2
  refine bodyPost_ret (v := .tuple #[.agg #[.int .i64 0, .slice none 0 0, .slice none 0 0, .int .i64 0, .slice none 0 0, .int .i64 0], .int .i64 (ckProg V F c)]) (by simp [results, Tryz.results76, go_sem, r0, r1, r2, r3, r4, r5]) rfl ⟨rfl, ?_⟩
  exact (((((H1.setCell (by simp) _).setCell (by simp) _).setCell (by simp) _).setCell (by simp) _).setCell (by simp) _).setCell (by simp) _
set_option maxHeartbeats 1000000 in
set_option maxRecDepth 20000 in
theorem begin_ok (v : Nat) (F : Int) (s : Option Addr) (c : List Ins) (cap : Nat) (w : World) (hc : CodeAt w s c) (h0 : ckProg (v : Int) F c = 0) :
    Calls Tryz.prog 76 #[.agg #[.int .i64 v, .int .i64 F, .slice s c.length cap]] w fun e w' => ∃ g, e = .returned (.tuple #[.agg #[.int .i64 0, .slice (some ⟨g, 0, none⟩) v v, .slice none 0 0, .int .i64 0, .slice none 0 0, .int .i64 0], .int .i64 0]) ∧ w'.ownsRow w.heap.size 31 2 (.slice (some ⟨g, 0, none⟩) v v) v (madeCells (Value.agg #[.int .i64 0, .int .i64 0]).cells (v * 2)).toList ∧ Below w.heap.size w w' := by
  obtain ⟨ti, hi, hz0, hz1, hz2⟩ := info_parts info_val
  have h8 : v ≤ 8 := by have := (ckProg_each h0).1; omega
  have Z0 := ZRun.new (w.alloc (.cells #[.int .i64 (v : Int), .int .i64 F, .slice s c.length cap] 24))
  rw [World.size_alloc] at Z0
  have hb0 : Below w.heap.size w ((w.alloc (.cells #[.int .i64 (v : Int), .int .i64 F, .slice s c.length cap] 24)).alloc (.cells #[.int .i64 0, .slice none 0 0, .slice none 0 0, .int .i64 0, .slice none 0 0, .int .i64 0] 76)) := by go_grown
  have hC := codeCheck_any (v : Int) F s cap c _ (hc.below hb0 (Nat.le_refl _))
  rw [h0] at hC
  have pv : ∀ wx, Below ((w.alloc (.cells #[.int .i64 (v : Int), .int .i64 F, .slice s c.length cap] 24)).alloc (.cells #[.int .i64 0, .slice none 0 0, .slice none 0 0, .int .i64 0, .slice none 0 0, .int .i64 0] 76)).heap.size ((w.alloc (.cells #[.int .i64 (v : Int), .int .i64 F, .slice s c.length cap] 24)).alloc (.cells #[.int .i64 0, .slice none 0 0, .slice none 0 0, .int .i64 0, .slice none 0 0, .int .i64 0] 76)) wx → wx.cell? ⟨w.heap.size, 0, none⟩ = some (.int .i64 (v : Int)) := fun wx hx => by rw [hx.cell (by simp; omega)]; simp [go_sem]
  go_enter Tryz.func76, Tryz.ntmps76
  go_wp2_with (go_at_call 66; fail)
  refine hC.mono ?_
  rintro e w1 ⟨rfl, hb1⟩
  have H1 := hb0.trans (hb1.mono hb0.size)
  have p0 := pv w1 hb1
  have Z1 := Z0.call hb1
  have z1 : w.heap.size + 1 + 1 ≤ w1.heap.size := by have := hb1.size; simpa using this
  clear hC pv Z0 hb1 hb0
  go_wp2_with (refine wpList_make_full _ rfl _ _ 72 rfl (w.heap.size + 1 + 1) 31 ti (.agg #[.int .i64 0, .int .i64 0]) 2 Tryz.underlying72 hi hz0 hz1 .i64 .i64 (v : Int) (v : Int) v rfl rfl rfl rfl (by rw [hz2]; omega) (by unfold maxLen; omega) z1 ?_; intro wm hown hgrow; obtain ⟨r0, r1, r2, r3, r4, r5, rf, rz⟩ := ZRun.block Z1 (hgrow.block _ Z1.2.2.2.2.2.2.2 (fun e => by cases e)))
  have hbm : Below w.heap.size w wm := H1.grown hgrow H1.size (fun j hj => by cases hj)
  refine bodyPost_ret (v := .tuple #[.agg #[.int .i64 0, .slice (some ⟨w1.heap.size, 0, none⟩) v v, .slice none 0 0, .int .i64 0, .slice none 0 0, .int .i64 0], .int .i64 0]) (by simp [results, Tryz.results76, go_sem, r0, r1, r2, r3, r4, r5]) rfl ⟨_, rfl, ?_, ?_⟩
  · have hz : w.heap.size + 1 < w.heap.size + 1 + 1 := by omega
    exact ownsRow_lower (ownsRow_setCell_below (a := ⟨w.heap.size + 1, 5, none⟩) (ownsRow_setCell_below (a := ⟨w.heap.size + 1, 4, none⟩) (ownsRow_setCell_below (a := ⟨w.heap.size + 1, 3, none⟩) (ownsRow_setCell_below (a := ⟨w.heap.size + 1, 2, none⟩) (ownsRow_setCell_below (a := ⟨w.heap.size + 1, 1, none⟩) (ownsRow_setCell_below (a := ⟨w.heap.size + 1, 0, none⟩) hown hz _) hz _) hz _) hz _) hz _) hz _) (show w.heap.size ≤ w.heap.size + 1 + 1 by omega)
  · exact (((((hbm.setCell (by simp) _).setCell (by simp) _).setCell (by simp) _).setCell (by simp) _).setCell (by simp) _).setCell (by simp) _
end Go.Proofs.YtmapdpcfanecdaaGreat

namespace Go.Proofs.YtmapdpcfanecdaaGreat
set_option linter.unusedVariables false
set_option linter.unusedSimpArgs false
open Go.RowKit
attribute [local go_sem ↓] Go.wp_at_zero Go.wp_at_succ

theorem made_zero : ∀ f : Nat, f ≤ 8 → (madeCells (Value.agg #[.int .i64 0, .int .i64 0]).cells (f * 2)).toList = valCells (List.replicate f ⟨0, 0⟩)
  | 0, _ => by kernel_rfl
  | 1, _ => by kernel_rfl
  | 2, _ => by kernel_rfl
  | 3, _ => by kernel_rfl
  | 4, _ => by kernel_rfl
  | 5, _ => by kernel_rfl
  | 6, _ => by kernel_rfl
  | 7, _ => by kernel_rfl
  | 8, _ => by kernel_rfl
  | n + 9, h => absurd h (by omega)
end Go.Proofs.YtmapdpcfanecdaaGreat

namespace Go.Proofs.YtmapdpcfanecdaaGreat
set_option linter.unusedVariables false
set_option linter.unusedSimpArgs false
open Go.RowKit

/-- No run. -/
def zeroSt : St := ⟨0, [], [], 0, [], 0⟩
theorem zeroSt_at (w : World) : RunAt w zeroSt none none none := ⟨.inl rfl, .inl rfl, .inl rfl⟩
end Go.Proofs.YtmapdpcfanecdaaGreat

namespace Go.Proofs.YtmapdpcfanecdaaGreat
set_option linter.unusedVariables false
set_option linter.unusedSimpArgs false
open Go.RowKit

/-- A run, and the errno beside it. -/
def RunE (w' : World) (e : Ending) (st : St) (er : Int) : Prop := ∃ vs vc ts tc ls lc, e = .returned (.tuple #[.agg #[.int .i64 st.at_, .slice vs st.vars.length vc, .slice ts st.things.length tc, .int .i64 st.taken, .slice ls st.lines.length lc, .int .i64 st.fin], .int .i64 er]) ∧ RunAt w' st vs ts ls
def begOf (V F : Int) (c : List Ins) : St := if ckProg V F c = 0 then beginSt V else zeroSt
theorem beginU (V F : Int) (s : Option Addr) (c : List Ins) (cap : Nat) (w : World) (hc : CodeAt w s c) :
    Calls Tryz.prog 76 #[.agg #[.int .i64 V, .int .i64 F, .slice s c.length cap]] w fun e w' => RunE w' e (begOf V F c) (ckProg V F c) ∧ Below w.heap.size w w' := by
  unfold begOf
  by_cases h0 : ckProg V F c = 0
  · have hp := progOk_of h0
    have hv8 := hp.v8
    obtain ⟨v, rfl⟩ := Int.eq_ofNat_of_zero_le (show 0 ≤ V by have := hp.v1; omega)
    refine (begin_ok v F s c cap w hc h0).mono ?_
    rintro e w' ⟨g, rfl, hown, hb⟩
    rw [made_zero v (by omega)] at hown
    obtain ⟨vs, vc, ts, tc, ls, lc, e1, e2, e3, hat⟩ := (begin_rows (by omega) hown).at
    rw [h0, if_pos rfl]
    refine ⟨⟨vs, vc, ts, tc, ls, lc, ?_, hat⟩, hb⟩
    rw [← e1, ← e2, ← e3]
    rfl
  · refine (begin_err V F s c cap w hc h0).mono ?_
    rintro e w' ⟨rfl, hb⟩
    rw [if_neg h0]
    exact ⟨⟨none, 0, none, 0, none, 0, rfl, zeroSt_at _⟩, hb⟩
end Go.Proofs.YtmapdpcfanecdaaGreat
