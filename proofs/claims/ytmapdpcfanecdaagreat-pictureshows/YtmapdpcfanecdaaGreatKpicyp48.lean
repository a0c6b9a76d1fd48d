/- Begin and Step, whatever they are handed: one contract each. -/
import Derived.Test.YtmapdpcfanecdaaGreatKpicyp01
import Derived.Test.YtmapdpcfanecdaaGreatKpicyp43
import Derived.Test.YtmapdpcfanecdaaGreatKpicyp14
import Derived.Test.YtmapdpcfanecdaaGreatShelf
import Derived.Shelf.Strings.Builder1
import Derived.Test.YtmapdpcfanecdaaGreatKpicyp05
import Derived.Lib.ItoaNum
import Derived.Lib.ItoaLen
import Derived.Lib.QuietBelow
import Derived.BigQuiet
import Derived.Test.YtmapdpcfanecdaaGreatKpicyp19
import Derived.Deep.RegionHeld3
import Derived.Deep.AppendLies
import Derived.Lib.SplitLaws
import Derived.Lib.AtoiTie
import Derived.Test.YtmapdpcfanecdaaGreatKpicyp09
import Derived.Deep.QuietTactic
import Derived.Deep.RegionHeldLaw
import Derived.OwnWalk
import Derived.Test.YtmapdpcfanecdaaGreatKpicyp07
import Derived.Lib.SliceRun
import Derived.Deep.DeepCutAuto
import Derived.Test.YtmapdpcfanecdaaGreatKpicyp46
import Derived.Test.YtmapdpcfanecdaaGreatKpicyp40
import Derived.Test.YtmapdpcfanecdaaGreatKpicyp45
namespace Go.Proofs.YtmapdpcfanecdaaGreat
set_option linter.unusedVariables false
set_option linter.unusedSimpArgs false
open Go.RowKit

def smallC : List Ins := [⟨1, 0, 0, 0, 5, 0⟩, ⟨18, 0, 0, 0, 0, 0⟩]

set_option maxHeartbeats 1000000 in
set_option maxRecDepth 20000 in
theorem small_any (w : World) :
    Calls Tryz.prog 52 #[] w fun e w' => ∃ b, e = .returned (.agg #[.int .i64 1, .int .i64 0, .slice (some ⟨b, 0, none⟩) 2 2]) ∧ CodeAt w' (some ⟨b, 0, none⟩) smallC ∧ Below w.heap.size w w' := by
  go_enter Tryz.func52, Tryz.ntmps52
  go_wp2
  refine bodyPost_ret (v := .agg #[.int .i64 1, .int .i64 0, .slice (some ⟨w.heap.size + 1, 0, none⟩) 2 2]) (by simp [results, Tryz.results52, go_sem]) rfl ⟨w.heap.size + 1, rfl, .inr ⟨_, _, rfl, by simp, ?_⟩, by go_grown⟩
  intro k hk
  match k, hk with
  | 0, _ => refine ⟨?_, ?_, ?_, ?_, ?_, ?_⟩ <;> simp [go_sem, smallC]
  | 1, _ => refine ⟨?_, ?_, ?_, ?_, ?_, ?_⟩ <;> simp [go_sem, smallC]
  | k + 2, h => simp [smallC] at h; omega
end Go.Proofs.YtmapdpcfanecdaaGreat

namespace Go.Proofs.YtmapdpcfanecdaaGreat
set_option linter.unusedVariables false
set_option linter.unusedSimpArgs false
open Go.RowKit
attribute [local go_sem ↓] Go.wp_at_zero Go.wp_at_succ

theorem valCells_get (l : List Val) (j : Nat) (u : Value) (hu : (valCells l)[j]? = some u) : ∃ k, ∃ h : k < l.length, (j = k * 2 ∧ u = .int .i64 l[k].k) ∨ (j = k * 2 + 1 ∧ u = .int .i64 l[k].n) := by
  have hj : j < l.length * 2 := by
    have := (List.getElem?_eq_some_iff.1 hu).1
    rw [valCells_length l] at this
    exact this
  have hk : j / 2 < l.length := by omega
  refine ⟨j / 2, hk, ?_⟩
  rcases Nat.mod_two_eq_zero_or_one j with hm | hm
  · left
    have e : j = j / 2 * 2 := by omega
    refine ⟨e, ?_⟩
    have := valCells_k l (j / 2) hk
    rw [← e, hu] at this
    exact Option.some.inj this
  · right
    have e : j = j / 2 * 2 + 1 := by omega
    refine ⟨e, ?_⟩
    have := valCells_n l (j / 2) hk
    rw [← e, hu] at this
    exact Option.some.inj this
/-- The cells of a list of values are read behind its address. -/
theorem ValsAt.news {w : World} {s : Option Addr} {l : List Val} (h : ValsAt w s l) : ∀ ad, s = some ad → ∀ j u, (valCells l)[j]? = some u → w.cell? (ad.add j) = some u := by
  intro ad hs j u hu
  rcases h with rfl | ⟨b, off, rfl, hb, hi⟩
  · simp [valCells] at hu
  · cases hs
    obtain ⟨k, hk, ⟨rfl, rfl⟩ | ⟨rfl, rfl⟩⟩ := valCells_get l j u hu
    · have e : (⟨b, off, none⟩ : Addr).add (k * 2) = ⟨b, off + k * 2, none⟩ := by unfold Addr.add; split <;> simp_all
      rw [e]; exact (hi k hk).1
    · have e : (⟨b, off, none⟩ : Addr).add (k * 2 + 1) = ⟨b, off + k * 2 + 1, none⟩ := by unfold Addr.add; split <;> simp_all [Nat.add_assoc]
      rw [e]; exact (hi k hk).2
theorem ValsAt.nil {w : World} {s : Option Addr} {l : List Val} (h : ValsAt w s l) : s = none → l.length = 0 := by
  rintro rfl
  rcases h with rfl | ⟨b, off, h, _⟩
  · rfl
  · cases h
theorem one_vals (l : List Val) : ∀ u ∈ valCells l, u.oneCell' = true := by
  induction l with
  | nil => intro u hu; cases hu
  | cons v r ih =>
    intro u hu
    simp only [valCells, List.mem_cons] at hu
    rcases hu with rfl | rfl | hu
    · rfl
    · rfl
    · exact ih u hu
end Go.Proofs.YtmapdpcfanecdaaGreat

namespace Go.Proofs.YtmapdpcfanecdaaGreat
set_option linter.unusedVariables false
set_option linter.unusedSimpArgs false
open Go.RowKit

theorem ownsRow_lower {w : World} {B B' : Nat} {e : TypeId} {z : Nat} {v : Value} {n : Nat} {xs : List Value} (h : w.ownsRow B e z v n xs) (hb : B' ≤ B) : w.ownsRow B' e z v n xs := by
  obtain ⟨h1, h2⟩ := h
  refine ⟨h1, ?_⟩
  rcases h2 with h2 | ⟨g, cap, cur, hv, hB, r⟩
  · exact .inl h2
  · exact .inr ⟨g, cap, cur, hv, Nat.le_trans hb hB, r⟩

end Go.Proofs.YtmapdpcfanecdaaGreat

namespace Go.Proofs.YtmapdpcfanecdaaGreat
set_option linter.unusedVariables false
set_option linter.unusedSimpArgs false

theorem ckAll_each {V F L : Int} : ∀ {c : List Ins}, ckAll V F L c = 0 → ∀ i ∈ c, ckOne V F L i = 0
  | [], _, i, hi => by cases hi
  | x :: r, h, i, hi => by
    unfold ckAll at h
    split at h
    · rename_i hx
      rcases List.mem_cons.1 hi with rfl | hi
      · exact hx
      · exact ckAll_each h i hi
    · exact absurd h (by assumption)
theorem ckProg_each {V F : Int} {c : List Ins} (h : ckProg V F c = 0) : (1 ≤ V ∧ V ≤ 8) ∧ (0 ≤ F ∧ F ≤ 3) ∧ c.length ≤ 60 ∧ ∀ i ∈ c, ckOne V F c.length i = 0 := by
  unfold ckProg at h
  split at h
  · cases h
  · rename_i h3
    split at h
    · cases h
    · rename_i h60
      simp [btw] at h3
      exact ⟨⟨by omega, by omega⟩, ⟨by omega, by omega⟩, by omega, ckAll_each h⟩
end Go.Proofs.YtmapdpcfanecdaaGreat

namespace Go.Proofs.YtmapdpcfanecdaaGreat
set_option linter.unusedVariables false
set_option linter.unusedSimpArgs false
open Go.RowKit

theorem info_val : (Tryz.prog.info? 31).map (fun i => (i.zero, i.size, i.bytes)) = some (some (.agg #[.int .i64 0, .int .i64 0]), 2, 16) := by kernel_rfl
/-- A variable of type Run lies as it was made. -/
def ZRun (w : World) (b : Nat) : Prop := w.cell? ⟨b, 0, none⟩ = some (.int .i64 0) ∧ w.cell? ⟨b, 1, none⟩ = some (.slice none 0 0) ∧ w.cell? ⟨b, 2, none⟩ = some (.slice none 0 0) ∧ w.cell? ⟨b, 3, none⟩ = some (.int .i64 0) ∧ w.cell? ⟨b, 4, none⟩ = some (.slice none 0 0) ∧ w.cell? ⟨b, 5, none⟩ = some (.int .i64 0) ∧ (∀ j, w.frozen? ⟨b, j, none⟩ = false) ∧ b < w.heap.size
theorem ZRun.new (w : World) : ZRun (w.alloc (.cells #[.int .i64 0, .slice none 0 0, .slice none 0 0, .int .i64 0, .slice none 0 0, .int .i64 0] 76)) w.heap.size := by
  refine ⟨?_, ?_, ?_, ?_, ?_, ?_, fun j => ?_, ?_⟩ <;> simp [go_sem]
theorem ZRun.block {w w' : World} {b : Nat} (h : ZRun w b) (hb : w'.heap[b]? = w.heap[b]?) : ZRun w' b := by
  have hc : ∀ j, w'.cell? ⟨b, j, none⟩ = w.cell? ⟨b, j, none⟩ := fun j => World.cell?_of_block (a := ⟨b, j, none⟩) hb
  have hf : ∀ j, w'.frozen? ⟨b, j, none⟩ = w.frozen? ⟨b, j, none⟩ := fun j => World.frozen?_of_block (a := ⟨b, j, none⟩) hb
  obtain ⟨h0, h1, h2, h3, h4, h5, h6, hz⟩ := h
  refine ⟨(hc _).trans h0, (hc _).trans h1, (hc _).trans h2, (hc _).trans h3, (hc _).trans h4, (hc _).trans h5, fun j => (hf j).trans (h6 j), ?_⟩
  rw [Array.getElem?_eq_getElem hz] at hb
  exact (Array.getElem?_eq_some_iff.1 hb).1
theorem ZRun.call {w w' : World} {b : Nat} (h : ZRun w b) (hb : Below w.heap.size w w') : ZRun w' b := h.block (hb.block _ h.2.2.2.2.2.2.2)

set_option maxHeartbeats 1000000 in
set_option maxRecDepth 20000 in
theorem begin_err (V F : Int) (s : Option Addr) (c : List Ins) (cap : Nat) (w : World) (hc : CodeAt w s c) (h0 : ckProg V F c ≠ 0) :
    Calls Tryz.prog 76 #[.agg #[.int .i64 V, .int .i64 F, .slice s c.length cap]] w fun e w' => e = .returned (.tuple #[.agg #[.int .i64 0, .slice none 0 0, .slice none 0 0, .int .i64 0, .slice none 0 0, .int .i64 0], .int .i64 (ckProg V F c)]) ∧ Below w.heap.size w w' := by
  have Z0 := ZRun.new (w.alloc (.cells #[.int .i64 V, .int .i64 F, .slice s c.length cap] 24))
  rw [World.size_alloc] at Z0
  have hb0 : Below w.heap.size w ((w.alloc (.cells #[.int .i64 V, .int .i64 F, .slice s c.length cap] 24)).alloc (.cells #[.int .i64 0, .slice none 0 0, .slice none 0 0, .int .i64 0, .slice none 0 0, .int .i64 0] 76)) := by go_grown
  have hk : (ckProg V F c != 0) = true := by simpa using h0
  go_enter Tryz.func76, Tryz.ntmps76
  go_wp2_with (go_at_call 66; fail)
  refine (codeCheck_any V F s cap c _ (hc.below hb0 (Nat.le_refl _))).mono ?_
  rintro e w1 ⟨rfl, hb1⟩
  have H1 := hb0.trans (hb1.mono hb0.size)
  obtain ⟨r0, r1, r2, r3, r4, r5, rf, rz⟩ := Z0.call hb1
  go_wp2
  refine bodyPost_ret (v := .tuple #[.agg #[.int .i64 0, .slice none 0 0, .slice none 0 0, .int .i64 0, .slice none 0 0, .int .i64 0], .int .i64 (ckProg V F c)]) (by simp [results, Tryz.results76, go_sem, r0, r1, r2, r3, r4, r5]) rfl ⟨rfl, ?_⟩
  exact (((((H1.setCell (by simp) _).setCell (by simp) _).setCell (by simp) _).setCell (by simp) _).setCell (by simp) _).setCell (by simp) _
set_option maxHeartbeats 1000000 in
set_option maxRecDepth 20000 in
theorem begin_ok (v : Nat) (F : Int) (s : Option Addr) (c : List Ins) (cap : Nat) (w : World) (hc : CodeAt w s c) (h0 : ckProg (v : Int) F c = 0) :
    Calls Tryz.prog 76 #[.agg #[.int .i64 v, .int .i64 F, .slice s c.length cap]] w fun e w' => ∃ g, e = .returned (.tuple #[.agg #[.int .i64 0, .slice (some ⟨g, 0, none⟩) v v, .slice none 0 0, .int .i64 0, .slice none 0 0, .int .i64 0], .int .i64 0]) ∧ w'.ownsRow w.heap.size 31 2 (.slice (some ⟨g, 0, none⟩) v v) v (madeCells (Value.agg #[.int .i64 0, .int .i64 0]).cells (v * 2)).toList ∧ Below w.heap.size w w' := by
  obtain ⟨ti, hi, hz0, hz1, hz2⟩ := info_parts info_val
  have h8 : v ≤ 8 := by have := (ckProg_each h0).1; omega
  have Z0 := ZRun.new (w.alloc (.cells #[.int .i64 (v : Int), .int .i64 F, .slice s c.length cap] 24))
  rw [World.size_alloc] at Z0
  have hb0 : Below w.heap.size w ((w.alloc (.cells #[.int .i64 (v : Int), .int .i64 F, .slice s c.length cap] 24)).alloc (.cells #[.int .i64 0, .slice none 0 0, .slice none 0 0, .int .i64 0, .slice none 0 0, .int .i64 0] 76)) := by go_grown
  have hC := codeCheck_any (v : Int) F s cap c _ (hc.below hb0 (Nat.le_refl _))
  rw [h0] at hC
  have pv : ∀ wx, Below ((w.alloc (.cells #[.int .i64 (v : Int), .int .i64 F, .slice s c.length cap] 24)).alloc (.cells #[.int .i64 0, .slice none 0 0, .slice none 0 0, .int .i64 0, .slice none 0 0, .int .i64 0] 76)).heap.size ((w.alloc (.cells #[.int .i64 (v : Int), .int .i64 F, .slice s c.length cap] 24)).alloc (.cells #[.int .i64 0, .slice none 0 0, .slice none 0 0, .int .i64 0, .slice none 0 0, .int .i64 0] 76)) wx → wx.cell? ⟨w.heap.size, 0, none⟩ = some (.int .i64 (v : Int)) := fun wx hx => by rw [hx.cell (by simp; omega)]; simp [go_sem]
  go_enter Tryz.func76, Tryz.ntmps76
  go_wp2_with (go_at_call 66; fail)
  refine hC.mono ?_
  rintro e w1 ⟨rfl, hb1⟩
  have H1 := hb0.trans (hb1.mono hb0.size)
  have p0 := pv w1 hb1
  have Z1 := Z0.call hb1
  have z1 : w.heap.size + 1 + 1 ≤ w1.heap.size := by have := hb1.size; simpa using this
  clear hC pv Z0 hb1 hb0
  go_wp2_with (refine wpList_make_full _ rfl _ _ 72 rfl (w.heap.size + 1 + 1) 31 ti (.agg #[.int .i64 0, .int .i64 0]) 2 Tryz.underlying72 hi hz0 hz1 .i64 .i64 (v : Int) (v : Int) v rfl rfl rfl rfl (by rw [hz2]; omega) (by unfold maxLen; omega) z1 ?_; intro wm hown hgrow; obtain ⟨r0, r1, r2, r3, r4, r5, rf, rz⟩ := ZRun.block Z1 (hgrow.block _ Z1.2.2.2.2.2.2.2 (fun e => by cases e)))
  have hbm : Below w.heap.size w wm := H1.grown hgrow H1.size (fun j hj => by cases hj)
  refine bodyPost_ret (v := .tuple #[.agg #[.int .i64 0, .slice (some ⟨w1.heap.size, 0, none⟩) v v, .slice none 0 0, .int .i64 0, .slice none 0 0, .int .i64 0], .int .i64 0]) (by simp [results, Tryz.results76, go_sem, r0, r1, r2, r3, r4, r5]) rfl ⟨_, rfl, ?_, ?_⟩
  · have hz : w.heap.size + 1 < w.heap.size + 1 + 1 := by omega
    exact ownsRow_lower (ownsRow_setCell_below (a := ⟨w.heap.size + 1, 5, none⟩) (ownsRow_setCell_below (a := ⟨w.heap.size + 1, 4, none⟩) (ownsRow_setCell_below (a := ⟨w.heap.size + 1, 3, none⟩) (ownsRow_setCell_below (a := ⟨w.heap.size + 1, 2, none⟩) (ownsRow_setCell_below (a := ⟨w.heap.size + 1, 1, none⟩) (ownsRow_setCell_below (a := ⟨w.heap.size + 1, 0, none⟩) hown hz _) hz _) hz _) hz _) hz _) hz _) (show w.heap.size ≤ w.heap.size + 1 + 1 by omega)
  · exact (((((hbm.setCell (by simp) _).setCell (by simp) _).setCell (by simp) _).setCell (by simp) _).setCell (by simp) _).setCell (by simp) _
end Go.Proofs.YtmapdpcfanecdaaGreat

namespace Go.Proofs.YtmapdpcfanecdaaGreat
set_option linter.unusedVariables false
set_option linter.unusedSimpArgs false
open Go.RowKit
attribute [local go_sem ↓] Go.wp_at_zero Go.wp_at_succ

theorem made_zero : ∀ f : Nat, f ≤ 8 → (madeCells (Value.agg #[.int .i64 0, .int .i64 0]).cells (f * 2)).toList = valCells (List.replicate f ⟨0, 0⟩)
  | 0, _ => by kernel_rfl
  | 1, _ => by kernel_rfl
  | 2, _ => by kernel_rfl
  | 3, _ => by kernel_rfl
  | 4, _ => by kernel_rfl
  | 5, _ => by kernel_rfl
  | 6, _ => by kernel_rfl
  | 7, _ => by kernel_rfl
  | 8, _ => by kernel_rfl
  | n + 9, h => absurd h (by omega)
end Go.Proofs.YtmapdpcfanecdaaGreat

namespace Go.Proofs.YtmapdpcfanecdaaGreat
set_option linter.unusedVariables false
set_option linter.unusedSimpArgs false
open Go.RowKit

/-- No run. -/
def zeroSt : St := ⟨0, [], [], 0, [], 0⟩
theorem zeroSt_at (w : World) : RunAt w zeroSt none none none := ⟨.inl rfl, .inl rfl, .inl rfl⟩
end Go.Proofs.YtmapdpcfanecdaaGreat

namespace Go.Proofs.YtmapdpcfanecdaaGreat
set_option linter.unusedVariables false
set_option linter.unusedSimpArgs false
open Go.RowKit

/-- A run, and the errno beside it. -/
def RunE (w' : World) (e : Ending) (st : St) (er : Int) : Prop := ∃ vs vc ts tc ls lc, e = .returned (.tuple #[.agg #[.int .i64 st.at_, .slice vs st.vars.length vc, .slice ts st.things.length tc, .int .i64 st.taken, .slice ls st.lines.length lc, .int .i64 st.fin], .int .i64 er]) ∧ RunAt w' st vs ts ls
def begOf (V F : Int) (c : List Ins) : St := if ckProg V F c = 0 then beginSt V else zeroSt
theorem beginU (V F : Int) (s : Option Addr) (c : List Ins) (cap : Nat) (w : World) (hc : CodeAt w s c) :
    Calls Tryz.prog 76 #[.agg #[.int .i64 V, .int .i64 F, .slice s c.length cap]] w fun e w' => RunE w' e (begOf V F c) (ckProg V F c) ∧ Below w.heap.size w w' := by
  unfold begOf
  by_cases h0 : ckProg V F c = 0
  · have hp := progOk_of h0
    have hv8 := hp.v8
    obtain ⟨v, rfl⟩ := Int.eq_ofNat_of_zero_le (show 0 ≤ V by have := hp.v1; omega)
    refine (begin_ok v F s c cap w hc h0).mono ?_
    rintro e w' ⟨g, rfl, hown, hb⟩
    rw [made_zero v (by omega)] at hown
    obtain ⟨vs, vc, ts, tc, ls, lc, e1, e2, e3, hat⟩ := (begin_rows (by omega) hown).at
    rw [h0, if_pos rfl]
    refine ⟨⟨vs, vc, ts, tc, ls, lc, ?_, hat⟩, hb⟩
    rw [← e1, ← e2, ← e3]
    rfl
  · refine (begin_err V F s c cap w hc h0).mono ?_
    rintro e w' ⟨rfl, hb⟩
    rw [if_neg h0]
    exact ⟨⟨none, 0, none, 0, none, 0, rfl, zeroSt_at _⟩, hb⟩
end Go.Proofs.YtmapdpcfanecdaaGreat
