/- Six cells in a block: a variable of type Run. -/
import Derived.Test.YtmapdpcfanecdaaGreatKpicyp01
import Derived.Deep.AppendLies
import Derived.Laws.OwnMore
import Derived.Deep.RegionHeld3
import Derived.Lib.QuietBelow
import Derived.BigQuiet
import Derived.Test.YtmapdpcfanecdaaGreatKpicyp05
import Derived.Deep.DrawnRows
import Derived.BigRegion
import Derived.Test.YtmapdpcfanecdaaGreatKpicyp09
import Derived.Test.YtmapdpcfanecdaaGreatKpicyp40
namespace Go.Proofs.YtmapdpcfanecdaaGreat
set_option linter.unusedVariables false
set_option linter.unusedSimpArgs false
open Go.RowKit

def valCells : List Val → List Value
  | [] => []
  | v :: r => .int .i64 v.k :: .int .i64 v.n :: valCells r

theorem valCells_length (l : List Val) : (valCells l).length = l.length * 2 := by
  induction l with
  | nil => rfl
  | cons v r ih => simp [valCells, ih]; omega

theorem valCells_k (l : List Val) : ∀ (i : Nat) (h : i < l.length), (valCells l)[i * 2]? = some (.int .i64 l[i].k) := by
  induction l with
  | nil => intro i h; simp at h
  | cons v r ih =>
    intro i h
    cases i with
    | zero => rfl
    | succ i => rw [show (i + 1) * 2 = i * 2 + 1 + 1 by omega]; simpa [valCells] using ih i (by simpa using h)

theorem valCells_n (l : List Val) : ∀ (i : Nat) (h : i < l.length), (valCells l)[i * 2 + 1]? = some (.int .i64 l[i].n) := by
  induction l with
  | nil => intro i h; simp at h
  | cons v r ih =>
    intro i h
    cases i with
    | zero => rfl
    | succ i => rw [show (i + 1) * 2 + 1 = (i * 2 + 1) + 1 + 1 by omega]; simpa [valCells] using ih i (by simpa using h)

/-- Values lie in a row of the call's own. -/
abbrev ValRow (w : World) (B : Nat) (v : Value) (l : List Val) : Prop := w.ownsRow B 31 2 v l.length (valCells l)

def thgCells : List Int → List Value → List Value
  | s :: ss, f :: fs => .int .i64 s :: f :: thgCells ss fs
  | _, _ => []

/-- A run in memory of the call's own, its six fields in block m: the values' row is vv, the things' tv, with fields' rows fv, the lines' lv. -/
structure OwnRun (w : World) (B m : Nat) (s : St) (vv tv lv : Value) (fv : List Value) : Prop where
  low : B ≤ m
  at_ : w.cell? ⟨m, 0, none⟩ = some (.int .i64 s.at_)
  vars_ : w.cell? ⟨m, 1, none⟩ = some vv
  things_ : w.cell? ⟨m, 2, none⟩ = some tv
  taken_ : w.cell? ⟨m, 3, none⟩ = some (.int .i64 s.taken)
  lines_ : w.cell? ⟨m, 4, none⟩ = some lv
  fin_ : w.cell? ⟨m, 5, none⟩ = some (.int .i64 s.fin)
  thaw : ∀ j, w.frozen? ⟨m, j, none⟩ = false
  vars : ValRow w B vv s.vars
  things : w.ownsRow B 118 2 tv s.things.length (thgCells (s.things.map (·.site)) fv)
  count : fv.length = s.things.length
  fields : ∀ i (h : i < s.things.length), ValRow w B (fv[i]'(by rw [count]; exact h)) (s.things[i].fs)
  lines : w.ownsRow B 9 1 lv s.lines.length (s.lines.map .string)
  apart : (some m :: vv.ownBlock :: tv.ownBlock :: lv.ownBlock :: fv.map Value.ownBlock).Pairwise fun a b => ∀ x, a = some x → b ≠ some x

theorem ownsRow_block_lt {w : World} {B : Nat} {e : TypeId} {z : Nat} {v : Value} {n : Nat} {xs : List Value} (h : w.ownsRow B e z v n xs) {k : Nat} (hk : v.ownBlock = some k) : k < w.heap.size ∧ B ≤ k := by
  rcases h.2 with ⟨rfl, _⟩ | ⟨g, cap, cur, rfl, hb, hg, _⟩
  · cases hk
  · cases hk
    exact ⟨(Array.getElem?_eq_some_iff.1 hg).1, hb⟩

end Go.Proofs.YtmapdpcfanecdaaGreat

namespace Go.Proofs.YtmapdpcfanecdaaGreat
set_option linter.unusedVariables false
set_option linter.unusedSimpArgs false
open Go.RowKit

set_option maxHeartbeats 400000 in
theorem truth_any (b : Bool) (w : World) :
    Calls Tryz.prog 153 #[.bool b] w fun e w' => e = .returned (.agg #[.int .i64 (truV b).k, .int .i64 (truV b).n]) ∧ Below w.heap.size w w' := by
  cases b
  all_goals
    go_enter Tryz.func153, Tryz.ntmps153
    go_wp2
    go_returns
    exact ⟨rfl, by go_grown⟩

end Go.Proofs.YtmapdpcfanecdaaGreat

namespace Go.Proofs.YtmapdpcfanecdaaGreat
set_option linter.unusedVariables false
set_option linter.unusedSimpArgs false
open Go.RowKit

section
variable {w w' w1 : World} {B m : Nat} {s : St} {vv tv lv : Value} {fv : List Value}

theorem thgCells_site : ∀ (ss : List Int) (fs : List Value) (_ : fs.length = ss.length) (i : Nat) (h : i < ss.length), (thgCells ss fs)[i * 2]? = some (.int .i64 ss[i])
  | [], _, _, _, h => by simp at h
  | _ :: _, [], h, _, _ => by simp at h
  | _ :: _, _ :: _, _, 0, _ => rfl
  | _ :: ss, _ :: fs, h, i + 1, hi => by
    rw [show (i + 1) * 2 = i * 2 + 1 + 1 by omega]
    simpa [thgCells] using thgCells_site ss fs (by simpa using h) i (by simpa using hi)
theorem thgCells_field : ∀ (ss : List Int) (fs : List Value) (_ : fs.length = ss.length) (i : Nat) (h : i < fs.length), (thgCells ss fs)[i * 2 + 1]? = some fs[i]
  | [], [], _, _, h => by simp at h
  | [], _ :: _, h, _, _ => by simp at h
  | _ :: _, [], h, _, _ => by simp at h
  | _ :: _, _ :: _, _, 0, _ => rfl
  | _ :: ss, _ :: fs, h, i + 1, hi => by
    rw [show (i + 1) * 2 + 1 = (i * 2 + 1) + 1 + 1 by omega]
    simpa [thgCells] using thgCells_field ss fs (by simpa using h) i (by simpa using hi)

end
end Go.Proofs.YtmapdpcfanecdaaGreat

namespace Go.Proofs.YtmapdpcfanecdaaGreat
set_option linter.unusedVariables false
set_option linter.unusedSimpArgs false
open Go.RowKit

/-- A run's rows, apart from one another. -/
structure OwnRows (w : World) (B : Nat) (s : St) (vv tv lv : Value) (fv : List Value) : Prop where
  vars : ValRow w B vv s.vars
  things : w.ownsRow B 118 2 tv s.things.length (thgCells (s.things.map (·.site)) fv)
  count : fv.length = s.things.length
  fields : ∀ i (h : i < s.things.length), ValRow w B (fv[i]'(by rw [count]; exact h)) (s.things[i].fs)
  lines : w.ownsRow B 9 1 lv s.lines.length (s.lines.map .string)
  apart : (vv.ownBlock :: tv.ownBlock :: lv.ownBlock :: fv.map Value.ownBlock).Pairwise fun a b => ∀ x, a = some x → b ≠ some x

section
variable {w w' : World} {B m : Nat} {s : St} {vv tv lv : Value} {fv : List Value}

theorem ValRow.at {v : Value} {l : List Val} (h : ValRow w B v l) : ∃ vs vc, v = .slice vs l.length vc ∧ ValsAt w vs l := by
  unfold ValRow at h
  rcases h.2 with ⟨hv, hn⟩ | ⟨g, cap, cur, hv, hb, hg, _⟩
  · exact ⟨none, 0, by rw [hv, hn], .inl (List.eq_nil_of_length_eq_zero hn)⟩
  · subst hv
    refine ⟨some ⟨g, 0, none⟩, cap, rfl, ?_⟩
    by_cases h0 : l = []
    · exact .inl h0
    · refine .inr ⟨g, 0, rfl, (Array.getElem?_eq_some_iff.1 hg).1, fun k hk => ?_⟩
      rw [Nat.zero_add, h.cellAt (k * 2) (by omega), h.cellAt (k * 2 + 1) (by omega)]
      exact ⟨valCells_k l k hk, valCells_n l k hk⟩
theorem StrRow.at {v : Value} {l : List ByteArray} (h : w.ownsRow B 9 1 v l.length (l.map .string)) : ∃ vs vc, v = .slice vs l.length vc ∧ StrsAt w vs l := by
  rcases h.2 with ⟨hv, hn⟩ | ⟨g, cap, cur, hv, hb, hg, _⟩
  · exact ⟨none, 0, by rw [hv, hn], .inl (List.eq_nil_of_length_eq_zero hn)⟩
  · subst hv
    refine ⟨some ⟨g, 0, none⟩, cap, rfl, ?_⟩
    by_cases h0 : l = []
    · exact .inl h0
    · refine .inr ⟨g, 0, rfl, (Array.getElem?_eq_some_iff.1 hg).1, fun k hk => ?_⟩
      rw [Nat.zero_add, h.cellAt k (by omega)]
      simp [hk]
theorem OwnRows.at (h : OwnRows w B s vv tv lv fv) : ∃ vs vc ts tc ls lc, vv = .slice vs s.vars.length vc ∧ tv = .slice ts s.things.length tc ∧ lv = .slice ls s.lines.length lc ∧ RunAt w s vs ts ls := by
  obtain ⟨vs, vc, e1, h1⟩ := ValRow.at h.vars
  obtain ⟨ls, lc, e3, h3⟩ := StrRow.at h.lines
  have ht := h.things
  rcases ht.2 with ⟨hv, hn⟩ | ⟨g, cap, cur, hv, hb, hg, _⟩
  · exact ⟨vs, vc, none, 0, ls, lc, e1, by rw [hv, hn], e3, h1, .inl (List.eq_nil_of_length_eq_zero hn), h3⟩
  · subst hv
    refine ⟨vs, vc, some ⟨g, 0, none⟩, cap, ls, lc, e1, rfl, e3, h1, ?_, h3⟩
    by_cases h0 : s.things = []
    · exact .inl h0
    · refine .inr ⟨g, 0, rfl, (Array.getElem?_eq_some_iff.1 hg).1, fun k hk => ?_⟩
      obtain ⟨f, fc, e, hf⟩ := ValRow.at (h.fields k hk)
      rw [Nat.zero_add, ht.cellAt (k * 2) (by omega), ht.cellAt (k * 2 + 1) (by omega)]
      refine ⟨?_, f, fc, ?_, hf⟩
      · rw [thgCells_site _ _ (by simp [h.count]) k (by simpa using hk)]
        simp
      · rw [thgCells_field _ _ (by simp [h.count]) k (by rw [h.count]; exact hk), e]
end
end Go.Proofs.YtmapdpcfanecdaaGreat

namespace Go.Proofs.YtmapdpcfanecdaaGreat
set_option linter.unusedVariables false
set_option linter.unusedSimpArgs false
open Go.RowKit
attribute [local go_sem ↓] Go.wp_at_zero Go.wp_at_succ
theorem hideK {p : Prop} (h : p) : Hid p := h

end Go.Proofs.YtmapdpcfanecdaaGreat

namespace Go.Proofs.YtmapdpcfanecdaaGreat
set_option linter.unusedVariables false
set_option linter.unusedSimpArgs false
open Go.RowKit

def R6 (w : World) (b : Nat) (x0 x1 x2 x3 x4 x5 : Value) : Prop := (w.cell? ⟨b, 0, none⟩ = some x0 ∧ w.cell? ⟨b, 1, none⟩ = some x1 ∧ w.cell? ⟨b, 2, none⟩ = some x2 ∧ w.cell? ⟨b, 3, none⟩ = some x3 ∧ w.cell? ⟨b, 4, none⟩ = some x4 ∧ w.cell? ⟨b, 5, none⟩ = some x5) ∧ b < w.heap.size ∧ ∀ j, w.frozen? ⟨b, j, none⟩ = false
abbrev set6 (w : World) (b : Nat) (y0 y1 y2 y3 y4 y5 : Value) : World := (((((w.setCell ⟨b, 0, none⟩ y0).setCell ⟨b, 1, none⟩ y1).setCell ⟨b, 2, none⟩ y2).setCell ⟨b, 3, none⟩ y3).setCell ⟨b, 4, none⟩ y4).setCell ⟨b, 5, none⟩ y5
section
variable {w w' : World} {B b : Nat} {x0 x1 x2 x3 x4 x5 : Value}
theorem R6.same (h : R6 w b x0 x1 x2 x3 x4 x5) (hb : w'.heap[b]? = w.heap[b]?) (hz : w.heap.size ≤ w'.heap.size) : R6 w' b x0 x1 x2 x3 x4 x5 := by
  have hc : ∀ j, w'.cell? ⟨b, j, none⟩ = w.cell? ⟨b, j, none⟩ := fun j => World.cell?_of_block (a := ⟨b, j, none⟩) hb
  have hf : ∀ j, w'.frozen? ⟨b, j, none⟩ = w.frozen? ⟨b, j, none⟩ := fun j => World.frozen?_of_block (a := ⟨b, j, none⟩) hb
  obtain ⟨⟨h0, h1, h2, h3, h4, h5⟩, h6, h7⟩ := h
  exact ⟨⟨(hc _).trans h0, (hc _).trans h1, (hc _).trans h2, (hc _).trans h3, (hc _).trans h4, (hc _).trans h5⟩, Nat.lt_of_lt_of_le h6 hz, fun j => (hf j).trans (h7 j)⟩
theorem R6.below (h : R6 w b x0 x1 x2 x3 x4 x5) (hb : Below B w w') (hB : b < B) : R6 w' b x0 x1 x2 x3 x4 x5 := h.same (hb.block b hB) hb.size
theorem R6.call (h : R6 w b x0 x1 x2 x3 x4 x5) (hb : Below w.heap.size w w') : R6 w' b x0 x1 x2 x3 x4 x5 := h.below hb h.2.1
theorem R6.new (w : World) (t : TypeId) (x0 x1 x2 x3 x4 x5 : Value) : R6 (w.alloc (.cells #[x0, x1, x2, x3, x4, x5] t)) w.heap.size x0 x1 x2 x3 x4 x5 := by
  refine ⟨⟨?_, ?_, ?_, ?_, ?_, ?_⟩, by simp, fun j => ?_⟩ <;> simp [go_sem]
/-- A run's beginning, its row just made. -/
theorem begin_rows {v g : Nat} (h8 : v ≤ 8) (h : w.ownsRow B 31 2 (.slice (some ⟨g, 0, none⟩) v v) v (valCells (List.replicate v ⟨0, 0⟩))) : OwnRows w B (beginSt v) (.slice (some ⟨g, 0, none⟩) v v) (.slice none 0 0) (.slice none 0 0) [] := by
  refine ⟨?_, World.ownsRow_nil _ _ _ _, rfl, fun i hi => by simp [beginSt] at hi, World.ownsRow_nil _ _ _ _, by simp [Value.ownBlock]⟩
  unfold ValRow
  simpa [beginSt] using h
end
end Go.Proofs.YtmapdpcfanecdaaGreat
