/- Walks over package run: what the machine does, kind by kind. -/
import Derived.Test.YtmapdpcfanecdaaGreatKpicxp01
import Derived.Deep.AppendLies
import Derived.Laws.OwnMore
import Derived.Deep.RegionHeld3
import Derived.Lib.QuietBelow
import Derived.BigQuiet
import Derived.Test.YtmapdpcfanecdaaGreatKpicxp47
import Derived.Deep.DrawnRows
import Derived.BigRegion
import Derived.Test.YtmapdpcfanecdaaGreatKpicxp07
namespace Go.Proofs.YtmapdpcfanecdaaGreat
set_option linter.unusedVariables false
set_option linter.unusedSimpArgs false
open Go.RowKit

def valCells : List Val → List Value
  | [] => []
  | v :: r => .int .i64 v.k :: .int .i64 v.n :: valCells r

theorem valCells_k (l : List Val) : ∀ (i : Nat) (h : i < l.length), (valCells l)[i * 2]? = some (.int .i64 l[i].k) := by
  induction l with
  | nil => intro i h; simp at h
  | cons v r ih =>
    intro i h
    cases i with
    | zero => rfl
    | succ i => rw [show (i + 1) * 2 = i * 2 + 1 + 1 by omega]; simpa [valCells] using ih i (by simpa using h)

theorem valCells_n (l : List Val) : ∀ (i : Nat) (h : i < l.length), (valCells l)[i * 2 + 1]? = some (.int .i64 l[i].n) := by
  induction l with
  | nil => intro i h; simp at h
  | cons v r ih =>
    intro i h
    cases i with
    | zero => rfl
    | succ i => rw [show (i + 1) * 2 + 1 = (i * 2 + 1) + 1 + 1 by omega]; simpa [valCells] using ih i (by simpa using h)

end Go.Proofs.YtmapdpcfanecdaaGreat

namespace Go.Proofs.YtmapdpcfanecdaaGreat
set_option linter.unusedVariables false
set_option linter.unusedSimpArgs false
open Go.RowKit

set_option maxHeartbeats 400000 in
theorem truth_any (b : Bool) (w : World) :
    Calls Tryz.prog 153 #[.bool b] w fun e w' => e = .returned (.agg #[.int .i64 (truV b).k, .int .i64 (truV b).n]) ∧ Below w.heap.size w w' := by
  cases b
  all_goals
    go_enter Tryz.func153, Tryz.ntmps153
    go_wp2
    go_returns
    exact ⟨rfl, by go_grown⟩

end Go.Proofs.YtmapdpcfanecdaaGreat

namespace Go.Proofs.YtmapdpcfanecdaaGreat
set_option linter.unusedVariables false
set_option linter.unusedSimpArgs false
open Go.RowKit

section
variable {w w' w1 : World} {B m : Nat} {s : St} {vv tv lv : Value} {fv : List Value}

theorem thgCells_site : ∀ (ss : List Int) (fs : List Value) (_ : fs.length = ss.length) (i : Nat) (h : i < ss.length), (thgCells ss fs)[i * 2]? = some (.int .i64 ss[i])
  | [], _, _, _, h => by simp at h
  | _ :: _, [], h, _, _ => by simp at h
  | _ :: _, _ :: _, _, 0, _ => rfl
  | _ :: ss, _ :: fs, h, i + 1, hi => by
    rw [show (i + 1) * 2 = i * 2 + 1 + 1 by omega]
    simpa [thgCells] using thgCells_site ss fs (by simpa using h) i (by simpa using hi)
theorem thgCells_field : ∀ (ss : List Int) (fs : List Value) (_ : fs.length = ss.length) (i : Nat) (h : i < fs.length), (thgCells ss fs)[i * 2 + 1]? = some fs[i]
  | [], [], _, _, h => by simp at h
  | [], _ :: _, h, _, _ => by simp at h
  | _ :: _, [], h, _, _ => by simp at h
  | _ :: _, _ :: _, _, 0, _ => rfl
  | _ :: ss, _ :: fs, h, i + 1, hi => by
    rw [show (i + 1) * 2 + 1 = (i * 2 + 1) + 1 + 1 by omega]
    simpa [thgCells] using thgCells_field ss fs (by simpa using h) i (by simpa using hi)

end
end Go.Proofs.YtmapdpcfanecdaaGreat

namespace Go.Proofs.YtmapdpcfanecdaaGreat
set_option linter.unusedVariables false
set_option linter.unusedSimpArgs false
open Go.RowKit

theorem ValRow.at {v : Value} {l : List Val} (h : ValRow w B v l) : ∃ vs vc, v = .slice vs l.length vc ∧ ValsAt w vs l := by
  unfold ValRow at h
  rcases h.2 with ⟨hv, hn⟩ | ⟨g, cap, cur, hv, hb, hg, _⟩
  · exact ⟨none, 0, by rw [hv, hn], .inl (List.eq_nil_of_length_eq_zero hn)⟩
  · subst hv
    refine ⟨some ⟨g, 0, none⟩, cap, rfl, ?_⟩
    by_cases h0 : l = []
    · exact .inl h0
    · refine .inr ⟨g, 0, rfl, (Array.getElem?_eq_some_iff.1 hg).1, fun k hk => ?_⟩
      rw [Nat.zero_add, h.cellAt (k * 2) (by omega), h.cellAt (k * 2 + 1) (by omega)]
      exact ⟨valCells_k l k hk, valCells_n l k hk⟩
theorem StrRow.at {v : Value} {l : List ByteArray} (h : w.ownsRow B 9 1 v l.length (l.map .string)) : ∃ vs vc, v = .slice vs l.length vc ∧ StrsAt w vs l := by
  rcases h.2 with ⟨hv, hn⟩ | ⟨g, cap, cur, hv, hb, hg, _⟩
  · exact ⟨none, 0, by rw [hv, hn], .inl (List.eq_nil_of_length_eq_zero hn)⟩
  · subst hv
    refine ⟨some ⟨g, 0, none⟩, cap, rfl, ?_⟩
    by_cases h0 : l = []
    · exact .inl h0
    · refine .inr ⟨g, 0, rfl, (Array.getElem?_eq_some_iff.1 hg).1, fun k hk => ?_⟩
      rw [Nat.zero_add, h.cellAt k (by omega)]
      simp [hk]
theorem OwnRows.at (h : OwnRows w B s vv tv lv fv) : ∃ vs vc ts tc ls lc, vv = .slice vs s.vars.length vc ∧ tv = .slice ts s.things.length tc ∧ lv = .slice ls s.lines.length lc ∧ RunAt w s vs ts ls := by
  obtain ⟨vs, vc, e1, h1⟩ := ValRow.at h.vars
  obtain ⟨ls, lc, e3, h3⟩ := StrRow.at h.lines
  have ht := h.things
  rcases ht.2 with ⟨hv, hn⟩ | ⟨g, cap, cur, hv, hb, hg, _⟩
  · exact ⟨vs, vc, none, 0, ls, lc, e1, by rw [hv, hn], e3, h1, .inl (List.eq_nil_of_length_eq_zero hn), h3⟩
  · subst hv
    refine ⟨vs, vc, some ⟨g, 0, none⟩, cap, ls, lc, e1, rfl, e3, h1, ?_, h3⟩
    by_cases h0 : s.things = []
    · exact .inl h0
    · refine .inr ⟨g, 0, rfl, (Array.getElem?_eq_some_iff.1 hg).1, fun k hk => ?_⟩
      obtain ⟨f, fc, e, hf⟩ := ValRow.at (h.fields k hk)
      rw [Nat.zero_add, ht.cellAt (k * 2) (by omega), ht.cellAt (k * 2 + 1) (by omega)]
      refine ⟨?_, f, fc, ?_, hf⟩
      · rw [thgCells_site _ _ (by simp [h.count]) k (by simpa using hk)]
        simp
      · rw [thgCells_field _ _ (by simp [h.count]) k (by rw [h.count]; exact hk), e]
end Go.Proofs.YtmapdpcfanecdaaGreat

namespace Go.Proofs.YtmapdpcfanecdaaGreat
set_option linter.unusedVariables false
set_option linter.unusedSimpArgs false
open Go.RowKit
attribute [local go_sem ↓] Go.wp_at_zero Go.wp_at_succ
theorem hideK {p : Prop} (h : p) : Hid p := h

end Go.Proofs.YtmapdpcfanecdaaGreat

namespace Go.Proofs.YtmapdpcfanecdaaGreat
set_option linter.unusedVariables false
set_option linter.unusedSimpArgs false
open Go.RowKit

def R6 (w : World) (b : Nat) (x0 x1 x2 x3 x4 x5 : Value) : Prop := (w.cell? ⟨b, 0, none⟩ = some x0 ∧ w.cell? ⟨b, 1, none⟩ = some x1 ∧ w.cell? ⟨b, 2, none⟩ = some x2 ∧ w.cell? ⟨b, 3, none⟩ = some x3 ∧ w.cell? ⟨b, 4, none⟩ = some x4 ∧ w.cell? ⟨b, 5, none⟩ = some x5) ∧ b < w.heap.size ∧ ∀ j, w.frozen? ⟨b, j, none⟩ = false
abbrev set6 (w : World) (b : Nat) (y0 y1 y2 y3 y4 y5 : Value) : World := (((((w.setCell ⟨b, 0, none⟩ y0).setCell ⟨b, 1, none⟩ y1).setCell ⟨b, 2, none⟩ y2).setCell ⟨b, 3, none⟩ y3).setCell ⟨b, 4, none⟩ y4).setCell ⟨b, 5, none⟩ y5
section
variable {w w' : World} {B b : Nat} {x0 x1 x2 x3 x4 x5 : Value}
theorem R6.same (h : R6 w b x0 x1 x2 x3 x4 x5) (hb : w'.heap[b]? = w.heap[b]?) (hz : w.heap.size ≤ w'.heap.size) : R6 w' b x0 x1 x2 x3 x4 x5 := by
  have hc : ∀ j, w'.cell? ⟨b, j, none⟩ = w.cell? ⟨b, j, none⟩ := fun j => World.cell?_of_block (a := ⟨b, j, none⟩) hb
  have hf : ∀ j, w'.frozen? ⟨b, j, none⟩ = w.frozen? ⟨b, j, none⟩ := fun j => World.frozen?_of_block (a := ⟨b, j, none⟩) hb
  obtain ⟨⟨h0, h1, h2, h3, h4, h5⟩, h6, h7⟩ := h
  exact ⟨⟨(hc _).trans h0, (hc _).trans h1, (hc _).trans h2, (hc _).trans h3, (hc _).trans h4, (hc _).trans h5⟩, Nat.lt_of_lt_of_le h6 hz, fun j => (hf j).trans (h7 j)⟩
theorem R6.below (h : R6 w b x0 x1 x2 x3 x4 x5) (hb : Below B w w') (hB : b < B) : R6 w' b x0 x1 x2 x3 x4 x5 := h.same (hb.block b hB) hb.size
theorem R6.call (h : R6 w b x0 x1 x2 x3 x4 x5) (hb : Below w.heap.size w w') : R6 w' b x0 x1 x2 x3 x4 x5 := h.below hb h.2.1
theorem R6.new (w : World) (t : TypeId) (x0 x1 x2 x3 x4 x5 : Value) : R6 (w.alloc (.cells #[x0, x1, x2, x3, x4, x5] t)) w.heap.size x0 x1 x2 x3 x4 x5 := by
  refine ⟨⟨?_, ?_, ?_, ?_, ?_, ?_⟩, by simp, fun j => ?_⟩ <;> simp [go_sem]
/-- A run's beginning, its row just made. -/
theorem begin_rows {v g : Nat} (h8 : v ≤ 8) (h : w.ownsRow B 31 2 (.slice (some ⟨g, 0, none⟩) v v) v (valCells (List.replicate v ⟨0, 0⟩))) : OwnRows w B (beginSt v) (.slice (some ⟨g, 0, none⟩) v v) (.slice none 0 0) (.slice none 0 0) [] := by
  refine ⟨?_, World.ownsRow_nil _ _ _ _, rfl, fun i hi => by simp [beginSt] at hi, World.ownsRow_nil _ _ _ _, by simp [Value.ownBlock]⟩
  unfold ValRow
  simpa [beginSt] using h
end
end Go.Proofs.YtmapdpcfanecdaaGreat

namespace Go.Proofs.YtmapdpcfanecdaaGreat
set_option linter.unusedVariables false
set_option linter.unusedSimpArgs false
open Go.RowKit
attribute [local go_sem ↓] Go.wp_at_zero Go.wp_at_succ

theorem any_drop_stepR {α : Type} (l : List α) (p : α → Bool) (k : Nat) (h : k < l.length) : (l.drop k).any p = (p l[k] || (l.drop (k + 1)).any p) := by
  rw [List.drop_eq_getElem_cons h]
  rfl
/-- A program lies in a block. -/
def P3 (w : World) (b : Nat) (V F : Int) (s : Option Addr) (n cap : Nat) : Prop := (w.cell? ⟨b, 0, none⟩ = some (.int .i64 V) ∧ w.cell? ⟨b, 1, none⟩ = some (.int .i64 F) ∧ w.cell? ⟨b, 2, none⟩ = some (.slice s n cap)) ∧ b < w.heap.size
theorem P3.new (w : World) (V F : Int) (s : Option Addr) (n cap : Nat) : P3 (w.alloc (.cells #[.int .i64 V, .int .i64 F, .slice s n cap] 24)) w.heap.size V F s n cap := by
  refine ⟨⟨?_, ?_, ?_⟩, ?_⟩ <;> simp [go_sem]
theorem P3.below {w w' : World} {B b : Nat} {V F : Int} {s : Option Addr} {n cap : Nat} (h : P3 w b V F s n cap) (hb : Below B w w') (hB : b < B) : P3 w' b V F s n cap := by
  obtain ⟨⟨h0, h1, h2⟩, hz⟩ := h
  exact ⟨⟨by rw [hb.cell hB]; exact h0, by rw [hb.cell hB]; exact h1, by rw [hb.cell hB]; exact h2⟩, Nat.lt_of_lt_of_le hz hb.size⟩
theorem P3.call {w w' : World} {b : Nat} {V F : Int} {s : Option Addr} {n cap : Nat} (h : P3 w b V F s n cap) (hb : Below w.heap.size w w') : P3 w' b V F s n cap := h.below hb h.2

set_option maxHeartbeats 1000000 in
set_option maxRecDepth 10000 in
theorem indexFunc_bad (q : Nat) (p : Val → Bool) (ss : Option Addr) (cap : Nat) (l : List Val) (w : World) (hl : l.length ≤ 9223372036854775807) (hs : ValsAt w ss l) (hF : ∀ (x : Val) (wx : World), Below w.heap.size w wx → Calls Tryz.prog 141 #[.agg #[.int .i64 x.k, .int .i64 x.n], .pointer (some ⟨q, 0, none⟩)] wx fun e w' => e = .returned (.bool (p x)) ∧ Below wx.heap.size wx w') :
    Calls Tryz.prog 154 #[.slice ss l.length cap, .func (.func 141) #[] #[.pointer (some ⟨q, 0, none⟩)]] w fun e w' => ∃ n : Int, e = .returned (.int .i64 n) ∧ decide (0 ≤ n) = l.any p ∧ Below w.heap.size w w' := by
  have HF := hideK hF
  clear hF
  go_enter Tryz.func154, Tryz.ntmps154
  go_wp2
  go_loopw [8] (fun i wr => ∃ k : Nat, k ≤ l.length ∧ i = .int .i64 k ∧ Below w.heap.size w wr ∧ Hid (l.any p = (l.drop k).any p)) (fun i _ => l.length - (intOf i).toNat)
  case atStart => exact ⟨0, Nat.zero_le _, rfl, Below.refl _ _, rfl⟩
  case round =>
    obtain ⟨k, hk, rfl, hbr, HA⟩ := hrel
    by_cases hlt : k < l.length
    · rcases hs with hs | ⟨b, off, rfl, hb, hc⟩
      · rw [hs] at hlt; simp at hlt
      have n0 : (0 : Int) ≤ (k : Int) := by omega
      have n1 : (k : Int) < (l.length : Int) := by omega
      have s0 := hbr.size
      obtain ⟨c0, c1⟩ := hc k hlt
      have c0 : wr.cell? ⟨b, off + k * 2, none⟩ = some (.int .i64 l[k].k) := by rw [hbr.cell (by simpa using hb)]; exact c0
      have c1 : wr.cell? ⟨b, off + k * 2 + 1, none⟩ = some (.int .i64 l[k].n) := by rw [hbr.cell (by simpa using hb)]; exact c1
      have HN : Hid ((l.drop k).any p = (p l[k] || (l.drop (k + 1)).any p)) := any_drop_stepR l p k hlt
      clear hc
      go_wp2_with (go_at_call 141; fail)
      refine (HF.out _ _ hbr).mono ?_
      rintro e w1 ⟨rfl, hb1⟩
      cases hp : p l[k] with
      | true =>
        have HT : Hid (l.any p = true) := by show _ = _; rw [HA.out, HN.out, hp]; rfl
        clear HN HA
        go_wp2
        go_ret
        exact ⟨_, rfl, by rw [HT.out]; simp, hbr.trans (hb1.mono s0)⟩
      | false =>
        have HT : Hid (l.any p = (l.drop (k + 1)).any p) := by show _ = _; rw [HA.out, HN.out, hp]; rfl
        clear HN HA
        go_wp2
        go_roundw
        case rel => exact ⟨k + 1, by omega, by go_num, hbr.trans (hb1.mono s0), HT⟩
        case measure => simp [intOf]; omega
    · go_wp2
      go_ret
      exact ⟨_, rfl, by rw [HA.out, List.drop_eq_nil_of_le (by omega)]; rfl, hbr⟩

set_option maxHeartbeats 1000000 in
theorem containsFunc_bad (q : Nat) (p : Val → Bool) (ss : Option Addr) (cap : Nat) (l : List Val) (w : World) (hl : l.length ≤ 9223372036854775807) (hs : ValsAt w ss l) (hF : ∀ (x : Val) (wx : World), Below w.heap.size w wx → Calls Tryz.prog 141 #[.agg #[.int .i64 x.k, .int .i64 x.n], .pointer (some ⟨q, 0, none⟩)] wx fun e w' => e = .returned (.bool (p x)) ∧ Below wx.heap.size wx w') :
    Calls Tryz.prog 144 #[.slice ss l.length cap, .func (.func 141) #[] #[.pointer (some ⟨q, 0, none⟩)]] w fun e w' => e = .returned (.bool (l.any p)) ∧ Below w.heap.size w w' := by
  have HF := hideK hF
  clear hF
  go_enter Tryz.func144, Tryz.ntmps144
  go_wp2_with (go_at_call 154; fail)
  refine (indexFunc_bad q p ss cap l _ hl hs HF.out).mono ?_
  rintro e w1 ⟨n, rfl, hn, hb1⟩
  go_wp2
  go_ret
  exact ⟨ret_bool (by rw [← hn]), hb1⟩

set_option maxHeartbeats 1000000 in
set_option maxRecDepth 10000 in
theorem indexFunc_homeless (q : Nat) (p : Thg → Bool) (ss : Option Addr) (cap : Nat) (l : List Thg) (w : World) (hl : l.length ≤ 9223372036854775807) (hs : ThgsAt w ss l) (hF : ∀ (x : Thg) (f : Option Addr) (fc : Nat) (wx : World), x ∈ l → Below w.heap.size w wx → ValsAt wx f x.fs → Calls Tryz.prog 139 #[.agg #[.int .i64 x.site, .slice f x.fs.length fc], .pointer (some ⟨q, 0, none⟩)] wx fun e w' => e = .returned (.bool (p x)) ∧ Below wx.heap.size wx w') :
    Calls Tryz.prog 155 #[.slice ss l.length cap, .func (.func 139) #[] #[.pointer (some ⟨q, 0, none⟩)]] w fun e w' => ∃ n : Int, e = .returned (.int .i64 n) ∧ decide (0 ≤ n) = l.any p ∧ Below w.heap.size w w' := by
  have HF := hideK hF
  clear hF
  go_enter Tryz.func155, Tryz.ntmps155
  go_wp2
  go_loopw [8] (fun i wr => ∃ k : Nat, k ≤ l.length ∧ i = .int .i64 k ∧ Below w.heap.size w wr ∧ Hid (l.any p = (l.drop k).any p)) (fun i _ => l.length - (intOf i).toNat)
  case atStart => exact ⟨0, Nat.zero_le _, rfl, Below.refl _ _, rfl⟩
  case round =>
    obtain ⟨k, hk, rfl, hbr, HA⟩ := hrel
    by_cases hlt : k < l.length
    · rcases hs with hs | ⟨b, off, rfl, hb, hc⟩
      · rw [hs] at hlt; simp at hlt
      have n0 : (0 : Int) ≤ (k : Int) := by omega
      have n1 : (k : Int) < (l.length : Int) := by omega
      have s0 := hbr.size
      obtain ⟨c0, f, fc, c1, hv⟩ := hc k hlt
      have c0 : wr.cell? ⟨b, off + k * 2, none⟩ = some (.int .i64 l[k].site) := by rw [hbr.cell (by simpa using hb)]; exact c0
      have c1 : wr.cell? ⟨b, off + k * 2 + 1, none⟩ = some (.slice f l[k].fs.length fc) := by rw [hbr.cell (by simpa using hb)]; exact c1
      have hv' := hv.below hbr (Nat.le_refl _)
      have HN : Hid ((l.drop k).any p = (p l[k] || (l.drop (k + 1)).any p)) := any_drop_stepR l p k hlt
      clear hc
      go_wp2_with (go_at_call 139; fail)
      refine (HF.out _ _ _ _ (List.getElem_mem hlt) hbr hv').mono ?_
      rintro e w1 ⟨rfl, hb1⟩
      cases hp : p l[k] with
      | true =>
        have HT : Hid (l.any p = true) := by show _ = _; rw [HA.out, HN.out, hp]; rfl
        clear HN HA
        go_wp2
        go_ret
        exact ⟨_, rfl, by rw [HT.out]; simp, hbr.trans (hb1.mono s0)⟩
      | false =>
        have HT : Hid (l.any p = (l.drop (k + 1)).any p) := by show _ = _; rw [HA.out, HN.out, hp]; rfl
        clear HN HA
        go_wp2
        go_roundw
        case rel => exact ⟨k + 1, by omega, by go_num, hbr.trans (hb1.mono s0), HT⟩
        case measure => simp [intOf]; omega
    · go_wp2
      go_ret
      exact ⟨_, rfl, by rw [HA.out, List.drop_eq_nil_of_le (by omega)]; rfl, hbr⟩

set_option maxHeartbeats 1000000 in
theorem containsFunc_homeless (q : Nat) (p : Thg → Bool) (ss : Option Addr) (cap : Nat) (l : List Thg) (w : World) (hl : l.length ≤ 9223372036854775807) (hs : ThgsAt w ss l) (hF : ∀ (x : Thg) (f : Option Addr) (fc : Nat) (wx : World), x ∈ l → Below w.heap.size w wx → ValsAt wx f x.fs → Calls Tryz.prog 139 #[.agg #[.int .i64 x.site, .slice f x.fs.length fc], .pointer (some ⟨q, 0, none⟩)] wx fun e w' => e = .returned (.bool (p x)) ∧ Below wx.heap.size wx w') :
    Calls Tryz.prog 145 #[.slice ss l.length cap, .func (.func 139) #[] #[.pointer (some ⟨q, 0, none⟩)]] w fun e w' => e = .returned (.bool (l.any p)) ∧ Below w.heap.size w w' := by
  have HF := hideK hF
  clear hF
  go_enter Tryz.func145, Tryz.ntmps145
  go_wp2_with (go_at_call 155; fail)
  refine (indexFunc_homeless q p ss cap l _ hl hs HF.out).mono ?_
  rintro e w1 ⟨n, rfl, hn, hb1⟩
  go_wp2
  go_ret
  exact ⟨ret_bool (by rw [← hn]), hb1⟩

set_option maxHeartbeats 1000000 in
set_option maxRecDepth 10000 in
theorem indexFunc_misshapen (q : Nat) (p : Thg → Bool) (ss : Option Addr) (cap : Nat) (l : List Thg) (w : World) (hl : l.length ≤ 9223372036854775807) (hs : ThgsAt w ss l) (hF : ∀ (x : Thg) (f : Option Addr) (fc : Nat) (wx : World), x ∈ l → Below w.heap.size w wx → ValsAt wx f x.fs → Calls Tryz.prog 140 #[.agg #[.int .i64 x.site, .slice f x.fs.length fc], .pointer (some ⟨q, 0, none⟩)] wx fun e w' => e = .returned (.bool (p x)) ∧ Below wx.heap.size wx w') :
    Calls Tryz.prog 155 #[.slice ss l.length cap, .func (.func 140) #[] #[.pointer (some ⟨q, 0, none⟩)]] w fun e w' => ∃ n : Int, e = .returned (.int .i64 n) ∧ decide (0 ≤ n) = l.any p ∧ Below w.heap.size w w' := by
  have HF := hideK hF
  clear hF
  go_enter Tryz.func155, Tryz.ntmps155
  go_wp2
  go_loopw [8] (fun i wr => ∃ k : Nat, k ≤ l.length ∧ i = .int .i64 k ∧ Below w.heap.size w wr ∧ Hid (l.any p = (l.drop k).any p)) (fun i _ => l.length - (intOf i).toNat)
  case atStart => exact ⟨0, Nat.zero_le _, rfl, Below.refl _ _, rfl⟩
  case round =>
    obtain ⟨k, hk, rfl, hbr, HA⟩ := hrel
    by_cases hlt : k < l.length
    · rcases hs with hs | ⟨b, off, rfl, hb, hc⟩
      · rw [hs] at hlt; simp at hlt
      have n0 : (0 : Int) ≤ (k : Int) := by omega
      have n1 : (k : Int) < (l.length : Int) := by omega
      have s0 := hbr.size
      obtain ⟨c0, f, fc, c1, hv⟩ := hc k hlt
      have c0 : wr.cell? ⟨b, off + k * 2, none⟩ = some (.int .i64 l[k].site) := by rw [hbr.cell (by simpa using hb)]; exact c0
      have c1 : wr.cell? ⟨b, off + k * 2 + 1, none⟩ = some (.slice f l[k].fs.length fc) := by rw [hbr.cell (by simpa using hb)]; exact c1
      have hv' := hv.below hbr (Nat.le_refl _)
      have HN : Hid ((l.drop k).any p = (p l[k] || (l.drop (k + 1)).any p)) := any_drop_stepR l p k hlt
      clear hc
      go_wp2_with (go_at_call 140; fail)
      refine (HF.out _ _ _ _ (List.getElem_mem hlt) hbr hv').mono ?_
      rintro e w1 ⟨rfl, hb1⟩
      cases hp : p l[k] with
      | true =>
        have HT : Hid (l.any p = true) := by show _ = _; rw [HA.out, HN.out, hp]; rfl
        clear HN HA
        go_wp2
        go_ret
        exact ⟨_, rfl, by rw [HT.out]; simp, hbr.trans (hb1.mono s0)⟩
      | false =>
        have HT : Hid (l.any p = (l.drop (k + 1)).any p) := by show _ = _; rw [HA.out, HN.out, hp]; rfl
        clear HN HA
        go_wp2
        go_roundw
        case rel => exact ⟨k + 1, by omega, by go_num, hbr.trans (hb1.mono s0), HT⟩
        case measure => simp [intOf]; omega
    · go_wp2
      go_ret
      exact ⟨_, rfl, by rw [HA.out, List.drop_eq_nil_of_le (by omega)]; rfl, hbr⟩

set_option maxHeartbeats 1000000 in
theorem containsFunc_misshapen (q : Nat) (p : Thg → Bool) (ss : Option Addr) (cap : Nat) (l : List Thg) (w : World) (hl : l.length ≤ 9223372036854775807) (hs : ThgsAt w ss l) (hF : ∀ (x : Thg) (f : Option Addr) (fc : Nat) (wx : World), x ∈ l → Below w.heap.size w wx → ValsAt wx f x.fs → Calls Tryz.prog 140 #[.agg #[.int .i64 x.site, .slice f x.fs.length fc], .pointer (some ⟨q, 0, none⟩)] wx fun e w' => e = .returned (.bool (p x)) ∧ Below wx.heap.size wx w') :
    Calls Tryz.prog 145 #[.slice ss l.length cap, .func (.func 140) #[] #[.pointer (some ⟨q, 0, none⟩)]] w fun e w' => e = .returned (.bool (l.any p)) ∧ Below w.heap.size w w' := by
  have HF := hideK hF
  clear hF
  go_enter Tryz.func145, Tryz.ntmps145
  go_wp2_with (go_at_call 155; fail)
  refine (indexFunc_misshapen q p ss cap l _ hl hs HF.out).mono ?_
  rintro e w1 ⟨n, rfl, hn, hb1⟩
  go_wp2
  go_ret
  exact ⟨ret_bool (by rw [← hn]), hb1⟩

set_option maxHeartbeats 1000000 in
set_option maxRecDepth 10000 in
theorem indexFunc_holdsBad (q : Nat) (p : Thg → Bool) (ss : Option Addr) (cap : Nat) (l : List Thg) (w : World) (hl : l.length ≤ 9223372036854775807) (hs : ThgsAt w ss l) (hF : ∀ (x : Thg) (f : Option Addr) (fc : Nat) (wx : World), x ∈ l → Below w.heap.size w wx → ValsAt wx f x.fs → Calls Tryz.prog 143 #[.agg #[.int .i64 x.site, .slice f x.fs.length fc], .pointer (some ⟨q, 0, none⟩)] wx fun e w' => e = .returned (.bool (p x)) ∧ Below wx.heap.size wx w') :
    Calls Tryz.prog 155 #[.slice ss l.length cap, .func (.func 143) #[] #[.pointer (some ⟨q, 0, none⟩)]] w fun e w' => ∃ n : Int, e = .returned (.int .i64 n) ∧ decide (0 ≤ n) = l.any p ∧ Below w.heap.size w w' := by
  have HF := hideK hF
  clear hF
  go_enter Tryz.func155, Tryz.ntmps155
  go_wp2
  go_loopw [8] (fun i wr => ∃ k : Nat, k ≤ l.length ∧ i = .int .i64 k ∧ Below w.heap.size w wr ∧ Hid (l.any p = (l.drop k).any p)) (fun i _ => l.length - (intOf i).toNat)
  case atStart => exact ⟨0, Nat.zero_le _, rfl, Below.refl _ _, rfl⟩
  case round =>
    obtain ⟨k, hk, rfl, hbr, HA⟩ := hrel
    by_cases hlt : k < l.length
    · rcases hs with hs | ⟨b, off, rfl, hb, hc⟩
      · rw [hs] at hlt; simp at hlt
      have n0 : (0 : Int) ≤ (k : Int) := by omega
      have n1 : (k : Int) < (l.length : Int) := by omega
      have s0 := hbr.size
      obtain ⟨c0, f, fc, c1, hv⟩ := hc k hlt
      have c0 : wr.cell? ⟨b, off + k * 2, none⟩ = some (.int .i64 l[k].site) := by rw [hbr.cell (by simpa using hb)]; exact c0
      have c1 : wr.cell? ⟨b, off + k * 2 + 1, none⟩ = some (.slice f l[k].fs.length fc) := by rw [hbr.cell (by simpa using hb)]; exact c1
      have hv' := hv.below hbr (Nat.le_refl _)
      have HN : Hid ((l.drop k).any p = (p l[k] || (l.drop (k + 1)).any p)) := any_drop_stepR l p k hlt
      clear hc
      go_wp2_with (go_at_call 143; fail)
      refine (HF.out _ _ _ _ (List.getElem_mem hlt) hbr hv').mono ?_
      rintro e w1 ⟨rfl, hb1⟩
      cases hp : p l[k] with
      | true =>
        have HT : Hid (l.any p = true) := by show _ = _; rw [HA.out, HN.out, hp]; rfl
        clear HN HA
        go_wp2
        go_ret
        exact ⟨_, rfl, by rw [HT.out]; simp, hbr.trans (hb1.mono s0)⟩
      | false =>
        have HT : Hid (l.any p = (l.drop (k + 1)).any p) := by show _ = _; rw [HA.out, HN.out, hp]; rfl
        clear HN HA
        go_wp2
        go_roundw
        case rel => exact ⟨k + 1, by omega, by go_num, hbr.trans (hb1.mono s0), HT⟩
        case measure => simp [intOf]; omega
    · go_wp2
      go_ret
      exact ⟨_, rfl, by rw [HA.out, List.drop_eq_nil_of_le (by omega)]; rfl, hbr⟩

set_option maxHeartbeats 1000000 in
theorem containsFunc_holdsBad (q : Nat) (p : Thg → Bool) (ss : Option Addr) (cap : Nat) (l : List Thg) (w : World) (hl : l.length ≤ 9223372036854775807) (hs : ThgsAt w ss l) (hF : ∀ (x : Thg) (f : Option Addr) (fc : Nat) (wx : World), x ∈ l → Below w.heap.size w wx → ValsAt wx f x.fs → Calls Tryz.prog 143 #[.agg #[.int .i64 x.site, .slice f x.fs.length fc], .pointer (some ⟨q, 0, none⟩)] wx fun e w' => e = .returned (.bool (p x)) ∧ Below wx.heap.size wx w') :
    Calls Tryz.prog 145 #[.slice ss l.length cap, .func (.func 143) #[] #[.pointer (some ⟨q, 0, none⟩)]] w fun e w' => e = .returned (.bool (l.any p)) ∧ Below w.heap.size w w' := by
  have HF := hideK hF
  clear hF
  go_enter Tryz.func145, Tryz.ntmps145
  go_wp2_with (go_at_call 155; fail)
  refine (indexFunc_holdsBad q p ss cap l _ hl hs HF.out).mono ?_
  rintro e w1 ⟨n, rfl, hn, hb1⟩
  go_wp2
  go_ret
  exact ⟨ret_bool (by rw [← hn]), hb1⟩
end Go.Proofs.YtmapdpcfanecdaaGreat
