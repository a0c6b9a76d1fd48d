/- What is told of a run that is right, and that a step leaves it right. No program in sight. -/
import Derived.Test.YtmapdpcfanecdaaDoorKlawrsp03
import Derived.Test.YtmapdpcfanecdaaDoorKlawrsp04
import Derived.Test.YtmapdpcfanecdaaDoorKlawrsp08
namespace Go.Proofs.YtmapdpcfanecdaaDoor
set_option linter.unusedVariables false
set_option linter.unusedSimpArgs false

/-- Over 2 to the power of 64. -/
def w64 (n : Int) : Int := (n + 9223372036854775808) % 18446744073709551616 - 9223372036854775808
theorem w64_of {n : Int} (h0 : -9223372036854775808 ≤ n) (h1 : n ≤ 9223372036854775807) : w64 n = n := by unfold w64; omega
def zeroIns : Ins := ⟨0, 0, 0, 0, 0, 0⟩
def insAt (c : List Ins) (p : Int) : Ins := c.getD p.toNat zeroIns
/-- What a value is shown as. -/
def showB (v : Val) : ByteArray :=
  if v.k = 0 then ⟨#[110, 117, 108, 108]⟩ else if v.k = 1 then itoaB v.n
  else if v.k = 2 then (if v.n = 1 then ⟨#[116, 114, 117, 101]⟩ else ⟨#[102, 97, 108, 115, 101]⟩) else ⟨#[116, 104, 105, 110, 103]⟩
/-- How an instruction ends a run: 0: it does not. -/
def endOf (T : Nat) (i : Ins) (a b : Val) : Int :=
  if i.k = 19 then 1
  else if (btw i.k 5 8 && (decide (a.k ≠ 1) || decide (b.k ≠ 1))) || ((decide (i.k = 12) || decide (i.k = 13)) && decide (a.k ≠ 3)) then 2
  else if decide (i.k = 17) && !cnt a then 3
  else if decide (i.k = 11) && decide (T = 100) then 5
  else 0
/-- The value that an instruction makes. -/
def makes (r : St) (ins : List Int) (i : Ins) (a b : Val) : Val :=
  if i.k = 1 then ⟨1, i.n⟩ else if i.k = 2 then ⟨2, i.n⟩ else if i.k = 4 then a
  else if i.k = 5 then ⟨1, wr (a.n + b.n)⟩ else if i.k = 6 then ⟨1, wr (a.n - b.n)⟩ else if i.k = 7 then ⟨1, wr (a.n * b.n)⟩
  else if i.k = 8 then truV (decide (a.n < b.n)) else if i.k = 9 then truV (decide (a.k = b.k) && decide (a.n = b.n)) else if i.k = 10 then truV (!cnt a)
  else if i.k = 11 then ⟨3, r.things.length⟩ else if i.k = 12 then fieldAt r a.n i.n
  else if i.k = 14 then ⟨1, if r.taken < ins.length then clamp i.n (ins.getD r.taken.toNat 0) else 0⟩
  else ⟨0, 0⟩
/-- An instruction done that does not end the run. -/
def doIns (F : Int) (ins : List Int) (r : St) (i : Ins) (a b : Val) : St :=
  let v := makes r ins i a b
  let r1 : St := if i.k = 11 then { r with things := r.things ++ [⟨r.at_, List.replicate F.toNat ⟨0, 0⟩⟩] } else if i.k = 13 then putField r a.n i.n b
    else if i.k = 14 then { r with taken := w64 (r.taken + 1) } else if i.k = 18 then { r with lines := r.lines ++ [showB a] } else r
  let r2 : St := if nTo i.k then putVar r1 i.to v else r1
  { r2 with at_ := if i.k = 16 ∨ (i.k = 15 ∧ cnt a = true) then i.g else r.at_ + 1 }
/-- One step. -/
def stepSt (F : Int) (c : List Ins) (ins : List Int) (r : St) : St :=
  if r.fin ≠ 0 then r
  else if r.at_ = c.length then { r with fin := 1 }
  else
    let i := insAt c r.at_
    let a := if nA i.k then varAt r i.a else ⟨0, 0⟩
    let b := if nB i.k then varAt r i.b else ⟨0, 0⟩
    if endOf r.things.length i a b ≠ 0 then { r with fin := endOf r.things.length i a b } else doIns F ins r i a b
/-- A run's beginning. -/
def beginSt (V : Int) : St := ⟨0, List.replicate V.toNat ⟨0, 0⟩, [], 0, [], 0⟩
/-- So many steps, as long as the run has not ended; and how many there were. -/
def stepsSt (F : Int) (c : List Ins) (ins : List Int) : Nat → St → St × Nat
  | 0, r => (r, 0)
  | n + 1, r => if r.fin ≠ 0 then (r, 0) else ((stepsSt F c ins n (stepSt F c ins r)).1, (stepsSt F c ins n (stepSt F c ins r)).2 + 1)
def runSt (V F : Int) (c : List Ins) (ins : List Int) (fuel : Nat) : St × Nat :=
  let q := stepsSt F c ins fuel (beginSt V)
  (if q.1.fin = 0 then { q.1 with fin := 4 } else q.1, q.2)
/-- What is told of a run, in a program that is right. -/
def okValB (T : Nat) (v : Val) : Bool := (decide (v.k = 0) && decide (v.n = 0)) || ((decide (v.k = 1) && btw v.n (-2147483648) 2147483647) || ((decide (v.k = 2) && btw v.n 0 1) || (decide (v.k = 3) && btw v.n 0 ((T : Int) - 1))))
def isNew (c : List Ins) (x : Int) : Bool := btw x 0 ((c.length : Int) - 1) && decide ((insAt c x).k = 11)
def ckRun (V F : Int) (c : List Ins) (r : St) : Int :=
  if (!btw r.at_ 0 c.length || decide (r.taken < 0)) || !btw r.fin 0 5 then 3
  else if (r.vars.length : Int) ≠ V then 1
  else if 100 < r.things.length then 2
  else if r.things.all (fun t => isNew c t.site) = false then 5
  else if r.things.all (fun t => decide ((t.fs.length : Int) = F)) = false then 1
  else if (r.vars.all (okValB r.things.length) && r.things.all fun t => t.fs.all (okValB r.things.length)) = false then 4
  else 0
end Go.Proofs.YtmapdpcfanecdaaDoor

namespace Go.Proofs.YtmapdpcfanecdaaDoor
set_option linter.unusedVariables false
set_option linter.unusedSimpArgs false
open Go.RowKit

/-- A list of things lies behind a slice's address, their fields behind theirs. -/
def ThgsAt (w : World) (s : Option Addr) (l : List Thg) : Prop :=
  l = [] ∨ ∃ b off, s = some ⟨b, off, none⟩ ∧ b < w.heap.size ∧ ∀ k (h : k < l.length), w.cell? ⟨b, off + k * 2, none⟩ = some (.int .i64 l[k].site) ∧ ∃ f fc, w.cell? ⟨b, off + k * 2 + 1, none⟩ = some (.slice f l[k].fs.length fc) ∧ ValsAt w f l[k].fs
/-- A list of texts. -/
def StrsAt (w : World) (s : Option Addr) (l : List ByteArray) : Prop :=
  l = [] ∨ ∃ b off, s = some ⟨b, off, none⟩ ∧ b < w.heap.size ∧ ∀ k (h : k < l.length), w.cell? ⟨b, off + k, none⟩ = some (.string l[k])
theorem ThgsAt.below {B : Nat} {w w' : World} {s : Option Addr} {l : List Thg} (h : ThgsAt w s l) (hb : Below B w w') (hB : w.heap.size ≤ B) : ThgsAt w' s l := by
  rcases h with h | ⟨b, off, hs, hlt, hi⟩
  · exact .inl h
  · refine .inr ⟨b, off, hs, Nat.lt_of_lt_of_le hlt hb.size, fun k h => ?_⟩
    obtain ⟨h1, f, fc, h2, h3⟩ := hi k h
    exact ⟨by rw [hb.cell (by simp; omega)]; exact h1, f, fc, by rw [hb.cell (by simp; omega)]; exact h2, h3.below hb hB⟩
theorem StrsAt.below {B : Nat} {w w' : World} {s : Option Addr} {l : List ByteArray} (h : StrsAt w s l) (hb : Below B w w') (hB : w.heap.size ≤ B) : StrsAt w' s l := by
  rcases h with h | ⟨b, off, hs, hlt, hi⟩
  · exact .inl h
  · exact .inr ⟨b, off, hs, Nat.lt_of_lt_of_le hlt hb.size, fun k h => by rw [hb.cell (by simp; omega)]; exact hi k h⟩

/-- What a run's slices lead to. -/
def RunAt (w : World) (r : St) (vs ts ls : Option Addr) : Prop := ValsAt w vs r.vars ∧ ThgsAt w ts r.things ∧ StrsAt w ls r.lines
theorem RunAt.below {B : Nat} {w w' : World} {r : St} {vs ts ls : Option Addr} (h : RunAt w r vs ts ls) (hb : Below B w w') (hB : w.heap.size ≤ B) : RunAt w' r vs ts ls := ⟨h.1.below hb hB, h.2.1.below hb hB, h.2.2.below hb hB⟩
/-- A run, as a value. -/
def runV (r : St) (vs : Option Addr) (vc : Nat) (ts : Option Addr) (tc : Nat) (ls : Option Addr) (lc : Nat) : Value :=
  .agg #[.int .i64 r.at_, .slice vs r.vars.length vc, .slice ts r.things.length tc, .int .i64 r.taken, .slice ls r.lines.length lc, .int .i64 r.fin]
/-- Its lengths are lengths. -/
def LenSt (r : St) : Prop := r.vars.length ≤ maxLen ∧ r.things.length ≤ maxLen ∧ r.lines.length ≤ maxLen ∧ ∀ t ∈ r.things, t.fs.length ≤ maxLen
end Go.Proofs.YtmapdpcfanecdaaDoor

namespace Go.Proofs.YtmapdpcfanecdaaDoor
set_option linter.unusedVariables false
set_option linter.unusedSimpArgs false
open Go.RowKit

/-- A run's rows, apart from one another. -/
structure OwnRows (w : World) (B : Nat) (s : St) (vv tv lv : Value) (fv : List Value) : Prop where
  vars : ValRow w B vv s.vars
  things : w.ownsRow B 99 2 tv s.things.length (thgCells (s.things.map (·.site)) fv)
  count : fv.length = s.things.length
  fields : ∀ i (h : i < s.things.length), ValRow w B (fv[i]'(by rw [count]; exact h)) (s.things[i].fs)
  lines : w.ownsRow B 9 1 lv s.lines.length (s.lines.map .string)
  apart : (vv.ownBlock :: tv.ownBlock :: lv.ownBlock :: fv.map Value.ownBlock).Pairwise fun a b => ∀ x, a = some x → b ≠ some x

section
variable {w w' : World} {B m : Nat} {s : St} {vv tv lv : Value} {fv : List Value}

theorem OwnRun.rows (h : OwnRun w B m s vv tv lv fv) : OwnRows w B s vv tv lv fv :=
  ⟨h.vars, h.things, h.count, h.fields, h.lines, by have := h.apart; rw [List.pairwise_cons] at this; exact this.2⟩

def rowBlocks (vv tv lv : Value) (fv : List Value) : List (Option Nat) := vv.ownBlock :: tv.ownBlock :: lv.ownBlock :: fv.map Value.ownBlock

theorem OwnRows.same (h : OwnRows w B s vv tv lv fv) (hb : ∀ k, some k ∈ rowBlocks vv tv lv fv → w'.heap[k]? = w.heap[k]?) : OwnRows w' B s vv tv lv fv :=
  ⟨ownsRow_of_block h.vars (fun k hk => hb k (by simp [rowBlocks, hk])), ownsRow_of_block h.things (fun k hk => hb k (by simp [rowBlocks, hk])), h.count,
    fun i hi => ownsRow_of_block (h.fields i hi) (fun k hk => hb k (by
      simp only [rowBlocks, List.mem_cons]; right; right; right
      exact List.mem_map.2 ⟨_, List.getElem_mem _, hk⟩)),
    ownsRow_of_block h.lines (fun k hk => hb k (by simp [rowBlocks, hk])), h.apart⟩

theorem OwnRows.lt (h : OwnRows w B s vv tv lv fv) {k : Nat} (hk : some k ∈ rowBlocks vv tv lv fv) : k < w.heap.size ∧ B ≤ k := by
  simp only [rowBlocks, List.mem_cons] at hk
  rcases hk with hk | hk | hk | hk
  · exact ownsRow_block_lt h.vars hk.symm
  · exact ownsRow_block_lt h.things hk.symm
  · exact ownsRow_block_lt h.lines hk.symm
  · obtain ⟨x, hx, hxk⟩ := List.mem_map.1 hk
    obtain ⟨i, hi, rfl⟩ := List.getElem_of_mem hx
    exact ownsRow_block_lt (h.fields i (by rw [← h.count]; exact hi)) hxk

theorem OwnRows.below (h : OwnRows w B s vv tv lv fv) (hb : Below w.heap.size w w') : OwnRows w' B s vv tv lv fv := h.same fun k hk => hb.block k (h.lt hk).1
/-- A cell of a block below its base is set. -/
theorem OwnRows.set (h : OwnRows w B s vv tv lv fv) {a : Addr} (ha : a.block < B) (v : Value) : OwnRows (w.setCell a v) B s vv tv lv fv := by
  refine h.same fun k hk => ?_
  have := (h.lt hk).2
  exact Below.heap_setCell _ _ _ _ (by omega)
theorem ownsRow_down {e : TypeId} {z : Nat} {v : Value} {n : Nat} {xs : List Value} {B' : Nat} (h : w.ownsRow B e z v n xs) (hB : B' ≤ B) : w.ownsRow B' e z v n xs := by
  obtain ⟨h1, h2⟩ := h
  refine ⟨h1, ?_⟩
  rcases h2 with h2 | ⟨g, cap, cur, hv, hb, r⟩
  · exact .inl h2
  · exact .inr ⟨g, cap, cur, hv, Nat.le_trans hB hb, r⟩
theorem OwnRows.down {B' : Nat} (h : OwnRows w B s vv tv lv fv) (hB : B' ≤ B) : OwnRows w B' s vv tv lv fv :=
  ⟨ownsRow_down h.vars hB, ownsRow_down h.things hB, h.count, fun i hi => ownsRow_down (h.fields i hi) hB, ownsRow_down h.lines hB, h.apart⟩

/-- The six cells of a run lie in block m. -/
def RunCells (w : World) (m : Nat) (s : St) (vv tv lv : Value) : Prop :=
  (w.cell? ⟨m, 0, none⟩ = some (.int .i64 s.at_) ∧ w.cell? ⟨m, 1, none⟩ = some vv ∧ w.cell? ⟨m, 2, none⟩ = some tv ∧ w.cell? ⟨m, 3, none⟩ = some (.int .i64 s.taken) ∧ w.cell? ⟨m, 4, none⟩ = some lv ∧ w.cell? ⟨m, 5, none⟩ = some (.int .i64 s.fin)) ∧ ∀ j, w.frozen? ⟨m, j, none⟩ = false

theorem OwnRows.run (h : OwnRows w B s vv tv lv fv) (hc : RunCells w m s vv tv lv) {B' : Nat} (hB : B' ≤ B) (hm : B' ≤ m) (hmB : m < B) : OwnRun w B' m s vv tv lv fv := by
  obtain ⟨⟨h0, h1, h2, h3, h4, h5⟩, hz⟩ := hc
  refine ⟨hm, h0, h1, h2, h3, h4, h5, hz, ownsRow_down h.vars hB, ownsRow_down h.things hB, h.count, fun i hi => ownsRow_down (h.fields i hi) hB, ownsRow_down h.lines hB, ?_⟩
  rw [List.pairwise_cons]
  refine ⟨fun b hb x hx e => ?_, h.apart⟩
  cases hx
  have := (h.lt (k := m) (by unfold rowBlocks; rw [← e]; exact hb)).2
  omega
theorem OwnRows.run' (h : OwnRows w B s vv tv lv fv) (hc : RunCells w m s vv tv lv) (hm : B ≤ m) (hne : some m ∉ rowBlocks vv tv lv fv) : OwnRun w B m s vv tv lv fv := by
  obtain ⟨⟨h0, h1, h2, h3, h4, h5⟩, hz⟩ := hc
  refine ⟨hm, h0, h1, h2, h3, h4, h5, hz, h.vars, h.things, h.count, h.fields, h.lines, ?_⟩
  rw [List.pairwise_cons]
  refine ⟨fun b hb x hx e => ?_, h.apart⟩
  cases hx
  exact hne (by unfold rowBlocks; rw [← e]; exact hb)

theorem ValRow.at {v : Value} {l : List Val} (h : ValRow w B v l) : ∃ vs vc, v = .slice vs l.length vc ∧ ValsAt w vs l := by
  unfold ValRow at h
  rcases h.2 with ⟨hv, hn⟩ | ⟨g, cap, cur, hv, hb, hg, _⟩
  · exact ⟨none, 0, by rw [hv, hn], .inl (List.eq_nil_of_length_eq_zero hn)⟩
  · subst hv
    refine ⟨some ⟨g, 0, none⟩, cap, rfl, ?_⟩
    by_cases h0 : l = []
    · exact .inl h0
    · refine .inr ⟨g, 0, rfl, (Array.getElem?_eq_some_iff.1 hg).1, fun k hk => ?_⟩
      rw [Nat.zero_add, h.cellAt (k * 2) (by omega), h.cellAt (k * 2 + 1) (by omega)]
      exact ⟨valCells_k l k hk, valCells_n l k hk⟩
theorem StrRow.at {v : Value} {l : List ByteArray} (h : w.ownsRow B 9 1 v l.length (l.map .string)) : ∃ vs vc, v = .slice vs l.length vc ∧ StrsAt w vs l := by
  rcases h.2 with ⟨hv, hn⟩ | ⟨g, cap, cur, hv, hb, hg, _⟩
  · exact ⟨none, 0, by rw [hv, hn], .inl (List.eq_nil_of_length_eq_zero hn)⟩
  · subst hv
    refine ⟨some ⟨g, 0, none⟩, cap, rfl, ?_⟩
    by_cases h0 : l = []
    · exact .inl h0
    · refine .inr ⟨g, 0, rfl, (Array.getElem?_eq_some_iff.1 hg).1, fun k hk => ?_⟩
      rw [Nat.zero_add, h.cellAt k (by omega)]
      simp [hk]
theorem OwnRows.at (h : OwnRows w B s vv tv lv fv) : ∃ vs vc ts tc ls lc, vv = .slice vs s.vars.length vc ∧ tv = .slice ts s.things.length tc ∧ lv = .slice ls s.lines.length lc ∧ RunAt w s vs ts ls := by
  obtain ⟨vs, vc, e1, h1⟩ := ValRow.at h.vars
  obtain ⟨ls, lc, e3, h3⟩ := StrRow.at h.lines
  have ht := h.things
  rcases ht.2 with ⟨hv, hn⟩ | ⟨g, cap, cur, hv, hb, hg, _⟩
  · exact ⟨vs, vc, none, 0, ls, lc, e1, by rw [hv, hn], e3, h1, .inl (List.eq_nil_of_length_eq_zero hn), h3⟩
  · subst hv
    refine ⟨vs, vc, some ⟨g, 0, none⟩, cap, ls, lc, e1, rfl, e3, h1, ?_, h3⟩
    by_cases h0 : s.things = []
    · exact .inl h0
    · refine .inr ⟨g, 0, rfl, (Array.getElem?_eq_some_iff.1 hg).1, fun k hk => ?_⟩
      obtain ⟨f, fc, e, hf⟩ := ValRow.at (h.fields k hk)
      rw [Nat.zero_add, ht.cellAt (k * 2) (by omega), ht.cellAt (k * 2 + 1) (by omega)]
      refine ⟨?_, f, fc, ?_, hf⟩
      · rw [thgCells_site _ _ (by simp [h.count]) k (by simpa using hk)]
        simp
      · rw [thgCells_field _ _ (by simp [h.count]) k (by rw [h.count]; exact hk), e]
/-- A variable's row, and a thing's. -/
theorem OwnRun.thing (h : OwnRun w B m s vv tv lv fv) {t : Nat} (ht : t < s.things.length) : ∃ g cap, tv = .slice (some ⟨g, 0, none⟩) s.things.length cap ∧ g < w.heap.size ∧ w.cell? ⟨g, t * 2, none⟩ = some (.int .i64 s.things[t].site) ∧ w.cell? ⟨g, t * 2 + 1, none⟩ = some (fv[t]'(by rw [h.count]; exact ht)) ∧ B ≤ g := by
  have hth := h.things
  obtain ⟨g, cap, rfl, hb, hlt⟩ := hth.form (by omega)
  refine ⟨g, cap, rfl, hlt, ?_, ?_, hb⟩
  · rw [hth.cellAt (t * 2) (by omega), thgCells_site _ _ (by simp [h.count]) t (by simpa using ht)]
    simp
  · rw [hth.cellAt (t * 2 + 1) (by omega), thgCells_field _ _ (by simp [h.count]) t (by rw [h.count]; exact ht)]
theorem OwnRun.field (h : OwnRun w B m s vv tv lv fv) {t f : Nat} (ht : t < s.things.length) (hf : f < s.things[t].fs.length) : ∃ g cap, fv[t]'(by rw [h.count]; exact ht) = .slice (some ⟨g, 0, none⟩) s.things[t].fs.length cap ∧ g < w.heap.size ∧ w.cell? ⟨g, f * 2, none⟩ = some (.int .i64 s.things[t].fs[f].k) ∧ w.cell? ⟨g, f * 2 + 1, none⟩ = some (.int .i64 s.things[t].fs[f].n) ∧ (∀ j, w.frozen? ⟨g, j, none⟩ = false) ∧ B ≤ g := by
  have hfs := h.fields t ht
  unfold ValRow at hfs
  obtain ⟨g, cap, e, hb, hlt⟩ := hfs.form (by omega)
  rw [e] at hfs
  refine ⟨g, cap, e, hlt, ?_, ?_, fun j => hfs.frozenAt j, hb⟩
  · rw [hfs.cellAt (f * 2) (by omega)]; exact valCells_k _ f hf
  · rw [hfs.cellAt (f * 2 + 1) (by omega)]; exact valCells_n _ f hf
end
end Go.Proofs.YtmapdpcfanecdaaDoor

namespace Go.Proofs.YtmapdpcfanecdaaDoor
set_option linter.unusedVariables false
set_option linter.unusedSimpArgs false

theorem okValB_iff {T : Nat} {v : Val} : okValB T v = true ↔ okVal T v := by
  unfold okValB okVal btw
  simp only [Bool.or_eq_true, Bool.and_eq_true, decide_eq_true_eq]
  constructor
  · rintro (h | h | h | h)
    · exact .inl h
    · exact .inr (.inl ⟨h.1, h.2⟩)
    · exact .inr (.inr (.inl ⟨h.1, by omega⟩))
    · exact .inr (.inr (.inr ⟨h.1, by omega, by omega⟩))
  · rintro (h | h | h | h)
    · exact .inl h
    · exact .inr (.inl ⟨h.1, h.2⟩)
    · exact .inr (.inr (.inl ⟨h.1, by omega⟩))
    · exact .inr (.inr (.inr ⟨h.1, by omega, by omega⟩))

/-- A run that is right. -/
structure RunOk (V F : Int) (c : List Ins) (r : St) : Prop where
  at0 : 0 ≤ r.at_
  at1 : r.at_ ≤ c.length
  tk : 0 ≤ r.taken
  fin0 : 0 ≤ r.fin
  fin5 : r.fin ≤ 5
  vars : (r.vars.length : Int) = V
  things : r.things.length ≤ 100
  sites : ∀ t ∈ r.things, isNew c t.site = true
  fields : ∀ t ∈ r.things, (t.fs.length : Int) = F
  vals : ∀ v ∈ r.vars, okVal r.things.length v
  fvals : ∀ t ∈ r.things, ∀ v ∈ t.fs, okVal r.things.length v

theorem ckRun_ok {V F : Int} {c : List Ins} {r : St} (h : ckRun V F c r = 0) : RunOk V F c r := by
  unfold ckRun at h
  split at h
  · cases h
  rename_i h1
  split at h
  · cases h
  rename_i h2
  split at h
  · cases h
  rename_i h3
  split at h
  · cases h
  rename_i h4
  split at h
  · cases h
  rename_i h5
  split at h
  · cases h
  rename_i h6
  simp only [btw, Bool.or_eq_true, Bool.not_eq_true', decide_eq_false_iff_not, decide_eq_true_eq, not_or, Decidable.not_not] at h1
  simp only [ne_eq, Decidable.not_not] at h2
  simp only [Bool.not_eq_false, List.all_eq_true, decide_eq_true_eq, Bool.and_eq_true] at h4 h5 h6
  exact ⟨by omega, by omega, by omega, by omega, by omega, h2, by omega, h4, h5, fun v hv => okValB_iff.1 (h6.1 v hv), fun t ht v hv => okValB_iff.1 (h6.2 t ht v hv)⟩

section
variable {V F L : Int} {i : Ins}
theorem ckOne_parts (h : ckOne V F L i = 0) : btw i.k 1 19 = true ∧ (nTo i.k = true → 0 ≤ i.to ∧ i.to < V) ∧ (nA i.k = true → 0 ≤ i.a ∧ i.a < V) ∧ (nB i.k = true → 0 ≤ i.b ∧ i.b < V) ∧ (i.k = 12 ∨ i.k = 13 → 0 ≤ i.n ∧ i.n < F) ∧ (nG i.k = true → 0 ≤ i.g ∧ i.g ≤ L) ∧ (i.k = 1 → -2147483648 ≤ i.n ∧ i.n ≤ 2147483647) ∧ (i.k = 2 → i.n = 0 ∨ i.n = 1) ∧ (i.k = 14 → 0 ≤ i.n ∧ i.n ≤ 1000000) := by
  unfold ckOne at h
  split at h
  · cases h
  rename_i h1
  split at h
  · cases h
  rename_i h2
  split at h
  · cases h
  rename_i h3
  simp only [Bool.or_eq_true, Bool.and_eq_true, Bool.not_eq_true', not_or, not_and, Bool.not_eq_false, decide_eq_true_eq, btw] at h2 h3
  obtain ⟨⟨⟨⟨a1, a2⟩, a3⟩, a4⟩, a5⟩ := h2
  obtain ⟨⟨b1, b2⟩, b3⟩ := h3
  refine ⟨by simpa using h1, fun h => ?_, fun h => ?_, fun h => ?_, fun h => ?_, fun h => ?_, fun h => ?_, fun h => ?_, fun h => ?_⟩
  · have := a1 h; omega
  · have := a2 h; omega
  · have := a3 h; omega
  · have := a4 h; omega
  · have := a5 h; omega
  · have := b1 h; omega
  · have := b2 h; omega
  · have := b3 h; omega
end

theorem ckAll_mem {V F L : Int} {c : List Ins} (h : ckAll V F L c = 0) : ∀ i ∈ c, ckOne V F L i = 0 := by
  induction c with
  | nil => intro i hi; cases hi
  | cons x r ih =>
    unfold ckAll at h
    split at h
    · rename_i hx
      intro i hi
      rcases List.mem_cons.1 hi with rfl | hi
      · exact hx
      · exact ih h i hi
    · rename_i hx; exact absurd h hx
structure ProgOk (V F : Int) (c : List Ins) : Prop where
  v1 : 1 ≤ V
  v8 : V ≤ 8
  f0 : 0 ≤ F
  f3 : F ≤ 3
  len : c.length ≤ 60
  each : ∀ i ∈ c, ckOne V F c.length i = 0
theorem progOk_of {V F : Int} {c : List Ins} (h : ckProg V F c = 0) : ProgOk V F c := by
  unfold ckProg at h
  split at h
  · cases h
  rename_i h1
  split at h
  · cases h
  rename_i h2
  simp [btw] at h1
  exact ⟨by omega, by omega, by omega, by omega, by omega, ckAll_mem h⟩

theorem insAt_eq {c : List Ins} {p : Nat} (h : p < c.length) : insAt c (p : Int) = c[p] := by
  unfold insAt
  simp [List.getD, List.getElem?_eq_getElem h]
theorem insAt_mem {c : List Ins} {p : Int} (h0 : 0 ≤ p) (h : p < c.length) : insAt c p ∈ c := by
  obtain ⟨k, rfl⟩ := Int.eq_ofNat_of_zero_le h0
  rw [insAt_eq (by omega)]
  exact List.getElem_mem _

theorem okVal_mono {T T' : Nat} {v : Val} (h : okVal T v) (hT : T ≤ T') : okVal T' v := by
  unfold okVal at h ⊢
  omega
theorem okVal_zero {T : Nat} : okVal T ⟨0, 0⟩ := .inl ⟨rfl, rfl⟩
theorem wr_range (n : Int) : -2147483648 ≤ wr n ∧ wr n ≤ 2147483647 := by unfold wr; omega
theorem okVal_num {T : Nat} (n : Int) : okVal T ⟨1, wr n⟩ := .inr (.inl ⟨rfl, wr_range n⟩)
theorem okVal_tru {T : Nat} (b : Bool) : okVal T (truV b) := .inr (.inr (.inl ⟨rfl, by cases b <;> simp [truV]⟩))
theorem varAt_mem {r : St} {i : Int} (h0 : 0 ≤ i) (h : i < r.vars.length) : varAt r i ∈ r.vars := by
  obtain ⟨k, rfl⟩ := Int.eq_ofNat_of_zero_le h0
  have hk : k < r.vars.length := by omega
  unfold varAt
  simp only [Int.toNat_natCast, List.getD, List.getElem?_eq_getElem hk, Option.getD_some]
  exact List.getElem_mem hk
theorem varAt_eq {r : St} {k : Nat} (h : k < r.vars.length) : varAt r (k : Int) = r.vars[k] := by
  unfold varAt
  simp [List.getD, List.getElem?_eq_getElem h]
theorem fieldAt_eq {r : St} {t f : Nat} (h : t < r.things.length) (hf : f < r.things[t].fs.length) : fieldAt r (t : Int) (f : Int) = r.things[t].fs[f] := by
  unfold fieldAt
  simp [List.getD, List.getElem?_eq_getElem h, List.getElem?_eq_getElem hf]
theorem clamp_range {n x : Int} (h0 : 0 ≤ n) : -n ≤ clamp n x ∧ clamp n x ≤ n := by unfold clamp; split; omega; split <;> omega
theorem mem_set_or {α : Type} {l : List α} {i : Nat} {v x : α} (h : x ∈ l.set i v) : x = v ∨ x ∈ l := (List.mem_or_eq_of_mem_set h).symm

/-- What an instruction makes is a value. -/
theorem makes_ok {V F : Int} {c : List Ins} {r : St} {ins : List Int} (hr : RunOk V F c r) {i : Ins} (hi : ckOne V F c.length i = 0) {a b : Val} (ha : okVal r.things.length a) (he : endOf r.things.length i a b = 0) :
    okVal (if i.k = 11 then r.things.length + 1 else r.things.length) (makes r ins i a b) := by
  obtain ⟨h1, h2, h3, h4, h5, h6, h7, h8, h9⟩ := ckOne_parts hi
  have up : ∀ {v : Val}, okVal r.things.length v → okVal (if i.k = 11 then r.things.length + 1 else r.things.length) v := fun h => okVal_mono h (by split <;> omega)
  unfold makes
  by_cases k1 : i.k = 1
  · rw [if_pos k1]; exact up (.inr (.inl ⟨rfl, h7 k1⟩))
  rw [if_neg k1]
  by_cases k2 : i.k = 2
  · rw [if_pos k2]; exact up (.inr (.inr (.inl ⟨rfl, h8 k2⟩)))
  rw [if_neg k2]
  by_cases k4 : i.k = 4
  · rw [if_pos k4]; exact up ha
  rw [if_neg k4]
  by_cases k5 : i.k = 5
  · rw [if_pos k5]; exact okVal_num _
  rw [if_neg k5]
  by_cases k6 : i.k = 6
  · rw [if_pos k6]; exact okVal_num _
  rw [if_neg k6]
  by_cases k7 : i.k = 7
  · rw [if_pos k7]; exact okVal_num _
  rw [if_neg k7]
  by_cases k8 : i.k = 8
  · rw [if_pos k8]; exact okVal_tru _
  rw [if_neg k8]
  by_cases k9 : i.k = 9
  · rw [if_pos k9]; exact okVal_tru _
  rw [if_neg k9]
  by_cases k10 : i.k = 10
  · rw [if_pos k10]; exact okVal_tru _
  rw [if_neg k10]
  by_cases k11 : i.k = 11
  · rw [if_pos k11, if_pos k11]
    exact .inr (.inr (.inr ⟨rfl, by simp only; omega, by simp only; omega⟩))
  rw [if_neg k11, if_neg k11]
  by_cases k12 : i.k = 12
  · rw [if_pos k12]
    have hk3 : a.k = 3 := by
      unfold endOf at he
      simp [k12, btw] at he
      exact he
    rcases ha with ha | ha | ha | ha
    · omega
    · omega
    · omega
    · obtain ⟨t, ht⟩ := Int.eq_ofNat_of_zero_le ha.2.1
      obtain ⟨f, hf⟩ := Int.eq_ofNat_of_zero_le (h5 (.inl k12)).1
      have htl : t < r.things.length := by omega
      have hfl : f < r.things[t].fs.length := by have := hr.fields _ (List.getElem_mem htl); have := (h5 (.inl k12)).2; omega
      rw [ht, hf, fieldAt_eq htl hfl]
      exact hr.fvals _ (List.getElem_mem htl) _ (List.getElem_mem hfl)
  rw [if_neg k12]
  by_cases k14 : i.k = 14
  · rw [if_pos k14]
    have := clamp_range (x := ins.getD r.taken.toNat 0) (h9 k14).1
    have := (h9 k14).2
    refine .inr (.inl ⟨rfl, ?_⟩)
    simp only
    split <;> omega
  · rw [if_neg k14]; exact okVal_zero

theorem mem_modify_or {α : Type} {l : List α} {i : Nat} {f : α → α} {x : α} (h : x ∈ l.modify i f) : x ∈ l ∨ ∃ y ∈ l, x = f y := by
  obtain ⟨k, hk, rfl⟩ := List.getElem_of_mem h
  rw [List.getElem_modify]
  rw [List.length_modify] at hk
  split
  · exact .inr ⟨_, List.getElem_mem hk, rfl⟩
  · exact .inl (List.getElem_mem hk)

theorem doIns_ok {V F : Int} {c : List Ins} {r : St} {ins : List Int} (hp : ProgOk V F c) (hr : RunOk V F c r) (hat : r.at_ < c.length) (htk : r.taken < 9223372036854775807) {i : Ins} (hii : i = insAt c r.at_) {a b : Val} (ha : okVal r.things.length a) (hb : okVal r.things.length b) (he : endOf r.things.length i a b = 0) :
    RunOk V F c (doIns F ins r i a b) := by
  have hi : ckOne V F c.length i = 0 := hp.each _ (by rw [hii]; exact insAt_mem hr.at0 hat)
  have hm := makes_ok (ins := ins) hr hi (b := b) ha he
  obtain ⟨h1, h2, h3, h4, h5, h6, h7, h8, h9⟩ := ckOne_parts hi
  have HR : ∀ q : St, q.at_ = r.at_ → 0 ≤ q.taken → q.fin = r.fin → (q.vars.length : Int) = V → q.things.length ≤ 100 → (∀ t ∈ q.things, isNew c t.site = true) → (∀ t ∈ q.things, (t.fs.length : Int) = F) → (∀ v ∈ q.vars, okVal q.things.length v) → (∀ t ∈ q.things, ∀ v ∈ t.fs, okVal q.things.length v) → okVal q.things.length (makes r ins i a b) →
      RunOk V F c { (if nTo i.k then putVar q i.to (makes r ins i a b) else q) with at_ := if i.k = 16 ∨ (i.k = 15 ∧ cnt a = true) then i.g else r.at_ + 1 } := by
    intro q q1 q2 q3 q4 q5 q6 q7 q8 q9 q10
    have hg : 0 ≤ (if i.k = 16 ∨ (i.k = 15 ∧ cnt a = true) then i.g else r.at_ + 1) ∧ (if i.k = 16 ∨ (i.k = 15 ∧ cnt a = true) then i.g else r.at_ + 1) ≤ c.length := by
      split
      · rename_i hk
        exact h6 (by unfold nG; rcases hk with hk | hk <;> simp [hk])
      · have := hr.at0; omega
    have f0 := hr.fin0
    have f5 := hr.fin5
    cases hn : nTo i.k with
    | true =>
      simp only [if_true, putVar]
      exact ⟨hg.1, hg.2, q2, by simp only; omega, by simp only; omega, by simpa using q4, q5, q6, q7, fun v hv => by
        rcases mem_set_or hv with rfl | hv
        · exact q10
        · exact q8 v hv, q9⟩
    | false =>
      simp only [Bool.false_eq_true, if_false]
      exact ⟨hg.1, hg.2, q2, by simp only; omega, by simp only; omega, q4, q5, q6, q7, q8, q9⟩
  unfold doIns
  simp only
  by_cases k11 : i.k = 11
  · rw [if_pos k11] at hm
    have hT : r.things.length ≠ 100 := by
      intro h100
      unfold endOf at he
      simp [k11, btw, h100] at he
    have hl := hr.things
    rw [if_pos k11]
    refine HR _ rfl hr.tk rfl hr.vars (by simp; omega) (fun t ht => ?_) (fun t ht => ?_) (fun v hv => ?_) (fun t ht v hv => ?_) (by simpa using hm)
    · rcases List.mem_append.1 ht with ht | ht
      · exact hr.sites t ht
      · obtain rfl := List.mem_singleton.1 ht
        simp only
        unfold isNew
        rw [← hii, k11, btw_true hr.at0 (by omega)]
        rfl
    · rcases List.mem_append.1 ht with ht | ht
      · exact hr.fields t ht
      · obtain rfl := List.mem_singleton.1 ht
        have := hp.f0
        simp; omega
    · exact okVal_mono (hr.vals v hv) (by simp)
    · rcases List.mem_append.1 ht with ht | ht
      · exact okVal_mono (hr.fvals t ht v hv) (by simp)
      · obtain rfl := List.mem_singleton.1 ht
        rw [(List.mem_replicate.1 hv).2]
        exact okVal_zero
  rw [if_neg k11] at hm
  rw [if_neg k11]
  by_cases k13 : i.k = 13
  · rw [if_pos k13]
    unfold putField
    refine HR _ rfl hr.tk rfl hr.vars (by simpa using hr.things) (fun t ht => ?_) (fun t ht => ?_) (fun v hv => ?_) (fun t ht v hv => ?_) (by simpa using hm)
    · rcases mem_modify_or ht with ht | ⟨y, hy, rfl⟩
      · exact hr.sites t ht
      · exact hr.sites y hy
    · rcases mem_modify_or ht with ht | ⟨y, hy, rfl⟩
      · exact hr.fields t ht
      · simpa using hr.fields y hy
    · simpa using hr.vals v hv
    · simp only [List.length_modify]
      rcases mem_modify_or ht with ht | ⟨y, hy, rfl⟩
      · exact hr.fvals t ht v hv
      · rcases mem_set_or hv with rfl | hv
        · exact hb
        · exact hr.fvals y hy v hv
  rw [if_neg k13]
  by_cases k14 : i.k = 14
  · rw [if_pos k14]
    have := hr.tk
    exact HR _ rfl (by simp only; rw [w64_of (by omega) (by omega)]; omega) rfl hr.vars hr.things hr.sites hr.fields hr.vals hr.fvals hm
  rw [if_neg k14]
  by_cases k18 : i.k = 18
  · rw [if_pos k18]
    exact HR _ rfl hr.tk rfl hr.vars hr.things hr.sites hr.fields hr.vals hr.fvals hm
  rw [if_neg k18]
  exact HR _ rfl hr.tk rfl hr.vars hr.things hr.sites hr.fields hr.vals hr.fvals hm

/-- What a step's instruction reads. -/
def aOf (r : St) (i : Ins) : Val := if nA i.k then varAt r i.a else ⟨0, 0⟩
def bOf (r : St) (i : Ins) : Val := if nB i.k then varAt r i.b else ⟨0, 0⟩
theorem aOf_ok {V F : Int} {c : List Ins} {r : St} (hr : RunOk V F c r) {i : Ins} (hi : ckOne V F c.length i = 0) : okVal r.things.length (aOf r i) := by
  unfold aOf
  split
  · rename_i h
    have := (ckOne_parts hi).2.2.1 h
    exact hr.vals _ (varAt_mem this.1 (by rw [hr.vars]; exact this.2))
  · exact okVal_zero
theorem bOf_ok {V F : Int} {c : List Ins} {r : St} (hr : RunOk V F c r) {i : Ins} (hi : ckOne V F c.length i = 0) : okVal r.things.length (bOf r i) := by
  unfold bOf
  split
  · rename_i h
    have := (ckOne_parts hi).2.2.2.1 h
    exact hr.vals _ (varAt_mem this.1 (by rw [hr.vars]; exact this.2))
  · exact okVal_zero
theorem endOf_range (T : Nat) (i : Ins) (a b : Val) : 0 ≤ endOf T i a b ∧ endOf T i a b ≤ 5 := by
  unfold endOf
  split
  · omega
  split
  · omega
  split
  · omega
  split
  · omega
  · omega
theorem RunOk.finish {V F : Int} {c : List Ins} {r : St} (hr : RunOk V F c r) (x : Int) (h0 : 0 ≤ x) (h5 : x ≤ 5) : RunOk V F c { r with fin := x } :=
  ⟨hr.at0, hr.at1, hr.tk, h0, h5, hr.vars, hr.things, hr.sites, hr.fields, hr.vals, hr.fvals⟩

theorem stepSt_ok {V F : Int} {c : List Ins} {r : St} (ins : List Int) (hp : ProgOk V F c) (hr : RunOk V F c r) (htk : r.taken < 9223372036854775807) : RunOk V F c (stepSt F c ins r) := by
  unfold stepSt
  split
  · exact hr
  split
  · exact hr.finish 1 (by omega) (by omega)
  rename_i h1 h2
  have hat : r.at_ < c.length := by have := hr.at1; omega
  have hi : ckOne V F c.length (insAt c r.at_) = 0 := hp.each _ (insAt_mem hr.at0 hat)
  have e := endOf_range r.things.length (insAt c r.at_) (aOf r (insAt c r.at_)) (bOf r (insAt c r.at_))
  show RunOk V F c (if endOf r.things.length (insAt c r.at_) (aOf r (insAt c r.at_)) (bOf r (insAt c r.at_)) ≠ 0 then _ else doIns F ins r (insAt c r.at_) (aOf r (insAt c r.at_)) (bOf r (insAt c r.at_)))
  split
  · exact hr.finish _ e.1 e.2
  · rename_i h0
    exact doIns_ok hp hr hat htk rfl (aOf_ok hr hi) (bOf_ok hr hi) (by simpa using h0)
end Go.Proofs.YtmapdpcfanecdaaDoor
