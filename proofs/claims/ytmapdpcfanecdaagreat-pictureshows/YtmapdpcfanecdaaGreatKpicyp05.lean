/- Numbers and runs that are handed in, as they are read out of memory. -/
import Derived.Test.YtmapdpcfanecdaaGreatKpicyp01
import Derived.Lib.ItoaNum
import Derived.Lib.ItoaLen
import Derived.Lib.QuietBelow
import Derived.BigQuiet
import Derived.Test.YtmapdpcfanecdaaGreatKpicyp04
namespace Go.Proofs.YtmapdpcfanecdaaGreat
set_option linter.unusedVariables false
set_option linter.unusedSimpArgs false
open Go.RowKit

set_option maxHeartbeats 1000000 in
theorem word_any (k : Int) (w : World) :
    Calls Tryz.prog 112 #[.int .i64 k] w fun e w' => e = .returned (.string (wordB k)) ∧ Below w.heap.size w w' := by
  by_cases h : btw k 1 19 = true
  · rcases btw_cases h with rfl | rfl | rfl | rfl | rfl | rfl | rfl | rfl | rfl | rfl | rfl | rfl | rfl | rfl | rfl | rfl | rfl | rfl | rfl
    all_goals
      go_enter Tryz.func112, Tryz.ntmps112
      go_wp2_with (go_at_call 73; refine (between_any _ _ _ _).mono ?_; rintro e w' ⟨rfl, rfl⟩)
      go_ret
      exact ⟨rfl, by go_grown⟩
  · have h : btw k 1 19 = false := by simpa using h
    have hw := wordB_none h
    go_enter Tryz.func112, Tryz.ntmps112
    go_wp2_with (go_at_call 73; refine (between_any _ _ _ _).mono ?_; rintro e w' ⟨rfl, rfl⟩)
    go_ret
    exact ⟨ret_str hw.symm, by go_grown⟩
end Go.Proofs.YtmapdpcfanecdaaGreat

namespace Go.Proofs.YtmapdpcfanecdaaGreat
set_option linter.unusedVariables false
set_option linter.unusedSimpArgs false

def zeroIns : Ins := ⟨0, 0, 0, 0, 0, 0⟩
def insAt (c : List Ins) (p : Int) : Ins := c.getD p.toNat zeroIns
/-- A run's beginning. -/
def beginSt (V : Int) : St := ⟨0, List.replicate V.toNat ⟨0, 0⟩, [], 0, [], 0⟩
/-- What is told of a run, in a program that is right. -/
def okValB (T : Nat) (v : Val) : Bool := (decide (v.k = 0) && decide (v.n = 0)) || ((decide (v.k = 1) && btw v.n (-2147483648) 2147483647) || ((decide (v.k = 2) && btw v.n 0 1) || (decide (v.k = 3) && btw v.n 0 ((T : Int) - 1))))
def isNew (c : List Ins) (x : Int) : Bool := btw x 0 ((c.length : Int) - 1) && decide ((insAt c x).k = 11)
def ckRun (V F : Int) (c : List Ins) (r : St) : Int :=
  if (!btw r.at_ 0 c.length || decide (r.taken < 0)) || !btw r.fin 0 5 then 3
  else if (r.vars.length : Int) ≠ V then 1
  else if 100 < r.things.length then 2
  else if r.things.all (fun t => isNew c t.site) = false then 5
  else if r.things.all (fun t => decide ((t.fs.length : Int) = F)) = false then 1
  else if (r.vars.all (okValB r.things.length) && r.things.all fun t => t.fs.all (okValB r.things.length)) = false then 4
  else 0
end Go.Proofs.YtmapdpcfanecdaaGreat

namespace Go.Proofs.YtmapdpcfanecdaaGreat
set_option linter.unusedVariables false
set_option linter.unusedSimpArgs false
open Go.RowKit

/-- A list of things lies behind a slice's address, their fields behind theirs. -/
def ThgsAt (w : World) (s : Option Addr) (l : List Thg) : Prop :=
  l = [] ∨ ∃ b off, s = some ⟨b, off, none⟩ ∧ b < w.heap.size ∧ ∀ k (h : k < l.length), w.cell? ⟨b, off + k * 2, none⟩ = some (.int .i64 l[k].site) ∧ ∃ f fc, w.cell? ⟨b, off + k * 2 + 1, none⟩ = some (.slice f l[k].fs.length fc) ∧ ValsAt w f l[k].fs
/-- A list of texts. -/
def StrsAt (w : World) (s : Option Addr) (l : List ByteArray) : Prop :=
  l = [] ∨ ∃ b off, s = some ⟨b, off, none⟩ ∧ b < w.heap.size ∧ ∀ k (h : k < l.length), w.cell? ⟨b, off + k, none⟩ = some (.string l[k])
theorem ThgsAt.below {B : Nat} {w w' : World} {s : Option Addr} {l : List Thg} (h : ThgsAt w s l) (hb : Below B w w') (hB : w.heap.size ≤ B) : ThgsAt w' s l := by
  rcases h with h | ⟨b, off, hs, hlt, hi⟩
  · exact .inl h
  · refine .inr ⟨b, off, hs, Nat.lt_of_lt_of_le hlt hb.size, fun k h => ?_⟩
    obtain ⟨h1, f, fc, h2, h3⟩ := hi k h
    exact ⟨by rw [hb.cell (by simp; omega)]; exact h1, f, fc, by rw [hb.cell (by simp; omega)]; exact h2, h3.below hb hB⟩
theorem StrsAt.below {B : Nat} {w w' : World} {s : Option Addr} {l : List ByteArray} (h : StrsAt w s l) (hb : Below B w w') (hB : w.heap.size ≤ B) : StrsAt w' s l := by
  rcases h with h | ⟨b, off, hs, hlt, hi⟩
  · exact .inl h
  · exact .inr ⟨b, off, hs, Nat.lt_of_lt_of_le hlt hb.size, fun k h => by rw [hb.cell (by simp; omega)]; exact hi k h⟩

/-- What a run's slices lead to. -/
def RunAt (w : World) (r : St) (vs ts ls : Option Addr) : Prop := ValsAt w vs r.vars ∧ ThgsAt w ts r.things ∧ StrsAt w ls r.lines
theorem RunAt.below {B : Nat} {w w' : World} {r : St} {vs ts ls : Option Addr} (h : RunAt w r vs ts ls) (hb : Below B w w') (hB : w.heap.size ≤ B) : RunAt w' r vs ts ls := ⟨h.1.below hb hB, h.2.1.below hb hB, h.2.2.below hb hB⟩
/-- A run, as a value. -/
def runV (r : St) (vs : Option Addr) (vc : Nat) (ts : Option Addr) (tc : Nat) (ls : Option Addr) (lc : Nat) : Value :=
  .agg #[.int .i64 r.at_, .slice vs r.vars.length vc, .slice ts r.things.length tc, .int .i64 r.taken, .slice ls r.lines.length lc, .int .i64 r.fin]
/-- Its lengths are lengths. -/
def LenSt (r : St) : Prop := r.vars.length ≤ maxLen ∧ r.things.length ≤ maxLen ∧ r.lines.length ≤ maxLen ∧ ∀ t ∈ r.things, t.fs.length ≤ maxLen
end Go.Proofs.YtmapdpcfanecdaaGreat

namespace Go.Proofs.YtmapdpcfanecdaaGreat
set_option linter.unusedVariables false
set_option linter.unusedSimpArgs false
open Go.RowKit Go.ChangeShapes Go.WideShapes Go.Joins Go.Deep

theorem cellsR_int : Tryz.prog.cellsOf 3 = 1 := by kernel_rfl
theorem cellsR_string : Tryz.prog.cellsOf 9 = 1 := by kernel_rfl
theorem cellsR_value : Tryz.prog.cellsOf 31 = 2 := by kernel_rfl
theorem cellsR_thing : Tryz.prog.cellsOf 118 = 2 := by kernel_rfl
theorem cellsR_run : Tryz.prog.cellsOf 76 = 6 := by kernel_rfl
theorem cellsR_values : Tryz.prog.cellsOf 72 = 1 := by kernel_rfl
theorem cellsR_things : Tryz.prog.cellsOf 73 = 1 := by kernel_rfl
theorem cellsR_strings : Tryz.prog.cellsOf 74 = 1 := by kernel_rfl
theorem listR_two {α : Type} (l : List α) (h : l.length = 2) : ∃ a b, l = [a, b] := by
  match l, h with
  | [a, b], _ => exact ⟨a, b, rfl⟩
theorem listR_six {α : Type} (l : List α) (h : l.length = 6) : ∃ a b c d e f, l = [a, b, c, d, e, f] := by
  match l, h with
  | [a, b, c, d, e, f], _ => exact ⟨a, b, c, d, e, f, rfl⟩

section
variable {H : Type} {enc : TypeId × Value → H} {w : World} {base : Nat} {spare : Nat → Bool} {held : Bool}

set_option maxRecDepth 100000 in
theorem read_val2 {fuel : Nat} {cs : List Value} {x : DataW H × List MemPlace} (h : DataW.trod enc Tryz.prog w base spare held fuel 31 cs = some x) :
    ∃ q : Val, cs = [.int .i64 q.k, .int .i64 q.n] := by
  obtain ⟨xs, n, _, _, hl, hx, hf⟩ := DataW.trod_struct Tryz.underlying31 h
  rw [cellsR_value] at hl
  obtain ⟨c0, c1, rfl⟩ := listR_two cs hl
  obtain ⟨y0, y1, rfl⟩ := listR_two xs hx
  have g0 := hf 0 _ rfl
  have g1 := hf 1 _ rfl
  simp [cellsR_int] at g0 g1
  obtain ⟨a0, e0, _, _⟩ := DataW.trod_int Tryz.underlying3 g0
  obtain ⟨a1, e1, _, _⟩ := DataW.trod_int Tryz.underlying3 g1
  simp at e0 e1
  subst e0 e1
  exact ⟨⟨a0, a1⟩, rfl⟩

theorem read_vals {fuel : Nat} {v : Value} {x : DataW H × List MemPlace} (h : DataW.trod enc Tryz.prog w base spare held fuel 72 [v] = some x) :
    ∃ (s : Option Addr) (cap : Nat) (c : List Val), v = .slice s c.length cap ∧ c.length ≤ cap ∧ cap ≤ maxLen ∧ ValsAt w s c := by
  obtain ⟨s, cap, l, rfl, h1, h2, h3, -⟩ := read_list (n := 2) (by omega) Tryz.underlying72 cellsR_value (fun (q : Val) cs => cs = [.int .i64 q.k, .int .i64 q.n]) ⟨⟨0, 0⟩⟩ (fun fuel cs x h => read_val2 h) h
  refine ⟨s, cap, l, rfl, h1, h2, ?_⟩
  rcases h3 with h3 | ⟨b, off, rfl, hb, hc⟩
  · exact .inl h3
  · refine .inr ⟨b, off, rfl, hb, fun k hk => ?_⟩
    obtain ⟨cs, hc1, rfl⟩ := hc k hk
    exact ⟨hc1 0 (by omega), hc1 1 (by omega)⟩

set_option maxRecDepth 100000 in
theorem read_thing {fuel : Nat} {cs : List Value} {x : DataW H × List MemPlace} (h : DataW.trod enc Tryz.prog w base spare held fuel 118 cs = some x) :
    ∃ q : Thg, ∃ f fc, cs = [.int .i64 q.site, .slice f q.fs.length fc] ∧ q.fs.length ≤ maxLen ∧ ValsAt w f q.fs := by
  obtain ⟨xs, n, _, _, hl, hx, hf⟩ := DataW.trod_struct Tryz.underlying118 h
  rw [cellsR_thing] at hl
  obtain ⟨c0, c1, rfl⟩ := listR_two cs hl
  obtain ⟨y0, y1, rfl⟩ := listR_two xs hx
  have g0 := hf 0 _ rfl
  have g1 := hf 1 _ rfl
  simp [cellsR_int, cellsR_values] at g0 g1
  obtain ⟨a0, e0, _, _⟩ := DataW.trod_int Tryz.underlying3 g0
  obtain ⟨f, fc, l, e1, q1, q2, q3⟩ := read_vals g1
  simp at e0
  subst e0 e1
  exact ⟨⟨a0, l⟩, f, fc, rfl, by simp only; omega, q3⟩

theorem read_things {fuel : Nat} {v : Value} {x : DataW H × List MemPlace} (h : DataW.trod enc Tryz.prog w base spare held fuel 73 [v] = some x) :
    ∃ (s : Option Addr) (cap : Nat) (c : List Thg), v = .slice s c.length cap ∧ c.length ≤ cap ∧ cap ≤ maxLen ∧ (∀ q ∈ c, q.fs.length ≤ maxLen) ∧ ThgsAt w s c := by
  obtain ⟨s, cap, l, rfl, h1, h2, h3, -⟩ := read_list (n := 2) (by omega) Tryz.underlying73 cellsR_thing (fun (q : Thg) cs => ∃ f fc, cs = [.int .i64 q.site, .slice f q.fs.length fc] ∧ q.fs.length ≤ maxLen ∧ ValsAt w f q.fs) ⟨⟨0, []⟩⟩ (fun fuel cs x h => read_thing h) h
  rcases h3 with h3 | ⟨b, off, rfl, hb, hc⟩
  · subst h3
    exact ⟨s, cap, [], rfl, h1, h2, fun q hq => by simp at hq, .inl rfl⟩
  · refine ⟨_, cap, l, rfl, h1, h2, fun q hq => ?_, .inr ⟨b, off, rfl, hb, fun k hk => ?_⟩⟩
    · obtain ⟨k, hk, rfl⟩ := List.getElem_of_mem hq
      obtain ⟨cs, hc1, f, fc, rfl, hl, hq⟩ := hc k hk
      exact hl
    · obtain ⟨cs, hc1, f, fc, rfl, hl, hq⟩ := hc k hk
      exact ⟨hc1 0 (by omega), f, fc, hc1 1 (by omega), hq⟩

theorem read_strs {fuel : Nat} {v : Value} {x : DataW H × List MemPlace} (h : DataW.trod enc Tryz.prog w base spare held fuel 74 [v] = some x) :
    ∃ (s : Option Addr) (cap : Nat) (c : List ByteArray), v = .slice s c.length cap ∧ c.length ≤ cap ∧ cap ≤ maxLen ∧ StrsAt w s c ∧ (c ≠ [] → ∃ m, c.length ≤ m ∧ m * Tryz.prog.bytesOf 9 ∈ x.1.weights Tryz.prog 74) := by
  obtain ⟨s, cap, l, rfl, h1, h2, h3, h4⟩ := read_list (n := 1) (by omega) Tryz.underlying74 cellsR_string (fun (q : ByteArray) cs => cs = [.string q]) ⟨⟨#[]⟩⟩ (fun fuel cs x h => by
    obtain ⟨q, e, _, _⟩ := DataW.trod_string Tryz.underlying9 h
    exact ⟨q, e⟩) h
  refine ⟨s, cap, l, rfl, h1, h2, ?_, h4⟩
  rcases h3 with h3 | ⟨b, off, rfl, hb, hc⟩
  · exact .inl h3
  · refine .inr ⟨b, off, rfl, hb, fun k hk => ?_⟩
    obtain ⟨cs, hc1, rfl⟩ := hc k hk
    have h0 := hc1 0 (by omega)
    rw [Nat.mul_one] at h0
    exact h0

set_option maxRecDepth 100000 in
/-- A run that is handed in. -/
theorem open_run {r : Reach} {b0 : Nat} {v : Value} {d : DataW H} {p : List MemPlace} (hv : Value.okWide Tryz.prog w r b0 76 v) (h : DataW.Trod enc Tryz.prog w base spare held 76 v d p) :
    ∃ (st : St) (vs : Option Addr) (vc : Nat) (ts : Option Addr) (tc : Nat) (ls : Option Addr) (lc : Nat), v = runV st vs vc ts tc ls lc ∧ LenSt st ∧ RunAt w st vs ts ls ∧ (st.lines ≠ [] → ∃ m, st.lines.length ≤ m ∧ m * 16 ∈ d.weights Tryz.prog 76) := by
  obtain ⟨cs, rfl, hsz⟩ := okWide_struct Tryz.underlying76 hv
  obtain ⟨fuel, hf⟩ := h
  obtain ⟨xs, n, _, hd, hl, hx, hf⟩ := DataW.trod_struct Tryz.underlying76 hf
  rw [cellsR_run] at hl
  obtain ⟨c0, c1, c2, c3, c4, c5, hcs⟩ := listR_six _ hl
  obtain ⟨y0, y1, y2, y3, y4, y5, rfl⟩ := listR_six xs hx
  have hcs' : cs.toList = [c0, c1, c2, c3, c4, c5] := by simpa [Value.cells] using hcs
  have e : cs = #[c0, c1, c2, c3, c4, c5] := by cases cs; simp_all
  subst e
  have g0 := hf 0 _ rfl
  have g1 := hf 1 _ rfl
  have g2 := hf 2 _ rfl
  have g3 := hf 3 _ rfl
  have g4 := hf 4 _ rfl
  have g5 := hf 5 _ rfl
  simp [cellsR_int, cellsR_values, cellsR_things, cellsR_strings, Value.cells] at g0 g1 g2 g3 g4 g5
  obtain ⟨a0, e0, _, _⟩ := DataW.trod_int Tryz.underlying3 g0
  obtain ⟨vs, vc, l1, e1, k1, m1, p1⟩ := read_vals g1
  obtain ⟨ts, tc, l2, e2, k2, m2, f2, p2⟩ := read_things g2
  obtain ⟨a3, e3, _, _⟩ := DataW.trod_int Tryz.underlying3 g3
  obtain ⟨ls, lc, l4, e4, k4, m4, p4, w4⟩ := read_strs g4
  obtain ⟨a5, e5, _, _⟩ := DataW.trod_int Tryz.underlying3 g5
  simp at e0 e3 e5
  subst e0 e1 e2 e3 e4 e5
  refine ⟨⟨a0, l1, l2, a3, l4, a5⟩, vs, vc, ts, tc, ls, lc, rfl, ⟨by simp only; omega, by simp only; omega, by simp only; omega, f2⟩, ⟨p1, p2, p4⟩, fun hne => ?_⟩
  obtain ⟨m, hm, hw⟩ := w4 hne
  refine ⟨m, hm, ?_⟩
  have hb : Tryz.prog.bytesOf 9 = 16 := by kernel_rfl
  rw [hb] at hw
  injection hd with hd1 hd2
  subst hd1
  simp only [DataW.weights, Tryz.underlying76]
  exact DataW.weights_mem_each (j := 4) rfl rfl _ hw
end
end Go.Proofs.YtmapdpcfanecdaaGreat
