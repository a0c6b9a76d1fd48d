/- Pictures that are handed in, as they are read out of memory. -/
import Derived.Test.YtmapdpcfanecdaaGreatKpicyp02
import Derived.Lib.SmallJoins
import Derived.Deep.Slices
import Derived.ProofKit
import Derived.Test.YtmapdpcfanecdaaGreatKpicyp03
import Derived.SizedLaws
namespace Go.Proofs.YtmapdpcfanecdaaGreat
set_option linter.unusedVariables false
set_option linter.unusedSimpArgs false
open Go.RowKit Go.ChangeShapes Go.WideShapes Go.Joins Go.Deep

theorem cells_span : Tryz.prog.cellsOf 26 = 3 := by kernel_rfl

section
variable {H : Type} {enc : TypeId × Value → H} {w : World} {base : Nat} {spare : Nat → Bool} {held : Bool}

end
end Go.Proofs.YtmapdpcfanecdaaGreat

namespace Go.Proofs.YtmapdpcfanecdaaGreat
set_option linter.unusedVariables false
set_option linter.unusedSimpArgs false
open Go.RowKit Go.ChangeShapes Go.WideShapes Go.Joins Go.Deep

theorem cells_int1 : Tryz.prog.cellsOf 3 = 1 := by kernel_rfl
theorem cells_bool1 : Tryz.prog.cellsOf 4 = 1 := by kernel_rfl
theorem list_three {α : Type} (l : List α) (h : l.length = 3) : ∃ a b c, l = [a, b, c] := by
  match l, h with
  | [a, b, c], _ => exact ⟨a, b, c, rfl⟩

theorem cells_guess : Tryz.prog.cellsOf 29 = 7 := by kernel_rfl
theorem cells_ints : Tryz.prog.cellsOf 27 = 1 := by kernel_rfl
theorem list_seven {α : Type} (l : List α) (h : l.length = 7) : ∃ a b c d e f g, l = [a, b, c, d, e, f, g] := by
  match l, h with
  | [a, b, c, d, e, f, g], _ => exact ⟨a, b, c, d, e, f, g, rfl⟩
theorem list_five {α : Type} (l : List α) (h : l.length = 5) : ∃ a b c d e, l = [a, b, c, d, e] := by
  match l, h with
  | [a, b, c, d, e], _ => exact ⟨a, b, c, d, e, rfl⟩

section
variable {H : Type} {enc : TypeId × Value → H} {w : World} {base : Nat} {spare : Nat → Bool} {held : Bool}

set_option maxRecDepth 100000 in
theorem read_span {fuel : Nat} {cs : List Value} {x : DataW H × List MemPlace} (h : DataW.trod enc Tryz.prog w base spare held fuel 26 cs = some x) :
    ∃ i : Sp, cs = [.bool i.n, .int .i64 i.lo, .int .i64 i.hi] := by
  obtain ⟨xs, n, _, _, hl, hx, hf⟩ := DataW.trod_struct Tryz.underlying26 h
  rw [cells_span] at hl
  obtain ⟨c0, c1, c2, rfl⟩ := list_three cs hl
  obtain ⟨y0, y1, y2, rfl⟩ := list_three xs hx
  have g0 := hf 0 _ rfl
  have g1 := hf 1 _ rfl
  have g2 := hf 2 _ rfl
  simp [cells_int1, cells_bool1] at g0 g1 g2
  obtain ⟨a0, e0, _⟩ := DataW.trod_bool Tryz.underlying4 g0
  obtain ⟨a1, e1, _, _⟩ := DataW.trod_int Tryz.underlying3 g1
  obtain ⟨a2, e2, _, _⟩ := DataW.trod_int Tryz.underlying3 g2
  simp at e0 e1 e2
  subst e0 e1 e2
  exact ⟨⟨a0, a1, a2⟩, rfl⟩

set_option maxRecDepth 100000 in
/-- A slice of numbers. -/
theorem read_ints {fuel : Nat} {v : Value} {x : DataW H × List MemPlace} (h : DataW.trod enc Tryz.prog w base spare held fuel 27 [v] = some x) :
    ∃ (s : Option Addr) (cap : Nat) (c : List Int), v = .slice s c.length cap ∧ c.length ≤ cap ∧ cap ≤ maxLen ∧ IntsAt w s c := by
  rcases open_slice Tryz.underlying27 h with ⟨hv, _⟩ | ⟨a, len, cap, m, n, D, Pl, hv, hb, hl, hm, hmm, hx, hi⟩
  · simp at hv
    subst hv
    exact ⟨none, 0, [], rfl, Nat.le_refl _, by unfold maxLen; omega, .inl rfl⟩
  · simp at hv
    subst hv
    have hlm : len ≤ m := by rw [hmm]; split <;> omega
    have each : ∀ i, i < len → ∃ q : Int, w.cell? (a.add i) = some (.int .i64 q) := by
      intro i hil
      obtain ⟨cs', h1, h2⟩ := hi i (by omega)
      rw [cells_int1] at h1
      obtain ⟨_, _, hcell⟩ := World.cells?_some h1
      obtain ⟨q, e, _, _⟩ := DataW.trod_int Tryz.underlying3 h2
      subst e
      refine ⟨q, ?_⟩
      have := hcell 0 (by omega)
      rw [Deep.add_add] at this
      simpa using this
    have hch : ∃ f : Nat → Int, ∀ i, i < len → w.cell? (a.add i) = some (.int .i64 (f i)) := by
      refine ⟨fun i => if hi : i < len then Classical.choose (each i hi) else 0, fun i hi => ?_⟩
      simp only [dif_pos hi]
      exact Classical.choose_spec (each i hi)
    obtain ⟨f, hf⟩ := hch
    refine ⟨some a, cap, (List.range len).map f, by simp, by simpa using hl, hm, ?_⟩
    by_cases h0 : len = 0
    · left; subst h0; rfl
    · right
      have ha := hf 0 (by omega)
      simp [Addr.add] at ha
      obtain ⟨b, off, sp⟩ := a
      have hsp : sp = none := by
        cases sp with
        | none => rfl
        | some z => simp [World.cell?] at ha; split at ha <;> simp_all
      subst hsp
      refine ⟨b, off, rfl, World.block_lt_of_cell? w _ ha, fun k hk => ?_⟩
      have hkl : k < len := by simpa using hk
      have := hf k hkl
      have e : ((List.range len).map f)[k] = f k := by simp
      rw [e]
      have pl : ∀ n, (⟨b, off, none⟩ : Addr).add n = ⟨b, off + n, none⟩ := fun n => by unfold Addr.add; split <;> simp_all
      simpa [pl] using this

set_option maxRecDepth 100000 in
theorem read_guess {fuel : Nat} {cs : List Value} {x : DataW H × List MemPlace} (h : DataW.trod enc Tryz.prog w base spare held fuel 29 cs = some x) :
    ∃ (g : Gs) (ss : Option Addr) (gc : Nat), cs = [.bool g.n, .bool g.sp.n, .int .i64 g.sp.lo, .int .i64 g.sp.hi, .bool g.t, .bool g.f, .slice ss g.s.length gc] ∧ g.s.length ≤ gc ∧ gc ≤ maxLen ∧ IntsAt w ss g.s := by
  obtain ⟨xs, n, _, _, hl, hx, hf⟩ := DataW.trod_struct Tryz.underlying29 h
  rw [cells_guess] at hl
  obtain ⟨c0, c1, c2, c3, c4, c5, c6, rfl⟩ := list_seven cs hl
  obtain ⟨y0, y1, y2, y3, y4, rfl⟩ := list_five xs hx
  have g0 := hf 0 _ rfl
  have g1 := hf 1 _ rfl
  have g2 := hf 2 _ rfl
  have g3 := hf 3 _ rfl
  have g4 := hf 4 _ rfl
  simp [cells_int1, cells_bool1, cells_span, cells_ints] at g0 g1 g2 g3 g4
  obtain ⟨a0, e0, _⟩ := DataW.trod_bool Tryz.underlying4 g0
  obtain ⟨sp, e1⟩ := read_span g1
  obtain ⟨a2, e2, _⟩ := DataW.trod_bool Tryz.underlying4 g2
  obtain ⟨a3, e3, _⟩ := DataW.trod_bool Tryz.underlying4 g3
  obtain ⟨ss, gc, l, e4, q1, q2, q3⟩ := read_ints g4
  simp at e0 e1 e2 e3
  obtain ⟨r1, r2, r3⟩ := e1
  subst e0 r1 r2 r3 e2 e3 e4
  exact ⟨⟨a0, sp, a2, a3, l⟩, ss, gc, rfl, q1, q2, q3⟩

end
end Go.Proofs.YtmapdpcfanecdaaGreat

namespace Go.Proofs.YtmapdpcfanecdaaGreat
set_option linter.unusedVariables false
set_option linter.unusedSimpArgs false
open Go.RowKit Go.ChangeShapes Go.WideShapes Go.Joins Go.Deep

section
variable {H : Type} {enc : TypeId × Value → H} {P : Program} {w : World} {base : Nat} {spare : Nat → Bool} {held : Bool}

theorem choose_to {α : Type} (inh : Nonempty α) {len : Nat} {R : Nat → α → Prop} (h : ∀ i, i < len → ∃ q, R i q) : ∃ f : Nat → α, ∀ i, i < len → R i (f i) := by
  refine ⟨fun i => if hi : i < len then Classical.choose (h i hi) else Classical.choice inh, fun i hi => ?_⟩
  simp only [dif_pos hi]
  exact Classical.choose_spec (h i hi)

/-- A slice of elements, each of them read by its own law. -/
theorem read_list {α : Type} {t e : TypeId} {n : Nat} (hn : 0 < n) (ht : P.underlying t = some (.slice e)) (hcn : P.cellsOf e = n) (Q : α → List Value → Prop) (inh : Nonempty α)
    (each : ∀ fuel cs x, DataW.trod enc P w base spare held fuel e cs = some x → ∃ q, Q q cs) {fuel : Nat} {v : Value} {x : DataW H × List MemPlace} (h : DataW.trod enc P w base spare held fuel t [v] = some x) :
    ∃ (s : Option Addr) (cap : Nat) (l : List α), v = .slice s l.length cap ∧ l.length ≤ cap ∧ cap ≤ maxLen ∧ (l = [] ∨ ∃ b off, s = some ⟨b, off, none⟩ ∧ b < w.heap.size ∧ ∀ k (hk : k < l.length), ∃ cs, (∀ j, j < n → w.cell? ⟨b, off + k * n + j, none⟩ = cs[j]?) ∧ Q l[k] cs) ∧
      (l ≠ [] → ∃ m, l.length ≤ m ∧ m * P.bytesOf e ∈ x.1.weights P t) := by
  rcases open_slice ht h with ⟨hv, _⟩ | ⟨a, len, cap, m, n', D, Pl, hv, hb, hl, hm, hmm, hx, hi⟩
  · simp at hv
    subst hv
    exact ⟨none, 0, [], rfl, Nat.le_refl _, by unfold maxLen; omega, .inl rfl, fun h => absurd rfl h⟩
  · simp at hv
    subst hv
    have hlm : len ≤ m := by rw [hmm]; split <;> omega
    have ea : ∀ i, i < len → ∃ q : α, ∃ cs, (∀ j, j < n → w.cell? (a.add (i * n + j)) = cs[j]?) ∧ cs.length = n ∧ Q q cs := by
      intro i hil
      obtain ⟨cs', h1, h2⟩ := hi i (by omega)
      rw [hcn] at h1
      obtain ⟨_, hlen, hcell⟩ := World.cells?_some h1
      obtain ⟨q, hq⟩ := each _ _ _ h2
      refine ⟨q, cs', fun j hj => ?_, hlen, hq⟩
      rw [← Deep.add_add]
      exact hcell j hj
    obtain ⟨f, hf⟩ := choose_to inh ea
    refine ⟨some a, cap, (List.range len).map f, by simp, by simpa using hl, hm, ?_, fun _ => ⟨m, by simpa using hlm, ?_⟩⟩
    · by_cases h0 : len = 0
      · left; subst h0; rfl
      · right
        obtain ⟨cs0, hc0, hn0, -⟩ := hf 0 (by omega)
        have ha := hc0 0 hn
        rw [List.getElem?_eq_getElem (by omega)] at ha
        simp [Addr.add] at ha
        obtain ⟨b, off, sp⟩ := a
        have hsp : sp = none := by
          cases sp with
          | none => rfl
          | some z => simp [World.cell?] at ha; split at ha <;> simp_all
        subst hsp
        refine ⟨b, off, rfl, World.block_lt_of_cell? w _ ha, fun k hk => ?_⟩
        have hkl : k < len := by simpa using hk
        obtain ⟨cs, hc, hn, hq⟩ := hf k hkl
        have pl : ∀ n, (⟨b, off, none⟩ : Addr).add n = ⟨b, off + n, none⟩ := fun n => by unfold Addr.add; split <;> simp_all
        refine ⟨cs, fun j hj => ?_, by simpa using hq⟩
        have := hc j hj
        rw [pl] at this
        rw [Nat.add_assoc]
        exact this
    · subst hx
      simp only [DataW.weights, ht, List.length_map, List.length_range]
      have : len + (m - len) = m := by omega
      rw [this]
      exact List.mem_cons_self
end
end Go.Proofs.YtmapdpcfanecdaaGreat

namespace Go.Proofs.YtmapdpcfanecdaaGreat
set_option linter.unusedVariables false
set_option linter.unusedSimpArgs false
open Go.RowKit Go.ChangeShapes Go.WideShapes Go.Joins Go.Deep

theorem cellsW_guesses : Tryz.prog.cellsOf 41 = 1 := by kernel_rfl
theorem cellsW_rows : Tryz.prog.cellsOf 56 = 1 := by kernel_rfl
theorem cellsW_picture : Tryz.prog.cellsOf 58 = 3 := by kernel_rfl
section
variable {H : Type} {enc : TypeId × Value → H} {w : World} {base : Nat} {spare : Nat → Bool} {held : Bool}
theorem read_guesses {fuel : Nat} {v : Value} {x : DataW H × List MemPlace} (h : DataW.trod enc Tryz.prog w base spare held fuel 41 [v] = some x) :
    ∃ (s : Option Addr) (cap : Nat) (l : List Gs), v = .slice s l.length cap ∧ l.length ≤ cap ∧ cap ≤ maxLen ∧ GsAt w s l := by
  obtain ⟨s, cap, l, rfl, h1, h2, h3, -⟩ := read_list (n := 7) (by omega) Tryz.underlying41 cells_guess (fun (g : Gs) cs => ∃ (ss : Option Addr) (gc : Nat), cs = [.bool g.n, .bool g.sp.n, .int .i64 g.sp.lo, .int .i64 g.sp.hi, .bool g.t, .bool g.f, .slice ss g.s.length gc] ∧ g.s.length ≤ gc ∧ gc ≤ maxLen ∧ IntsAt w ss g.s) ⟨noneG⟩ (fun fuel cs x h => read_guess h) h
  refine ⟨s, cap, l, rfl, h1, h2, ?_⟩
  rcases h3 with h3 | ⟨b, off, rfl, hb, hc⟩
  · subst h3
    exact fun i hi => absurd hi (by simp)
  · intro i hi
    obtain ⟨cs, hc1, ss, gc, rfl, k1, k2, k3⟩ := hc i hi
    exact ⟨b, off, rfl, ss, gc, ⟨⟨hc1 0 (by omega), hc1 1 (by omega), hc1 2 (by omega), hc1 3 (by omega), hc1 4 (by omega), hc1 5 (by omega), hc1 6 (by omega)⟩, hb⟩, k3, k1, k2⟩
theorem read_rows {fuel : Nat} {v : Value} {x : DataW H × List MemPlace} (h : DataW.trod enc Tryz.prog w base spare held fuel 56 [v] = some x) :
    ∃ (s : Option Addr) (cap : Nat) (l : List (List Gs)), v = .slice s l.length cap ∧ l.length ≤ cap ∧ cap ≤ maxLen ∧ RowsAt w s l := by
  obtain ⟨s, cap, l, rfl, h1, h2, h3, -⟩ := read_list (n := 1) (by omega) Tryz.underlying56 cellsW_guesses (fun (r : List Gs) cs => ∃ (rs : Option Addr) (rc : Nat), cs = [.slice rs r.length rc] ∧ r.length ≤ rc ∧ rc ≤ maxLen ∧ GsAt w rs r) ⟨[]⟩ (fun fuel cs x h => by
    have hl : cs.length = 1 := by
      rcases open_slice Tryz.underlying41 h with ⟨hv, _⟩ | ⟨a, len, cap, m, n', D, Pl, hv, _⟩
      · rw [hv]; rfl
      · rw [hv]; rfl
    obtain ⟨v, rfl⟩ : ∃ v, cs = [v] := by
      match cs, hl with
      | [v], _ => exact ⟨v, rfl⟩
    obtain ⟨s, cap, l, rfl, k1, k2, k3⟩ := read_guesses h
    exact ⟨l, s, cap, rfl, k1, k2, k3⟩) h
  refine ⟨s, cap, l, rfl, h1, h2, ?_⟩
  rcases h3 with h3 | ⟨b, off, rfl, hb, hc⟩
  · subst h3
    exact fun i hi => absurd hi (by simp)
  · intro i hi
    obtain ⟨cs, hc1, rs, rc, rfl, k1, k2, k3⟩ := hc i hi
    have h0 := hc1 0 (by omega)
    rw [Nat.mul_one] at h0
    exact ⟨b, off, rfl, hb, rs, rc, h0, k1, k2, k3⟩
set_option maxRecDepth 100000 in
theorem read_picture {fuel : Nat} {cs : List Value} {x : DataW H × List MemPlace} (h : DataW.trod enc Tryz.prog w base spare held fuel 58 cs = some x) :
    ∃ (q : Pic) (vs : Option Addr) (vc : Nat) (fs : Option Addr) (fc : Nat), cs = [.bool q.none, .slice vs q.vars.length vc, .slice fs q.flds.length fc] ∧ (q.vars.length ≤ vc ∧ vc ≤ maxLen) ∧ (q.flds.length ≤ fc ∧ fc ≤ maxLen) ∧ PicAt w q vs fs := by
  obtain ⟨xs, n, _, _, hl, hx, hf⟩ := DataW.trod_struct Tryz.underlying58 h
  rw [cellsW_picture] at hl
  obtain ⟨c0, c1, c2, rfl⟩ := list_three cs hl
  obtain ⟨y0, y1, y2, rfl⟩ := list_three xs hx
  have g0 := hf 0 _ rfl
  have g1 := hf 1 _ rfl
  have g2 := hf 2 _ rfl
  simp [cells_bool1, cellsW_guesses, cellsW_rows] at g0 g1 g2
  obtain ⟨a0, e0, _⟩ := DataW.trod_bool Tryz.underlying4 g0
  obtain ⟨vs, vc, l1, e1, k1, m1, p1⟩ := read_guesses g1
  obtain ⟨fs, fc, l2, e2, k2, m2, p2⟩ := read_rows g2
  simp at e0
  subst e0 e1 e2
  exact ⟨⟨a0, l1, l2⟩, vs, vc, fs, fc, rfl, ⟨k1, m1⟩, ⟨k2, m2⟩, p1, p2⟩
set_option maxRecDepth 100000 in
/-- A picture that is handed in. -/
theorem open_picture {r : Reach} {b0 : Nat} {v : Value} {d : DataW H} {p : List MemPlace} (hv : Value.okWide Tryz.prog w r b0 58 v) (h : DataW.Trod enc Tryz.prog w base spare held 58 v d p) :
    ∃ (q : Pic) (vs : Option Addr) (vc : Nat) (fs : Option Addr) (fc : Nat), v = xv q vs vc fs fc ∧ (q.vars.length ≤ vc ∧ vc ≤ maxLen) ∧ (q.flds.length ≤ fc ∧ fc ≤ maxLen) ∧ PicAt w q vs fs := by
  obtain ⟨cs, rfl, hsz⟩ := okWide_struct Tryz.underlying58 hv
  obtain ⟨fuel, hf⟩ := h
  obtain ⟨q, vs, vc, fs, fc, e, k⟩ := read_picture (by simpa [Value.cells] using hf)
  refine ⟨q, vs, vc, fs, fc, ?_, k⟩
  have : cs = #[.bool q.none, .slice vs q.vars.length vc, .slice fs q.flds.length fc] := by
    cases cs; simp_all
  rw [this]
end
end Go.Proofs.YtmapdpcfanecdaaGreat
