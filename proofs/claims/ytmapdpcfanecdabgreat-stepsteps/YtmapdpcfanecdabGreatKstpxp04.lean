/- Rows of guesses whose sites are another's. -/
import Derived.Test.YtmapdpcfanecdabGreatKstpxp02
import Derived.Lib.SmallJoins
import Derived.Deep.Slices
import Derived.ProofKit
import Derived.Test.YtmapdpcfanecdabGreatKstpxp03
import Derived.SizedLaws
set_option linter.unusedSimpArgs false
set_option linter.unusedVariables false
namespace Go.Proofs.YtmapdpcfanecdabGreat
section
open Go.RowKit Go.ChangeShapes Go.WideShapes Go.Joins Go.Deep

theorem cells_span : Tryz.prog.cellsOf 58 = 3 := by kernel_rfl

section
variable {H : Type} {enc : TypeId × Value → H} {w : World} {base : Nat} {spare : Nat → Bool} {held : Bool}

end
end
section
set_option maxRecDepth 100000
open Go.RowKit Go.ChangeShapes Go.WideShapes Go.Joins Go.Deep

theorem cells_int1 : Tryz.prog.cellsOf 3 = 1 := by kernel_rfl
theorem cells_bool1 : Tryz.prog.cellsOf 4 = 1 := by kernel_rfl
theorem list_three {α : Type} (l : List α) (h : l.length = 3) : ∃ a b c, l = [a, b, c] := by
 match l, h with
 | [a, b, c], _ => exact ⟨a, b, c, rfl⟩

theorem cells_guess : Tryz.prog.cellsOf 61 = 7 := by kernel_rfl
theorem cells_ints : Tryz.prog.cellsOf 59 = 1 := by kernel_rfl
theorem list_seven {α : Type} (l : List α) (h : l.length = 7) : ∃ a b c d e f g, l = [a, b, c, d, e, f, g] := by
 match l, h with
 | [a, b, c, d, e, f, g], _ => exact ⟨a, b, c, d, e, f, g, rfl⟩
theorem list_five {α : Type} (l : List α) (h : l.length = 5) : ∃ a b c d e, l = [a, b, c, d, e] := by
 match l, h with
 | [a, b, c, d, e], _ => exact ⟨a, b, c, d, e, rfl⟩

section
variable {H : Type} {enc : TypeId × Value → H} {w : World} {base : Nat} {spare : Nat → Bool} {held : Bool}

theorem read_span {fuel : Nat} {cs : List Value} {x : DataW H × List MemPlace} (h : DataW.trod enc Tryz.prog w base spare held fuel 58 cs = some x) :
  ∃ i : Sp, cs = [.bool i.n, .int .i64 i.lo, .int .i64 i.hi] := by
 obtain ⟨xs, n, _, _, hl, hx, hf⟩ := DataW.trod_struct Tryz.underlying58 h
 rw [cells_span] at hl
 obtain ⟨c0, c1, c2, rfl⟩ := list_three cs hl
 obtain ⟨y0, y1, y2, rfl⟩ := list_three xs hx
 have g0 := hf 0 _ rfl
 have g1 := hf 1 _ rfl
 have g2 := hf 2 _ rfl
 simp [cells_int1, cells_bool1] at g0 g1 g2
 obtain ⟨a0, e0, _⟩ := DataW.trod_bool Tryz.underlying4 g0
 obtain ⟨a1, e1, _, _⟩ := DataW.trod_int Tryz.underlying3 g1
 obtain ⟨a2, e2, _, _⟩ := DataW.trod_int Tryz.underlying3 g2
 simp at e0 e1 e2
 subst e0 e1 e2
 exact ⟨⟨a0, a1, a2⟩, rfl⟩

/-- A slice of numbers. -/
theorem read_ints {fuel : Nat} {v : Value} {x : DataW H × List MemPlace} (h : DataW.trod enc Tryz.prog w base spare held fuel 59 [v] = some x) :
  ∃ (s : Option Addr) (cap : Nat) (c : List Int), v = .slice s c.length cap ∧ c.length ≤ cap ∧ cap ≤ maxLen ∧ IntsAt w s c := by
 rcases open_slice Tryz.underlying59 h with ⟨hv, _⟩ | ⟨a, len, cap, m, n, D, Pl, hv, hb, hl, hm, hmm, hx, hi⟩
 ·simp at hv
  subst hv
  exact ⟨none, 0, [], rfl, Nat.le_refl _, by unfold maxLen; omega, .inl rfl⟩
 ·simp at hv
  subst hv
  have hlm : len ≤ m := by rw [hmm]; split <;> omega
  have each : ∀ i, i < len → ∃ q : Int, w.cell? (a.add i) = some (.int .i64 q) := by
   intro i hil
   obtain ⟨cs', h1, h2⟩ := hi i (by omega)
   rw [cells_int1] at h1
   obtain ⟨_, _, hcell⟩ := World.cells?_some h1
   obtain ⟨q, e, _, _⟩ := DataW.trod_int Tryz.underlying3 h2
   subst e
   refine ⟨q, ?_⟩
   have := hcell 0 (by omega)
   rw [Deep.add_add] at this
   simpa using this
  have hch : ∃ f : Nat → Int, ∀ i, i < len → w.cell? (a.add i) = some (.int .i64 (f i)) := by
   refine ⟨fun i => if hi : i < len then Classical.choose (each i hi) else 0, fun i hi => ?_⟩
   simp only [dif_pos hi]
   exact Classical.choose_spec (each i hi)
  obtain ⟨f, hf⟩ := hch
  refine ⟨some a, cap, (List.range len).map f, by simp, by simpa using hl, hm, ?_⟩
  by_cases h0 : len = 0
  ·left; subst h0; rfl
  ·right
   have ha := hf 0 (by omega)
   simp [Addr.add] at ha
   obtain ⟨b, off, sp⟩ := a
   have hsp : sp = none := by
    cases sp with
    | none => rfl
    | some z => simp [World.cell?] at ha; split at ha <;> simp_all
   subst hsp
   refine ⟨b, off, rfl, World.block_lt_of_cell? w _ ha, fun k hk => ?_⟩
   have hkl : k < len := by simpa using hk
   have := hf k hkl
   have e : ((List.range len).map f)[k] = f k := by simp
   rw [e]
   have pl : ∀ n, (⟨b, off, none⟩ : Addr).add n = ⟨b, off + n, none⟩ := fun n => by unfold Addr.add; split <;> simp_all
   simpa [pl] using this

theorem read_guess {fuel : Nat} {cs : List Value} {x : DataW H × List MemPlace} (h : DataW.trod enc Tryz.prog w base spare held fuel 61 cs = some x) :
  ∃ (g : Gs) (ss : Option Addr) (gc : Nat), cs = [.bool g.n, .bool g.sp.n, .int .i64 g.sp.lo, .int .i64 g.sp.hi, .bool g.t, .bool g.f, .slice ss g.s.length gc] ∧ g.s.length ≤ gc ∧ gc ≤ maxLen ∧ IntsAt w ss g.s := by
 obtain ⟨xs, n, _, _, hl, hx, hf⟩ := DataW.trod_struct Tryz.underlying61 h
 rw [cells_guess] at hl
 obtain ⟨c0, c1, c2, c3, c4, c5, c6, rfl⟩ := list_seven cs hl
 obtain ⟨y0, y1, y2, y3, y4, rfl⟩ := list_five xs hx
 have g0 := hf 0 _ rfl
 have g1 := hf 1 _ rfl
 have g2 := hf 2 _ rfl
 have g3 := hf 3 _ rfl
 have g4 := hf 4 _ rfl
 simp [cells_int1, cells_bool1, cells_span, cells_ints] at g0 g1 g2 g3 g4
 obtain ⟨a0, e0, _⟩ := DataW.trod_bool Tryz.underlying4 g0
 obtain ⟨sp, e1⟩ := read_span g1
 obtain ⟨a2, e2, _⟩ := DataW.trod_bool Tryz.underlying4 g2
 obtain ⟨a3, e3, _⟩ := DataW.trod_bool Tryz.underlying4 g3
 obtain ⟨ss, gc, l, e4, q1, q2, q3⟩ := read_ints g4
 simp at e0 e1 e2 e3
 obtain ⟨r1, r2, r3⟩ := e1
 subst e0 r1 r2 r3 e2 e3 e4
 exact ⟨⟨a0, sp, a2, a3, l⟩, ss, gc, rfl, q1, q2, q3⟩

end
end
section
open Go.RowKit Go.ChangeShapes Go.WideShapes Go.Joins Go.Deep

section
variable {H : Type} {enc : TypeId × Value → H} {P : Program} {w : World} {base : Nat} {spare : Nat → Bool} {held : Bool}

theorem choose_to {α : Type} (inh : Nonempty α) {len : Nat} {R : Nat → α → Prop} (h : ∀ i, i < len → ∃ q, R i q) : ∃ f : Nat → α, ∀ i, i < len → R i (f i) := by
 refine ⟨fun i => if hi : i < len then Classical.choose (h i hi) else Classical.choice inh, fun i hi => ?_⟩
 simp only [dif_pos hi]
 exact Classical.choose_spec (h i hi)

/-- A slice of elements, each of them read by its own law. -/
theorem read_list {α : Type} {t e : TypeId} {n : Nat} (hn : 0 < n) (ht : P.underlying t = some (.slice e)) (hcn : P.cellsOf e = n) (Q : α → List Value → Prop) (inh : Nonempty α)
  (each : ∀ fuel cs x, DataW.trod enc P w base spare held fuel e cs = some x → ∃ q, Q q cs) {fuel : Nat} {v : Value} {x : DataW H × List MemPlace} (h : DataW.trod enc P w base spare held fuel t [v] = some x) :
  ∃ (s : Option Addr) (cap : Nat) (l : List α), v = .slice s l.length cap ∧ l.length ≤ cap ∧ cap ≤ maxLen ∧ (l = [] ∨ ∃ b off, s = some ⟨b, off, none⟩ ∧ b < w.heap.size ∧ ∀ k (hk : k < l.length), ∃ cs, (∀ j, j < n → w.cell? ⟨b, off + k * n + j, none⟩ = cs[j]?) ∧ Q l[k] cs) ∧
   (l ≠ [] → ∃ m, l.length ≤ m ∧ m * P.bytesOf e ∈ x.1.weights P t) := by
 rcases open_slice ht h with ⟨hv, _⟩ | ⟨a, len, cap, m, n', D, Pl, hv, hb, hl, hm, hmm, hx, hi⟩
 ·simp at hv
  subst hv
  exact ⟨none, 0, [], rfl, Nat.le_refl _, by unfold maxLen; omega, .inl rfl, fun h => absurd rfl h⟩
 ·simp at hv
  subst hv
  have hlm : len ≤ m := by rw [hmm]; split <;> omega
  have ea : ∀ i, i < len → ∃ q : α, ∃ cs, (∀ j, j < n → w.cell? (a.add (i * n + j)) = cs[j]?) ∧ cs.length = n ∧ Q q cs := by
   intro i hil
   obtain ⟨cs', h1, h2⟩ := hi i (by omega)
   rw [hcn] at h1
   obtain ⟨_, hlen, hcell⟩ := World.cells?_some h1
   obtain ⟨q, hq⟩ := each _ _ _ h2
   refine ⟨q, cs', fun j hj => ?_, hlen, hq⟩
   rw [← Deep.add_add]
   exact hcell j hj
  obtain ⟨f, hf⟩ := choose_to inh ea
  refine ⟨some a, cap, (List.range len).map f, by simp, by simpa using hl, hm, ?_, fun _ => ⟨m, by simpa using hlm, ?_⟩⟩
  ·by_cases h0 : len = 0
   ·left; subst h0; rfl
   ·right
    obtain ⟨cs0, hc0, hn0, -⟩ := hf 0 (by omega)
    have ha := hc0 0 hn
    rw [List.getElem?_eq_getElem (by omega)] at ha
    simp [Addr.add] at ha
    obtain ⟨b, off, sp⟩ := a
    have hsp : sp = none := by
     cases sp with
     | none => rfl
     | some z => simp [World.cell?] at ha; split at ha <;> simp_all
    subst hsp
    refine ⟨b, off, rfl, World.block_lt_of_cell? w _ ha, fun k hk => ?_⟩
    have hkl : k < len := by simpa using hk
    obtain ⟨cs, hc, hn, hq⟩ := hf k hkl
    have pl : ∀ n, (⟨b, off, none⟩ : Addr).add n = ⟨b, off + n, none⟩ := fun n => by unfold Addr.add; split <;> simp_all
    refine ⟨cs, fun j hj => ?_, by simpa using hq⟩
    have := hc j hj
    rw [pl] at this
    rw [Nat.add_assoc]
    exact this
  ·subst hx
   simp only [DataW.weights, ht, List.length_map, List.length_range]
   have : len + (m - len) = m := by omega
   rw [this]
   exact List.mem_cons_self
end
end
section
set_option maxRecDepth 100000
open Go.RowKit Go.ChangeShapes Go.WideShapes Go.Joins Go.Deep

theorem cellsW_guesses : Tryz.prog.cellsOf 25 = 1 := by kernel_rfl
theorem cellsW_rows : Tryz.prog.cellsOf 26 = 1 := by kernel_rfl
theorem cellsW_picture : Tryz.prog.cellsOf 28 = 3 := by kernel_rfl
section
variable {H : Type} {enc : TypeId × Value → H} {w : World} {base : Nat} {spare : Nat → Bool} {held : Bool}
theorem read_guesses {fuel : Nat} {v : Value} {x : DataW H × List MemPlace} (h : DataW.trod enc Tryz.prog w base spare held fuel 25 [v] = some x) :
  ∃ (s : Option Addr) (cap : Nat) (l : List Gs), v = .slice s l.length cap ∧ l.length ≤ cap ∧ cap ≤ maxLen ∧ GsAt w s l := by
 obtain ⟨s, cap, l, rfl, h1, h2, h3, -⟩ := read_list (n := 7) (by omega) Tryz.underlying25 cells_guess (fun (g : Gs) cs => ∃ (ss : Option Addr) (gc : Nat), cs = [.bool g.n, .bool g.sp.n, .int .i64 g.sp.lo, .int .i64 g.sp.hi, .bool g.t, .bool g.f, .slice ss g.s.length gc] ∧ g.s.length ≤ gc ∧ gc ≤ maxLen ∧ IntsAt w ss g.s) ⟨noneG⟩ (fun fuel cs x h => read_guess h) h
 refine ⟨s, cap, l, rfl, h1, h2, ?_⟩
 rcases h3 with h3 | ⟨b, off, rfl, hb, hc⟩
 ·subst h3
  exact fun i hi => absurd hi (by simp)
 ·intro i hi
  obtain ⟨cs, hc1, ss, gc, rfl, k1, k2, k3⟩ := hc i hi
  exact ⟨b, off, rfl, ss, gc, ⟨⟨hc1 0 (by omega), hc1 1 (by omega), hc1 2 (by omega), hc1 3 (by omega), hc1 4 (by omega), hc1 5 (by omega), hc1 6 (by omega)⟩, hb⟩, k3, k1, k2⟩
theorem read_rows {fuel : Nat} {v : Value} {x : DataW H × List MemPlace} (h : DataW.trod enc Tryz.prog w base spare held fuel 26 [v] = some x) :
  ∃ (s : Option Addr) (cap : Nat) (l : List (List Gs)), v = .slice s l.length cap ∧ l.length ≤ cap ∧ cap ≤ maxLen ∧ RowsAt w s l := by
 obtain ⟨s, cap, l, rfl, h1, h2, h3, -⟩ := read_list (n := 1) (by omega) Tryz.underlying26 cellsW_guesses (fun (r : List Gs) cs => ∃ (rs : Option Addr) (rc : Nat), cs = [.slice rs r.length rc] ∧ r.length ≤ rc ∧ rc ≤ maxLen ∧ GsAt w rs r) ⟨[]⟩ (fun fuel cs x h => by
  have hl : cs.length = 1 := by
   rcases open_slice Tryz.underlying25 h with ⟨hv, _⟩ | ⟨a, len, cap, m, n', D, Pl, hv, _⟩
   ·rw [hv]; rfl
   ·rw [hv]; rfl
  obtain ⟨v, rfl⟩ : ∃ v, cs = [v] := by
   match cs, hl with
   | [v], _ => exact ⟨v, rfl⟩
  obtain ⟨s, cap, l, rfl, k1, k2, k3⟩ := read_guesses h
  exact ⟨l, s, cap, rfl, k1, k2, k3⟩) h
 refine ⟨s, cap, l, rfl, h1, h2, ?_⟩
 rcases h3 with h3 | ⟨b, off, rfl, hb, hc⟩
 ·subst h3
  exact fun i hi => absurd hi (by simp)
 ·intro i hi
  obtain ⟨cs, hc1, rs, rc, rfl, k1, k2, k3⟩ := hc i hi
  have h0 := hc1 0 (by omega)
  rw [Nat.mul_one] at h0
  exact ⟨b, off, rfl, hb, rs, rc, h0, k1, k2, k3⟩
theorem read_picture {fuel : Nat} {cs : List Value} {x : DataW H × List MemPlace} (h : DataW.trod enc Tryz.prog w base spare held fuel 28 cs = some x) :
  ∃ (q : Pic) (vs : Option Addr) (vc : Nat) (fs : Option Addr) (fc : Nat), cs = [.bool q.none, .slice vs q.vars.length vc, .slice fs q.flds.length fc] ∧ (q.vars.length ≤ vc ∧ vc ≤ maxLen) ∧ (q.flds.length ≤ fc ∧ fc ≤ maxLen) ∧ PicAt w q vs fs := by
 obtain ⟨xs, n, _, _, hl, hx, hf⟩ := DataW.trod_struct Tryz.underlying28 h
 rw [cellsW_picture] at hl
 obtain ⟨c0, c1, c2, rfl⟩ := list_three cs hl
 obtain ⟨y0, y1, y2, rfl⟩ := list_three xs hx
 have g0 := hf 0 _ rfl
 have g1 := hf 1 _ rfl
 have g2 := hf 2 _ rfl
 simp [cells_bool1, cellsW_guesses, cellsW_rows] at g0 g1 g2
 obtain ⟨a0, e0, _⟩ := DataW.trod_bool Tryz.underlying4 g0
 obtain ⟨vs, vc, l1, e1, k1, m1, p1⟩ := read_guesses g1
 obtain ⟨fs, fc, l2, e2, k2, m2, p2⟩ := read_rows g2
 simp at e0
 subst e0 e1 e2
 exact ⟨⟨a0, l1, l2⟩, vs, vc, fs, fc, rfl, ⟨k1, m1⟩, ⟨k2, m2⟩, p1, p2⟩
/-- A picture that is handed in. -/
theorem open_picture {r : Reach} {b0 : Nat} {v : Value} {d : DataW H} {p : List MemPlace} (hv : Value.okWide Tryz.prog w r b0 28 v) (h : DataW.Trod enc Tryz.prog w base spare held 28 v d p) :
  ∃ (q : Pic) (vs : Option Addr) (vc : Nat) (fs : Option Addr) (fc : Nat), v = xv q vs vc fs fc ∧ (q.vars.length ≤ vc ∧ vc ≤ maxLen) ∧ (q.flds.length ≤ fc ∧ fc ≤ maxLen) ∧ PicAt w q vs fs := by
 obtain ⟨cs, rfl, hsz⟩ := okWide_struct Tryz.underlying28 hv
 obtain ⟨fuel, hf⟩ := h
 obtain ⟨q, vs, vc, fs, fc, e, k⟩ := read_picture (by simpa [Value.cells] using hf)
 refine ⟨q, vs, vc, fs, fc, ?_, k⟩
 have : cs = #[.bool q.none, .slice vs q.vars.length vc, .slice fs q.flds.length fc] := by
  cases cs; simp_all
 rw [this]
end
end
section
open Go.RowKit

section
variable {w w' : World} {B : Nat} {v v' : Value} {l l2 : List Gc}
/-- What is read is a row of cells. -/
theorem GsAt.gcs {ls : Option Addr} {L : List Gs} (h : GsAt w ls L) : ∃ l : List Gc, l.map Gc.g = L ∧ (∀ ad, ls = some ad → ∀ j u, (rowCells l)[j]? = some u → w.cell? (ad.add j) = some u) ∧ (ls = none → l = []) ∧ ∀ y ∈ l, GcIn (fun b => b < w.heap.size) w y := by
 have h1 : ∀ i, i < L.length → ∃ x : Gc, ∃ b off, ls = some ⟨b, off, none⟩ ∧ (x.g = L.getD i noneG) ∧ (∀ j, j < 7 → w.cell? ⟨b, off + i * 7 + j, none⟩ = (gcCells x)[j]?) ∧ GcIn (fun b => b < w.heap.size) w x := by
  intro i hi
  obtain ⟨b, off, e, ss, cap, ⟨⟨c0, c1, c2, c3, c4, c5, c6⟩, hz⟩, hI, k1, k2⟩ := h i hi
  have eg : L.getD i noneG = L[i] := by simp [List.getD, hi]
  refine ⟨⟨L[i], ss, cap⟩, b, off, e, eg.symm, fun j hj => ?_, hI.inAll, k1, k2⟩
  match j, hj with
  | 0, _ => exact c0
  | 1, _ => exact c1
  | 2, _ => exact c2
  | 3, _ => exact c3
  | 4, _ => exact c4
  | 5, _ => exact c5
  | 6, _ => exact c6
  | j + 7, hj => omega
 have h2 : ∃ f : Nat → Gc, ∀ i, i < L.length → ∃ b off, ls = some ⟨b, off, none⟩ ∧ ((f i).g = L.getD i noneG) ∧ (∀ j, j < 7 → w.cell? ⟨b, off + i * 7 + j, none⟩ = (gcCells (f i))[j]?) ∧ GcIn (fun b => b < w.heap.size) w (f i) := by
  refine ⟨fun i => if hi : i < L.length then Classical.choose (h1 i hi) else ⟨noneG, none, 0⟩, fun i hi => ?_⟩
  simp only [dif_pos hi]
  exact Classical.choose_spec (h1 i hi)
 obtain ⟨f, hf⟩ := h2
 refine ⟨(List.range L.length).map f, ?_, ?_, ?_, ?_⟩
 ·refine List.ext_getElem (by simp) fun i hi1 hi2 => ?_
  obtain ⟨_, _, _, e, _⟩ := hf i hi2
  simp only [List.getElem_map, List.getElem_range]
  rw [e]
  simp [List.getD, hi2]
 ·intro ad had j u hju
  have hj : j < L.length * 7 := by
   have := (List.getElem?_eq_some_iff.1 hju).1
   rw [rowCells_len] at this
   simpa using this
  have e1 : j = j / 7 * 7 + j % 7 := by omega
  have hi : j / 7 < L.length := by omega
  rw [e1] at hju
  rw [rowCells_get _ (j / 7) (by simpa using hi) (j % 7) (by omega)] at hju
  obtain ⟨b, off, e, _, hc, _⟩ := hf (j / 7) hi
  rw [had] at e
  cases e
  have := hc (j % 7) (by omega)
  rw [Addr.add_lit]
  have e2 : off + j = off + j / 7 * 7 + j % 7 := by omega
  rw [e2, this]
  simpa using hju
 ·intro h0
  cases L with
  | nil => rfl
  | cons a r =>
   obtain ⟨_, _, e, _⟩ := hf 0 (by simp)
   rw [h0] at e
   cases e
 ·intro y hy
  rw [List.mem_map] at hy
  obtain ⟨i, hi, rfl⟩ := hy
  obtain ⟨_, _, _, _, _, hx⟩ := hf i (by simpa using hi)
  exact hx

/-- A row of guesses in memory of its own (from block B on), its sites in older memory. -/
def CRow (w : World) (B : Nat) (v : Value) (l : List Gc) : Prop := w.ownsRow B 61 7 v l.length (rowCells l) ∧ ∀ x ∈ l, GcIn (fun b => b < B) w x
theorem CRow.grown (h : CRow w B v l) (hx : ∀ x ∈ l2, GcIn (fun b => b < B) w x) (hr : w'.ownsRow B 61 7 v' (l.length + l2.length) (rowCells l ++ rowCells l2)) (hg : w.grownBy w' v.ownBlock) : CRow w' B v' (l ++ l2) := by
 refine ⟨by rw [List.length_append, rowCells_append]; exact hr, fun y hy => ?_⟩
 have hy' : GcIn (fun b => b < B) w y := by
  rcases List.mem_append.1 hy with hy | hy
  ·exact h.2 y hy
  ·exact hx y hy
 exact ⟨hy'.1.same (fun b hS hb => hg.block b hb (fun e => by have := (ownsI_lt h.1 e.symm).2; omega)) hg.size, hy'.2⟩
theorem CRow.at (h : CRow w B v l) : ∃ rs rc, v = .slice rs l.length rc ∧ l.length ≤ rc ∧ rc ≤ maxLen ∧ GsAt w rs (l.map Gc.g) ∧ ∀ a, rs = some a → B ≤ a.block := by
 refine GRow.at (B := B) ⟨h.1, fun x hx => ⟨(h.2 x hx).1.mono fun b hb _ e => ?_, (h.2 x hx).2⟩⟩
 have := (ownsI_lt h.1 e).2
 omega
end
theorem rowCells_one (l : List Gc) : ∀ u ∈ rowCells l, u.oneCell' = true := by
 intro u hu
 unfold rowCells at hu
 rw [List.mem_flatMap] at hu
 obtain ⟨x, -, hx⟩ := hu
 exact gcCells_one x u hx
/-- .. also in a later world. -/
theorem GsAt.gcsTo {w w' : World} {ls : Option Addr} {L : List Gs} (h : GsAt w ls L) (hb : Below w.heap.size w w') : ∃ l : List Gc, l.map Gc.g = L ∧ (∀ ad, ls = some ad → ∀ j u, (rowCells l)[j]? = some u → w'.cell? (ad.add j) = some u) ∧ (ls = none → L.length = 0) ∧ (∀ y ∈ l, GcIn (fun b => b < w.heap.size) w' y) ∧ (rowCells l).length = L.length * 7 := by
 obtain ⟨l, e, h1, h2, h3⟩ := h.gcs
 refine ⟨l, e, fun ad ha j u hj => ?_, fun h0 => by rw [← e, h2 h0]; rfl, fun y hy => ⟨(h3 y hy).1.call hb, (h3 y hy).2⟩, by rw [rowCells_len, ← e, List.length_map]⟩
 have := h1 ad ha j u hj
 rw [hb.cell (World.block_lt_of_cell? w _ this)]
 exact this
theorem strayAt_step (c : List Ins) (p : Gs → Bool) (L : List (List Gs)) (k : Nat) (h : k < L.length) : strayAt c p k (L.drop k) = ((!isSite c k && L[k].any p) || strayAt c p (k + 1) (L.drop (k + 1))) := by
 rw [List.drop_eq_getElem_cons h]
 rfl
theorem any_drop_stepJ {α : Type} (l : List α) (p : α → Bool) (k : Nat) (h : k < l.length) : (l.drop k).any p = (p l[k] || (l.drop (k + 1)).any p) := by
 rw [List.drop_eq_getElem_cons h]
 rfl
theorem Tryz.info_guess : (Tryz.prog.info? 61).map (fun i => (i.zero, i.size, i.bytes)) = some (some (.agg #[.bool false, .bool false, .int .i64 0, .int .i64 0, .bool false, .bool false, .slice none 0 0]), 7, 64) := by kernel_rfl
/-- As many as rows of one length have. -/
theorem flat_len {α : Type} {n : Nat} : ∀ {L : List (List α)}, (∀ r ∈ L, r.length = n) → L.flatten.length = L.length * n
 | [], _ => by simp
 | r :: L, h => by
  rw [List.flatten_cons, List.length_append, h r List.mem_cons_self, flat_len fun r' hr' => h r' (List.mem_cons_of_mem _ hr'), List.length_cons, Nat.add_mul]
  omega
theorem flat_take {α : Type} (L : List (List α)) (k : Nat) (h : k < L.length) : (L.take (k + 1)).flatten = (L.take k).flatten ++ L[k] := by
 rw [List.take_succ_eq_append_getElem h, List.flatten_append]
 simp
end
end Go.Proofs.YtmapdpcfanecdabGreat
