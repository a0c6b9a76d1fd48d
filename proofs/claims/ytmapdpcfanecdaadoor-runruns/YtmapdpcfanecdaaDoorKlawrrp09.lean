/- A run's rows in memory of the call's own, without the variable that holds them; and how they are read. -/
import Derived.Test.YtmapdpcfanecdaaDoorKlawrrp08
import Derived.Test.YtmapdpcfanecdaaDoorKlawrrp03
import Derived.Test.YtmapdpcfanecdaaDoorKlawrrp04
namespace Go.Proofs.YtmapdpcfanecdaaDoor
set_option linter.unusedVariables false
set_option linter.unusedSimpArgs false
open Go.RowKit

section
variable {w w' w1 : World} {B m : Nat} {s : St} {vv tv lv : Value} {fv : List Value}

theorem OwnRun.parted (h : OwnRun w B m s vv tv lv fv) : (∀ x, some x ∈ (vv.ownBlock :: tv.ownBlock :: lv.ownBlock :: fv.map Value.ownBlock) → x ≠ m) ∧ (∀ x, vv.ownBlock = some x → some x ∉ (tv.ownBlock :: lv.ownBlock :: fv.map Value.ownBlock)) ∧ (∀ x, tv.ownBlock = some x → some x ∉ (lv.ownBlock :: fv.map Value.ownBlock)) ∧ (∀ x, lv.ownBlock = some x → some x ∉ fv.map Value.ownBlock) ∧ (fv.map Value.ownBlock).Pairwise (fun a b => ∀ x, a = some x → b ≠ some x) := by
  have ha := h.apart
  simp only [List.pairwise_cons] at ha
  obtain ⟨h1, h2, h3, h4, h5⟩ := ha
  exact ⟨fun x hx e => h1 _ hx m rfl (by rw [e]), fun x hx hm => h2 _ hm x hx rfl, fun x hx hm => h3 _ hm x hx rfl, fun x hx hm => h4 _ hm x hx rfl, h5⟩

theorem apart_of (h1 : ∀ x, some x ∈ (vv.ownBlock :: tv.ownBlock :: lv.ownBlock :: fv.map Value.ownBlock) → x ≠ m) (h2 : ∀ x, vv.ownBlock = some x → some x ∉ (tv.ownBlock :: lv.ownBlock :: fv.map Value.ownBlock)) (h3 : ∀ x, tv.ownBlock = some x → some x ∉ (lv.ownBlock :: fv.map Value.ownBlock)) (h4 : ∀ x, lv.ownBlock = some x → some x ∉ fv.map Value.ownBlock) (h5 : (fv.map Value.ownBlock).Pairwise (fun a b => ∀ x, a = some x → b ≠ some x)) :
    (some m :: vv.ownBlock :: tv.ownBlock :: lv.ownBlock :: fv.map Value.ownBlock).Pairwise fun a b => ∀ x, a = some x → b ≠ some x := by
  simp only [List.pairwise_cons]
  refine ⟨fun b hb x hx e => ?_, fun b hb x hx e => ?_, fun b hb x hx e => ?_, fun b hb x hx e => ?_, h5⟩
  · cases hx; subst e; exact h1 _ hb rfl
  · subst e; exact h2 x hx hb
  · subst e; exact h3 x hx hb
  · subst e; exact h4 x hx hb

/-- The lines' row has grown by one. -/
theorem OwnRun.grow_lines (h : OwnRun w B m s vv tv lv fv) {g cap : Nat} {t : ByteArray} (hB : B ≤ w.heap.size)
    (hown : w1.ownsRow B 9 1 (.slice (some ⟨g, 0, none⟩) (s.lines.length + 1) cap) (s.lines.length + 1) (s.lines.map .string ++ [.string t])) (hgrow : w.grownBy w1 lv.ownBlock) (hat : lv.ownBlock = some g ∨ w.heap.size ≤ g) :
    OwnRun (w1.setCell ⟨m, 4, none⟩ (.slice (some ⟨g, 0, none⟩) (s.lines.length + 1) cap)) B m { s with lines := s.lines ++ [t] } vv tv (.slice (some ⟨g, 0, none⟩) (s.lines.length + 1) cap) fv := by
  obtain ⟨p1, p2, p3, p4, p5⟩ := h.parted
  have lt : ∀ {k : Nat}, some k ∈ ownBlocks m vv tv lv fv → k < w.heap.size := fun hk => h.lt hk
  have hm : m < w.heap.size := lt (by simp [ownBlocks])
  have hlm : some m ≠ lv.ownBlock := fun e => p1 m (by rw [e]; simp) rfl
  have hgm : g ≠ m := by
    rcases hat with e | e
    · exact p1 g (by rw [← e]; simp)
    · omega
  have bm := hgrow.block m hm hlm
  have c : ∀ j, w1.cell? ⟨m, j, none⟩ = w.cell? ⟨m, j, none⟩ := fun j => World.cell?_of_block (a := ⟨m, j, none⟩) bm
  have fz : ∀ j, w1.frozen? ⟨m, j, none⟩ = w.frozen? ⟨m, j, none⟩ := fun j => World.frozen?_of_block (a := ⟨m, j, none⟩) bm
  have co : ∀ i, i ≠ 4 → (w1.setCell ⟨m, 4, none⟩ (.slice (some ⟨g, 0, none⟩) (s.lines.length + 1) cap)).cell? ⟨m, i, none⟩ = w.cell? ⟨m, i, none⟩ := fun i hi => by rw [World.cell?_setCell_other _ _ _ _ (by intro e; cases e; exact hi rfl), c]
  have cs : (w1.setCell ⟨m, 4, none⟩ (.slice (some ⟨g, 0, none⟩) (s.lines.length + 1) cap)).cell? ⟨m, 4, none⟩ = some (.slice (some ⟨g, 0, none⟩) (s.lines.length + 1) cap) := World.cell?_setCell_same _ _ _ (by rw [c]; exact h.lines_)
  have hb : ∀ k, k < w.heap.size → k ≠ m → some k ≠ lv.ownBlock → (w1.setCell ⟨m, 4, none⟩ (.slice (some ⟨g, 0, none⟩) (s.lines.length + 1) cap)).heap[k]? = w.heap[k]? := fun k h1 h2 h3 => by rw [Below.heap_setCell _ _ _ _ h2, hgrow.block k h1 h3]
  have hv : ∀ k, vv.ownBlock = some k → k < w.heap.size ∧ k ≠ m ∧ some k ≠ lv.ownBlock := fun k hk => ⟨lt (by simp [ownBlocks, hk]), p1 k (by simp [hk]), fun e => p2 k hk (by simp [e])⟩
  have ht : ∀ k, tv.ownBlock = some k → k < w.heap.size ∧ k ≠ m ∧ some k ≠ lv.ownBlock := fun k hk => ⟨lt (by simp [ownBlocks, hk]), p1 k (by simp [hk]), fun e => p3 k hk (by simp [e])⟩
  have hf : ∀ k, some k ∈ fv.map Value.ownBlock → k < w.heap.size ∧ k ≠ m ∧ some k ≠ lv.ownBlock := fun k hk => ⟨lt (by simp only [ownBlocks, List.mem_cons]; simp only [hk, or_true]), p1 k (by simp only [List.mem_cons]; simp only [hk, or_true]), fun e => p4 k e.symm hk⟩
  have hg : ∀ k, k < w.heap.size → some k ≠ lv.ownBlock → k ≠ g := fun k h1 h2 e => by
    rcases hat with e' | e'
    · exact h2 (by rw [e', e])
    · omega
  refine ⟨h.low, by rw [co 0 (by omega)]; exact h.at_, by rw [co 1 (by omega)]; exact h.vars_, by rw [co 2 (by omega)]; exact h.things_, by rw [co 3 (by omega)]; exact h.taken_, cs, by rw [co 5 (by omega)]; exact h.fin_,
    fun j => by rw [World.frozen?_setCell, fz]; exact h.thaw j, ownsRow_of_block h.vars (fun k hk => hb k (hv k hk).1 (hv k hk).2.1 (hv k hk).2.2), ownsRow_of_block h.things (fun k hk => hb k (ht k hk).1 (ht k hk).2.1 (ht k hk).2.2), h.count,
    fun i hi => ownsRow_of_block (h.fields i hi) (fun k hk => ?_), ?_, ?_⟩
  · have q := hf k (List.mem_map.2 ⟨_, List.getElem_mem _, hk⟩)
    exact hb k q.1 q.2.1 q.2.2
  · simp only [List.length_append, List.length_cons, List.length_nil, List.map_append, List.map_cons, List.map_nil]
    exact ownsRow_of_block hown (fun k hk => by cases hk; exact Below.heap_setCell _ _ _ _ hgm)
  · refine apart_of (fun x hx => ?_) (fun x hx hm' => ?_) (fun x hx hm' => ?_) (fun x hx hm' => ?_) p5
    · rcases List.mem_cons.1 hx with hx | hx
      · exact p1 x (by simp [hx])
      · rcases List.mem_cons.1 hx with hx | hx
        · exact p1 x (by simp [hx])
        · rcases List.mem_cons.1 hx with hx | hx
          · cases hx; exact hgm
          · exact p1 x (by simp only [List.mem_cons]; simp only [hx, or_true])
    · rcases List.mem_cons.1 hm' with hm' | hm'
      · exact p2 x hx (by simp [hm'])
      · rcases List.mem_cons.1 hm' with hm' | hm'
        · cases hm'; exact hg g (hv g hx).1 (hv g hx).2.2 rfl
        · exact p2 x hx (by simp only [List.mem_cons]; simp only [hm', or_true])
    · rcases List.mem_cons.1 hm' with hm' | hm'
      · cases hm'; exact hg g (ht g hx).1 (ht g hx).2.2 rfl
      · exact p3 x hx (by simp only [List.mem_cons]; simp only [hm', or_true])
    · cases hx
      have q := hf g hm'
      exact hg g q.1 q.2.2 rfl

theorem thgCells_snoc : ∀ (ss : List Int) (fs : List Value) (_ : fs.length = ss.length) (x : Int) (f : Value), thgCells (ss ++ [x]) (fs ++ [f]) = thgCells ss fs ++ [.int .i64 x, f]
  | [], [], _, _, _ => rfl
  | [], _ :: _, h, _, _ => by simp at h
  | _ :: _, [], h, _, _ => by simp at h
  | a :: ss, b :: fs, h, x, f => by
    have := thgCells_snoc ss fs (by simpa using h) x f
    simp only [List.cons_append, thgCells, this]
theorem thgCells_length : ∀ (ss : List Int) (fs : List Value) (_ : fs.length = ss.length), (thgCells ss fs).length = ss.length * 2
  | [], _, _ => by simp [thgCells]
  | _ :: _, [], h => by simp at h
  | _ :: ss, _ :: fs, h => by
    have := thgCells_length ss fs (by simpa using h)
    simp only [thgCells, List.length_cons, this]; omega
theorem thgCells_site : ∀ (ss : List Int) (fs : List Value) (_ : fs.length = ss.length) (i : Nat) (h : i < ss.length), (thgCells ss fs)[i * 2]? = some (.int .i64 ss[i])
  | [], _, _, _, h => by simp at h
  | _ :: _, [], h, _, _ => by simp at h
  | _ :: _, _ :: _, _, 0, _ => rfl
  | _ :: ss, _ :: fs, h, i + 1, hi => by
    rw [show (i + 1) * 2 = i * 2 + 1 + 1 by omega]
    simpa [thgCells] using thgCells_site ss fs (by simpa using h) i (by simpa using hi)
theorem thgCells_field : ∀ (ss : List Int) (fs : List Value) (_ : fs.length = ss.length) (i : Nat) (h : i < fs.length), (thgCells ss fs)[i * 2 + 1]? = some fs[i]
  | [], [], _, _, h => by simp at h
  | [], _ :: _, h, _, _ => by simp at h
  | _ :: _, [], h, _, _ => by simp at h
  | _ :: _, _ :: _, _, 0, _ => rfl
  | _ :: ss, _ :: fs, h, i + 1, hi => by
    rw [show (i + 1) * 2 + 1 = (i * 2 + 1) + 1 + 1 by omega]
    simpa [thgCells] using thgCells_field ss fs (by simpa using h) i (by simpa using hi)

/-- The things' row has grown by one, whose fields lie in a row apart. -/
theorem OwnRun.grow_things (h : OwnRun w B m s vv tv lv fv) {g cap : Nat} {x : Int} {l : List Val} {fn : Value} (hf0 : ValRow w B fn l) (hfa : ∀ k, fn.ownBlock = some k → some k ∉ ownBlocks m vv tv lv fv)
    (hown : w1.ownsRow B 99 2 (.slice (some ⟨g, 0, none⟩) (s.things.length + 1) cap) (s.things.length + 1) (thgCells (s.things.map (·.site)) fv ++ [.int .i64 x, fn])) (hgrow : w.grownBy w1 tv.ownBlock) (hat : tv.ownBlock = some g ∨ w.heap.size ≤ g) :
    OwnRun (w1.setCell ⟨m, 2, none⟩ (.slice (some ⟨g, 0, none⟩) (s.things.length + 1) cap)) B m { s with things := s.things ++ [⟨x, l⟩] } vv (.slice (some ⟨g, 0, none⟩) (s.things.length + 1) cap) lv (fv ++ [fn]) := by
  obtain ⟨p1, p2, p3, p4, p5⟩ := h.parted
  have lt : ∀ {k : Nat}, some k ∈ ownBlocks m vv tv lv fv → k < w.heap.size := fun hk => h.lt hk
  have hm : m < w.heap.size := lt (by simp [ownBlocks])
  have hlm : some m ≠ tv.ownBlock := fun e => p1 m (by rw [e]; simp) rfl
  have hgm : g ≠ m := by
    rcases hat with e | e
    · exact p1 g (by rw [← e]; simp)
    · omega
  have bm := hgrow.block m hm hlm
  have c : ∀ j, w1.cell? ⟨m, j, none⟩ = w.cell? ⟨m, j, none⟩ := fun j => World.cell?_of_block (a := ⟨m, j, none⟩) bm
  have fz : ∀ j, w1.frozen? ⟨m, j, none⟩ = w.frozen? ⟨m, j, none⟩ := fun j => World.frozen?_of_block (a := ⟨m, j, none⟩) bm
  have co : ∀ i, i ≠ 2 → (w1.setCell ⟨m, 2, none⟩ (.slice (some ⟨g, 0, none⟩) (s.things.length + 1) cap)).cell? ⟨m, i, none⟩ = w.cell? ⟨m, i, none⟩ := fun i hi => by rw [World.cell?_setCell_other _ _ _ _ (by intro e; cases e; exact hi rfl), c]
  have cs : (w1.setCell ⟨m, 2, none⟩ (.slice (some ⟨g, 0, none⟩) (s.things.length + 1) cap)).cell? ⟨m, 2, none⟩ = some (.slice (some ⟨g, 0, none⟩) (s.things.length + 1) cap) := World.cell?_setCell_same _ _ _ (by rw [c]; exact h.things_)
  have hb : ∀ k, k < w.heap.size → k ≠ m → some k ≠ tv.ownBlock → (w1.setCell ⟨m, 2, none⟩ (.slice (some ⟨g, 0, none⟩) (s.things.length + 1) cap)).heap[k]? = w.heap[k]? := fun k h1 h2 h3 => by rw [Below.heap_setCell _ _ _ _ h2, hgrow.block k h1 h3]
  have hv : ∀ k, vv.ownBlock = some k → k < w.heap.size ∧ k ≠ m ∧ some k ≠ tv.ownBlock := fun k hk => ⟨lt (by simp [ownBlocks, hk]), p1 k (by simp [hk]), fun e => p2 k hk (by simp [e])⟩
  have ht : ∀ k, lv.ownBlock = some k → k < w.heap.size ∧ k ≠ m ∧ some k ≠ tv.ownBlock := fun k hk => ⟨lt (by simp [ownBlocks, hk]), p1 k (by simp [hk]), fun e => p3 k e.symm (by simp [hk])⟩
  have hf : ∀ k, some k ∈ fv.map Value.ownBlock → k < w.heap.size ∧ k ≠ m ∧ some k ≠ tv.ownBlock := fun k hk => ⟨lt (by simp only [ownBlocks, List.mem_cons]; simp only [hk, or_true]), p1 k (by simp only [List.mem_cons]; simp only [hk, or_true]), fun e => p3 k e.symm (by simp only [List.mem_cons]; simp only [hk, or_true])⟩
  have hn : ∀ k, fn.ownBlock = some k → k < w.heap.size ∧ k ≠ m ∧ some k ≠ tv.ownBlock := fun k hk => ⟨(ownsRow_block_lt hf0 hk).1, fun e => hfa k hk (by simp [ownBlocks, e]), fun e => hfa k hk (by simp [ownBlocks, e])⟩
  have hg : ∀ k, k < w.heap.size → some k ≠ tv.ownBlock → k ≠ g := fun k h1 h2 e => by
    rcases hat with e' | e'
    · exact h2 (by rw [e', e])
    · omega
  have hfn : ∀ k, fn.ownBlock = some k → vv.ownBlock ≠ some k ∧ lv.ownBlock ≠ some k ∧ some k ∉ fv.map Value.ownBlock := fun k hk => ⟨fun e => hfa k hk (by simp [ownBlocks, e]), fun e => hfa k hk (by simp [ownBlocks, e]), fun e => hfa k hk (by simp only [ownBlocks, List.mem_cons]; simp only [e, or_true])⟩
  refine ⟨h.low, by rw [co 0 (by omega)]; exact h.at_, by rw [co 1 (by omega)]; exact h.vars_, cs, by rw [co 3 (by omega)]; exact h.taken_, by rw [co 4 (by omega)]; exact h.lines_, by rw [co 5 (by omega)]; exact h.fin_,
    fun j => by rw [World.frozen?_setCell, fz]; exact h.thaw j, ownsRow_of_block h.vars (fun k hk => hb k (hv k hk).1 (hv k hk).2.1 (hv k hk).2.2), ?_, by simp [h.count],
    fun i hi => ?_, ownsRow_of_block h.lines (fun k hk => hb k (ht k hk).1 (ht k hk).2.1 (ht k hk).2.2), ?_⟩
  · simp only [List.length_append, List.length_cons, List.length_nil, List.map_append, List.map_cons, List.map_nil]
    rw [thgCells_snoc _ _ (by simp [h.count])]
    exact ownsRow_of_block hown (fun k hk => by cases hk; exact Below.heap_setCell _ _ _ _ hgm)
  · by_cases hi' : i < s.things.length
    · have e1 : (fv ++ [fn])[i]'(by simp [h.count]; omega) = fv[i]'(by rw [h.count]; exact hi') := List.getElem_append_left _
      have e2 : (s.things ++ [(⟨x, l⟩ : Thg)])[i] = s.things[i] := List.getElem_append_left hi'
      rw [e1, e2]
      refine ownsRow_of_block (h.fields i hi') (fun k hk => ?_)
      have q := hf k (List.mem_map.2 ⟨_, List.getElem_mem _, hk⟩)
      exact hb k q.1 q.2.1 q.2.2
    · have hi2 : i = s.things.length := by simp at hi; omega
      subst hi2
      have e1 : (fv ++ [fn])[s.things.length]'(by simp [h.count]) = fn := by simp [← h.count]
      have e2 : (s.things ++ [(⟨x, l⟩ : Thg)])[s.things.length] = ⟨x, l⟩ := by simp
      rw [e1, e2]
      exact ownsRow_of_block hf0 (fun k hk => hb k (hn k hk).1 (hn k hk).2.1 (hn k hk).2.2)
  · have memS : ∀ x, some x ∈ (fv ++ [fn]).map Value.ownBlock → some x ∈ fv.map Value.ownBlock ∨ fn.ownBlock = some x := fun x hx => by
      simp only [List.map_append, List.map_cons, List.map_nil, List.mem_append, List.mem_singleton] at hx
      exact hx.imp id Eq.symm
    refine apart_of (fun x hx => ?_) (fun x hx hm' => ?_) (fun x hx hm' => ?_) (fun x hx hm' => ?_) ?_
    · rcases List.mem_cons.1 hx with hx | hx
      · exact p1 x (by simp [hx])
      · rcases List.mem_cons.1 hx with hx | hx
        · cases hx; exact hgm
        · rcases List.mem_cons.1 hx with hx | hx
          · exact p1 x (by simp [hx])
          · rcases memS x hx with hx | hx
            · exact p1 x (by simp only [List.mem_cons]; simp only [hx, or_true])
            · exact (hn x hx).2.1
    · rcases List.mem_cons.1 hm' with hm' | hm'
      · cases hm'; exact hg g (hv g hx).1 (hv g hx).2.2 rfl
      · rcases List.mem_cons.1 hm' with hm' | hm'
        · exact p2 x hx (by simp [hm'])
        · rcases memS x hm' with hm' | hm'
          · exact p2 x hx (by simp only [List.mem_cons]; simp only [hm', or_true])
          · exact (hfn x hm').1 hx
    · cases hx
      rcases List.mem_cons.1 hm' with hm' | hm'
      · exact hg g (ht g hm'.symm).1 (ht g hm'.symm).2.2 rfl
      · rcases memS g hm' with hm' | hm'
        · exact hg g (hf g hm').1 (hf g hm').2.2 rfl
        · exact hg g (hn g hm').1 (hn g hm').2.2 rfl
    · rcases memS x hm' with hm' | hm'
      · exact p4 x hx hm'
      · exact (hfn x hm').2.1 hx
    · rw [List.map_append]
      refine List.pairwise_append.2 ⟨p5, by simp, fun a ha b hb' x hx e => ?_⟩
      simp only [List.map_cons, List.map_nil, List.mem_singleton] at hb'
      subst hb'
      subst hx
      exact (hfn x e).2.2 ha

/-- A value stored into a field of a thing. -/
theorem OwnRun.put_field {g n cap : Nat} (h : OwnRun w B m s vv tv lv fv) (t : Nat) (ht : t < s.things.length) (hfv : fv[t]'(by rw [h.count]; exact ht) = .slice (some ⟨g, 0, none⟩) n cap) (i : Nat) (hi : i < s.things[t].fs.length) (v : Val) :
    OwnRun ((w.setCell ⟨g, i * 2, none⟩ (.int .i64 v.k)).setCell ⟨g, i * 2 + 1, none⟩ (.int .i64 v.n)) B m (putField s t i v) vv tv lv fv := by
  obtain ⟨p1, p2, p3, p4, p5⟩ := h.parted
  have htf : t < fv.length := by rw [h.count]; exact ht
  have hgm : some g ∈ fv.map Value.ownBlock := List.mem_map.2 ⟨_, List.getElem_mem htf, by rw [hfv]; rfl⟩
  have hb := heap_set2 w g (i * 2) (i * 2 + 1) (.int .i64 v.k) (.int .i64 v.n)
  have am : m ≠ g := fun e => p1 g (by simp only [List.mem_cons]; simp only [hgm, or_true]) e.symm
  have bm := hb m am
  have c : ∀ j, ((w.setCell ⟨g, i * 2, none⟩ (.int .i64 v.k)).setCell ⟨g, i * 2 + 1, none⟩ (.int .i64 v.n)).cell? ⟨m, j, none⟩ = w.cell? ⟨m, j, none⟩ := fun j => World.cell?_of_block (a := ⟨m, j, none⟩) bm
  have fz : ∀ j, ((w.setCell ⟨g, i * 2, none⟩ (.int .i64 v.k)).setCell ⟨g, i * 2 + 1, none⟩ (.int .i64 v.n)).frozen? ⟨m, j, none⟩ = w.frozen? ⟨m, j, none⟩ := fun j => World.frozen?_of_block (a := ⟨m, j, none⟩) bm
  have hfs := h.fields t ht
  rw [hfv] at hfs
  have hn : n = s.things[t].fs.length := ownsRow_len hfs
  have hv0 : w.ownsRow B 94 2 (.slice (some ⟨g, 0, none⟩) n cap) n (valCells s.things[t].fs) := by have := hfs; unfold ValRow at this; rw [← hn] at this; exact this
  have hv1 := (((hv0.stored (i * 2) (.int .i64 v.k)).1).stored (i * 2 + 1) (.int .i64 v.n)).1
  rw [valCells_set s.things[t].fs v i hi] at hv1
  have hlen : (s.things.modify t fun x => { x with fs := x.fs.set i v }).length = s.things.length := List.length_modify ..
  have hmap : (s.things.modify t fun x => { x with fs := x.fs.set i v }).map (·.site) = s.things.map (·.site) := by
    apply List.ext_getElem
    · simp
    · intro k h1 h2
      simp only [List.getElem_map, List.getElem_modify]
      split <;> rfl
  have e0 : putField s t i v = { s with things := s.things.modify t fun x => { x with fs := x.fs.set i v } } := by simp [putField]
  rw [e0]
  refine ⟨h.low, by rw [c]; exact h.at_, by rw [c]; exact h.vars_, by rw [c]; exact h.things_, by rw [c]; exact h.taken_, by rw [c]; exact h.lines_, by rw [c]; exact h.fin_, fun j => by rw [fz]; exact h.thaw j,
    ownsRow_of_block h.vars (fun k hk => hb k (fun e => p2 k hk (by simp only [List.mem_cons]; rw [e]; simp only [hgm, or_true]))), ?_, by rw [hlen]; exact h.count, fun j hj => ?_, ownsRow_of_block h.lines (fun k hk => hb k (fun e => p4 k hk (by rw [e]; exact hgm))), h.apart⟩
  · simp only [hlen, hmap]
    exact ownsRow_of_block h.things (fun k hk => hb k (fun e => p3 k hk (by simp only [List.mem_cons]; rw [e]; simp only [hgm, or_true])))
  · have hj' : j < s.things.length := by rw [hlen] at hj; exact hj
    simp only [List.getElem_modify]
    by_cases htj : t = j
    · subst htj
      simp only [if_true]
      rw [hfv]
      unfold ValRow
      simp only [List.length_set]
      rw [← hn]
      exact hv1
    · simp only [htj, if_false]
      refine ownsRow_of_block (h.fields j hj') (fun k hk => hb k (fun e => ?_))
      subst e
      have hjf : j < fv.length := by rw [h.count]; exact hj'
      rw [List.pairwise_iff_getElem] at p5
      rcases Nat.lt_or_gt_of_ne htj with hlt | hlt
      · exact p5 t j (by simpa using htf) (by simpa using hjf) hlt k (by simp [hfv, Value.ownBlock]) (by simpa using hk)
      · exact p5 j t (by simpa using hjf) (by simpa using htf) hlt k (by simpa using hk) (by simp [hfv, Value.ownBlock])
end
end Go.Proofs.YtmapdpcfanecdaaDoor

namespace Go.Proofs.YtmapdpcfanecdaaDoor
set_option linter.unusedVariables false
set_option linter.unusedSimpArgs false

/-- Over 2 to the power of 64. -/
def w64 (n : Int) : Int := (n + 9223372036854775808) % 18446744073709551616 - 9223372036854775808
theorem w64_of {n : Int} (h0 : -9223372036854775808 ≤ n) (h1 : n ≤ 9223372036854775807) : w64 n = n := by unfold w64; omega
def zeroIns : Ins := ⟨0, 0, 0, 0, 0, 0⟩
def insAt (c : List Ins) (p : Int) : Ins := c.getD p.toNat zeroIns
/-- What a value is shown as. -/
def showB (v : Val) : ByteArray :=
  if v.k = 0 then ⟨#[110, 117, 108, 108]⟩ else if v.k = 1 then itoaB v.n
  else if v.k = 2 then (if v.n = 1 then ⟨#[116, 114, 117, 101]⟩ else ⟨#[102, 97, 108, 115, 101]⟩) else ⟨#[116, 104, 105, 110, 103]⟩
/-- How an instruction ends a run: 0: it does not. -/
def endOf (T : Nat) (i : Ins) (a b : Val) : Int :=
  if i.k = 19 then 1
  else if (btw i.k 5 8 && (decide (a.k ≠ 1) || decide (b.k ≠ 1))) || ((decide (i.k = 12) || decide (i.k = 13)) && decide (a.k ≠ 3)) then 2
  else if decide (i.k = 17) && !cnt a then 3
  else if decide (i.k = 11) && decide (T = 100) then 5
  else 0
/-- The value that an instruction makes. -/
def makes (r : St) (ins : List Int) (i : Ins) (a b : Val) : Val :=
  if i.k = 1 then ⟨1, i.n⟩ else if i.k = 2 then ⟨2, i.n⟩ else if i.k = 4 then a
  else if i.k = 5 then ⟨1, wr (a.n + b.n)⟩ else if i.k = 6 then ⟨1, wr (a.n - b.n)⟩ else if i.k = 7 then ⟨1, wr (a.n * b.n)⟩
  else if i.k = 8 then truV (decide (a.n < b.n)) else if i.k = 9 then truV (decide (a.k = b.k) && decide (a.n = b.n)) else if i.k = 10 then truV (!cnt a)
  else if i.k = 11 then ⟨3, r.things.length⟩ else if i.k = 12 then fieldAt r a.n i.n
  else if i.k = 14 then ⟨1, if r.taken < ins.length then clamp i.n (ins.getD r.taken.toNat 0) else 0⟩
  else ⟨0, 0⟩
/-- An instruction done that does not end the run. -/
def doIns (F : Int) (ins : List Int) (r : St) (i : Ins) (a b : Val) : St :=
  let v := makes r ins i a b
  let r1 : St := if i.k = 11 then { r with things := r.things ++ [⟨r.at_, List.replicate F.toNat ⟨0, 0⟩⟩] } else if i.k = 13 then putField r a.n i.n b
    else if i.k = 14 then { r with taken := w64 (r.taken + 1) } else if i.k = 18 then { r with lines := r.lines ++ [showB a] } else r
  let r2 : St := if nTo i.k then putVar r1 i.to v else r1
  { r2 with at_ := if i.k = 16 ∨ (i.k = 15 ∧ cnt a = true) then i.g else r.at_ + 1 }
/-- One step. -/
def stepSt (F : Int) (c : List Ins) (ins : List Int) (r : St) : St :=
  if r.fin ≠ 0 then r
  else if r.at_ = c.length then { r with fin := 1 }
  else
    let i := insAt c r.at_
    let a := if nA i.k then varAt r i.a else ⟨0, 0⟩
    let b := if nB i.k then varAt r i.b else ⟨0, 0⟩
    if endOf r.things.length i a b ≠ 0 then { r with fin := endOf r.things.length i a b } else doIns F ins r i a b
/-- A run's beginning. -/
def beginSt (V : Int) : St := ⟨0, List.replicate V.toNat ⟨0, 0⟩, [], 0, [], 0⟩
/-- So many steps, as long as the run has not ended; and how many there were. -/
def stepsSt (F : Int) (c : List Ins) (ins : List Int) : Nat → St → St × Nat
  | 0, r => (r, 0)
  | n + 1, r => if r.fin ≠ 0 then (r, 0) else ((stepsSt F c ins n (stepSt F c ins r)).1, (stepsSt F c ins n (stepSt F c ins r)).2 + 1)
def runSt (V F : Int) (c : List Ins) (ins : List Int) (fuel : Nat) : St × Nat :=
  let q := stepsSt F c ins fuel (beginSt V)
  (if q.1.fin = 0 then { q.1 with fin := 4 } else q.1, q.2)
/-- What is told of a run, in a program that is right. -/
def okValB (T : Nat) (v : Val) : Bool := (decide (v.k = 0) && decide (v.n = 0)) || ((decide (v.k = 1) && btw v.n (-2147483648) 2147483647) || ((decide (v.k = 2) && btw v.n 0 1) || (decide (v.k = 3) && btw v.n 0 ((T : Int) - 1))))
def isNew (c : List Ins) (x : Int) : Bool := btw x 0 ((c.length : Int) - 1) && decide ((insAt c x).k = 11)
def ckRun (V F : Int) (c : List Ins) (r : St) : Int :=
  if (!btw r.at_ 0 c.length || decide (r.taken < 0)) || !btw r.fin 0 5 then 3
  else if (r.vars.length : Int) ≠ V then 1
  else if 100 < r.things.length then 2
  else if r.things.all (fun t => isNew c t.site) = false then 5
  else if r.things.all (fun t => decide ((t.fs.length : Int) = F)) = false then 1
  else if (r.vars.all (okValB r.things.length) && r.things.all fun t => t.fs.all (okValB r.things.length)) = false then 4
  else 0
end Go.Proofs.YtmapdpcfanecdaaDoor

namespace Go.Proofs.YtmapdpcfanecdaaDoor
set_option linter.unusedVariables false
set_option linter.unusedSimpArgs false
open Go.RowKit

/-- A list of things lies behind a slice's address, their fields behind theirs. -/
def ThgsAt (w : World) (s : Option Addr) (l : List Thg) : Prop :=
  l = [] ∨ ∃ b off, s = some ⟨b, off, none⟩ ∧ b < w.heap.size ∧ ∀ k (h : k < l.length), w.cell? ⟨b, off + k * 2, none⟩ = some (.int .i64 l[k].site) ∧ ∃ f fc, w.cell? ⟨b, off + k * 2 + 1, none⟩ = some (.slice f l[k].fs.length fc) ∧ ValsAt w f l[k].fs
/-- A list of texts. -/
def StrsAt (w : World) (s : Option Addr) (l : List ByteArray) : Prop :=
  l = [] ∨ ∃ b off, s = some ⟨b, off, none⟩ ∧ b < w.heap.size ∧ ∀ k (h : k < l.length), w.cell? ⟨b, off + k, none⟩ = some (.string l[k])
theorem ThgsAt.below {B : Nat} {w w' : World} {s : Option Addr} {l : List Thg} (h : ThgsAt w s l) (hb : Below B w w') (hB : w.heap.size ≤ B) : ThgsAt w' s l := by
  rcases h with h | ⟨b, off, hs, hlt, hi⟩
  · exact .inl h
  · refine .inr ⟨b, off, hs, Nat.lt_of_lt_of_le hlt hb.size, fun k h => ?_⟩
    obtain ⟨h1, f, fc, h2, h3⟩ := hi k h
    exact ⟨by rw [hb.cell (by simp; omega)]; exact h1, f, fc, by rw [hb.cell (by simp; omega)]; exact h2, h3.below hb hB⟩
theorem StrsAt.below {B : Nat} {w w' : World} {s : Option Addr} {l : List ByteArray} (h : StrsAt w s l) (hb : Below B w w') (hB : w.heap.size ≤ B) : StrsAt w' s l := by
  rcases h with h | ⟨b, off, hs, hlt, hi⟩
  · exact .inl h
  · exact .inr ⟨b, off, hs, Nat.lt_of_lt_of_le hlt hb.size, fun k h => by rw [hb.cell (by simp; omega)]; exact hi k h⟩

/-- What a run's slices lead to. -/
def RunAt (w : World) (r : St) (vs ts ls : Option Addr) : Prop := ValsAt w vs r.vars ∧ ThgsAt w ts r.things ∧ StrsAt w ls r.lines
theorem RunAt.below {B : Nat} {w w' : World} {r : St} {vs ts ls : Option Addr} (h : RunAt w r vs ts ls) (hb : Below B w w') (hB : w.heap.size ≤ B) : RunAt w' r vs ts ls := ⟨h.1.below hb hB, h.2.1.below hb hB, h.2.2.below hb hB⟩
/-- A run, as a value. -/
def runV (r : St) (vs : Option Addr) (vc : Nat) (ts : Option Addr) (tc : Nat) (ls : Option Addr) (lc : Nat) : Value :=
  .agg #[.int .i64 r.at_, .slice vs r.vars.length vc, .slice ts r.things.length tc, .int .i64 r.taken, .slice ls r.lines.length lc, .int .i64 r.fin]
/-- Its lengths are lengths. -/
def LenSt (r : St) : Prop := r.vars.length ≤ maxLen ∧ r.things.length ≤ maxLen ∧ r.lines.length ≤ maxLen ∧ ∀ t ∈ r.things, t.fs.length ≤ maxLen
end Go.Proofs.YtmapdpcfanecdaaDoor

namespace Go.Proofs.YtmapdpcfanecdaaDoor
set_option linter.unusedVariables false
set_option linter.unusedSimpArgs false
open Go.RowKit

/-- A run's rows, apart from one another. -/
structure OwnRows (w : World) (B : Nat) (s : St) (vv tv lv : Value) (fv : List Value) : Prop where
  vars : ValRow w B vv s.vars
  things : w.ownsRow B 99 2 tv s.things.length (thgCells (s.things.map (·.site)) fv)
  count : fv.length = s.things.length
  fields : ∀ i (h : i < s.things.length), ValRow w B (fv[i]'(by rw [count]; exact h)) (s.things[i].fs)
  lines : w.ownsRow B 9 1 lv s.lines.length (s.lines.map .string)
  apart : (vv.ownBlock :: tv.ownBlock :: lv.ownBlock :: fv.map Value.ownBlock).Pairwise fun a b => ∀ x, a = some x → b ≠ some x

section
variable {w w' : World} {B m : Nat} {s : St} {vv tv lv : Value} {fv : List Value}

theorem OwnRun.rows (h : OwnRun w B m s vv tv lv fv) : OwnRows w B s vv tv lv fv :=
  ⟨h.vars, h.things, h.count, h.fields, h.lines, by have := h.apart; rw [List.pairwise_cons] at this; exact this.2⟩

def rowBlocks (vv tv lv : Value) (fv : List Value) : List (Option Nat) := vv.ownBlock :: tv.ownBlock :: lv.ownBlock :: fv.map Value.ownBlock

theorem OwnRows.same (h : OwnRows w B s vv tv lv fv) (hb : ∀ k, some k ∈ rowBlocks vv tv lv fv → w'.heap[k]? = w.heap[k]?) : OwnRows w' B s vv tv lv fv :=
  ⟨ownsRow_of_block h.vars (fun k hk => hb k (by simp [rowBlocks, hk])), ownsRow_of_block h.things (fun k hk => hb k (by simp [rowBlocks, hk])), h.count,
    fun i hi => ownsRow_of_block (h.fields i hi) (fun k hk => hb k (by
      simp only [rowBlocks, List.mem_cons]; right; right; right
      exact List.mem_map.2 ⟨_, List.getElem_mem _, hk⟩)),
    ownsRow_of_block h.lines (fun k hk => hb k (by simp [rowBlocks, hk])), h.apart⟩

theorem OwnRows.lt (h : OwnRows w B s vv tv lv fv) {k : Nat} (hk : some k ∈ rowBlocks vv tv lv fv) : k < w.heap.size ∧ B ≤ k := by
  simp only [rowBlocks, List.mem_cons] at hk
  rcases hk with hk | hk | hk | hk
  · exact ownsRow_block_lt h.vars hk.symm
  · exact ownsRow_block_lt h.things hk.symm
  · exact ownsRow_block_lt h.lines hk.symm
  · obtain ⟨x, hx, hxk⟩ := List.mem_map.1 hk
    obtain ⟨i, hi, rfl⟩ := List.getElem_of_mem hx
    exact ownsRow_block_lt (h.fields i (by rw [← h.count]; exact hi)) hxk

theorem OwnRows.below (h : OwnRows w B s vv tv lv fv) (hb : Below w.heap.size w w') : OwnRows w' B s vv tv lv fv := h.same fun k hk => hb.block k (h.lt hk).1
/-- A cell of a block below its base is set. -/
theorem OwnRows.set (h : OwnRows w B s vv tv lv fv) {a : Addr} (ha : a.block < B) (v : Value) : OwnRows (w.setCell a v) B s vv tv lv fv := by
  refine h.same fun k hk => ?_
  have := (h.lt hk).2
  exact Below.heap_setCell _ _ _ _ (by omega)
theorem ownsRow_down {e : TypeId} {z : Nat} {v : Value} {n : Nat} {xs : List Value} {B' : Nat} (h : w.ownsRow B e z v n xs) (hB : B' ≤ B) : w.ownsRow B' e z v n xs := by
  obtain ⟨h1, h2⟩ := h
  refine ⟨h1, ?_⟩
  rcases h2 with h2 | ⟨g, cap, cur, hv, hb, r⟩
  · exact .inl h2
  · exact .inr ⟨g, cap, cur, hv, Nat.le_trans hB hb, r⟩
theorem OwnRows.down {B' : Nat} (h : OwnRows w B s vv tv lv fv) (hB : B' ≤ B) : OwnRows w B' s vv tv lv fv :=
  ⟨ownsRow_down h.vars hB, ownsRow_down h.things hB, h.count, fun i hi => ownsRow_down (h.fields i hi) hB, ownsRow_down h.lines hB, h.apart⟩

/-- The six cells of a run lie in block m. -/
def RunCells (w : World) (m : Nat) (s : St) (vv tv lv : Value) : Prop :=
  (w.cell? ⟨m, 0, none⟩ = some (.int .i64 s.at_) ∧ w.cell? ⟨m, 1, none⟩ = some vv ∧ w.cell? ⟨m, 2, none⟩ = some tv ∧ w.cell? ⟨m, 3, none⟩ = some (.int .i64 s.taken) ∧ w.cell? ⟨m, 4, none⟩ = some lv ∧ w.cell? ⟨m, 5, none⟩ = some (.int .i64 s.fin)) ∧ ∀ j, w.frozen? ⟨m, j, none⟩ = false

theorem OwnRows.run (h : OwnRows w B s vv tv lv fv) (hc : RunCells w m s vv tv lv) {B' : Nat} (hB : B' ≤ B) (hm : B' ≤ m) (hmB : m < B) : OwnRun w B' m s vv tv lv fv := by
  obtain ⟨⟨h0, h1, h2, h3, h4, h5⟩, hz⟩ := hc
  refine ⟨hm, h0, h1, h2, h3, h4, h5, hz, ownsRow_down h.vars hB, ownsRow_down h.things hB, h.count, fun i hi => ownsRow_down (h.fields i hi) hB, ownsRow_down h.lines hB, ?_⟩
  rw [List.pairwise_cons]
  refine ⟨fun b hb x hx e => ?_, h.apart⟩
  cases hx
  have := (h.lt (k := m) (by unfold rowBlocks; rw [← e]; exact hb)).2
  omega
theorem OwnRows.run' (h : OwnRows w B s vv tv lv fv) (hc : RunCells w m s vv tv lv) (hm : B ≤ m) (hne : some m ∉ rowBlocks vv tv lv fv) : OwnRun w B m s vv tv lv fv := by
  obtain ⟨⟨h0, h1, h2, h3, h4, h5⟩, hz⟩ := hc
  refine ⟨hm, h0, h1, h2, h3, h4, h5, hz, h.vars, h.things, h.count, h.fields, h.lines, ?_⟩
  rw [List.pairwise_cons]
  refine ⟨fun b hb x hx e => ?_, h.apart⟩
  cases hx
  exact hne (by unfold rowBlocks; rw [← e]; exact hb)

theorem ValRow.at {v : Value} {l : List Val} (h : ValRow w B v l) : ∃ vs vc, v = .slice vs l.length vc ∧ ValsAt w vs l := by
  unfold ValRow at h
  rcases h.2 with ⟨hv, hn⟩ | ⟨g, cap, cur, hv, hb, hg, _⟩
  · exact ⟨none, 0, by rw [hv, hn], .inl (List.eq_nil_of_length_eq_zero hn)⟩
  · subst hv
    refine ⟨some ⟨g, 0, none⟩, cap, rfl, ?_⟩
    by_cases h0 : l = []
    · exact .inl h0
    · refine .inr ⟨g, 0, rfl, (Array.getElem?_eq_some_iff.1 hg).1, fun k hk => ?_⟩
      rw [Nat.zero_add, h.cellAt (k * 2) (by omega), h.cellAt (k * 2 + 1) (by omega)]
      exact ⟨valCells_k l k hk, valCells_n l k hk⟩
theorem StrRow.at {v : Value} {l : List ByteArray} (h : w.ownsRow B 9 1 v l.length (l.map .string)) : ∃ vs vc, v = .slice vs l.length vc ∧ StrsAt w vs l := by
  rcases h.2 with ⟨hv, hn⟩ | ⟨g, cap, cur, hv, hb, hg, _⟩
  · exact ⟨none, 0, by rw [hv, hn], .inl (List.eq_nil_of_length_eq_zero hn)⟩
  · subst hv
    refine ⟨some ⟨g, 0, none⟩, cap, rfl, ?_⟩
    by_cases h0 : l = []
    · exact .inl h0
    · refine .inr ⟨g, 0, rfl, (Array.getElem?_eq_some_iff.1 hg).1, fun k hk => ?_⟩
      rw [Nat.zero_add, h.cellAt k (by omega)]
      simp [hk]
theorem OwnRows.at (h : OwnRows w B s vv tv lv fv) : ∃ vs vc ts tc ls lc, vv = .slice vs s.vars.length vc ∧ tv = .slice ts s.things.length tc ∧ lv = .slice ls s.lines.length lc ∧ RunAt w s vs ts ls := by
  obtain ⟨vs, vc, e1, h1⟩ := ValRow.at h.vars
  obtain ⟨ls, lc, e3, h3⟩ := StrRow.at h.lines
  have ht := h.things
  rcases ht.2 with ⟨hv, hn⟩ | ⟨g, cap, cur, hv, hb, hg, _⟩
  · exact ⟨vs, vc, none, 0, ls, lc, e1, by rw [hv, hn], e3, h1, .inl (List.eq_nil_of_length_eq_zero hn), h3⟩
  · subst hv
    refine ⟨vs, vc, some ⟨g, 0, none⟩, cap, ls, lc, e1, rfl, e3, h1, ?_, h3⟩
    by_cases h0 : s.things = []
    · exact .inl h0
    · refine .inr ⟨g, 0, rfl, (Array.getElem?_eq_some_iff.1 hg).1, fun k hk => ?_⟩
      obtain ⟨f, fc, e, hf⟩ := ValRow.at (h.fields k hk)
      rw [Nat.zero_add, ht.cellAt (k * 2) (by omega), ht.cellAt (k * 2 + 1) (by omega)]
      refine ⟨?_, f, fc, ?_, hf⟩
      · rw [thgCells_site _ _ (by simp [h.count]) k (by simpa using hk)]
        simp
      · rw [thgCells_field _ _ (by simp [h.count]) k (by rw [h.count]; exact hk), e]
/-- A variable's row, and a thing's. -/
theorem OwnRun.thing (h : OwnRun w B m s vv tv lv fv) {t : Nat} (ht : t < s.things.length) : ∃ g cap, tv = .slice (some ⟨g, 0, none⟩) s.things.length cap ∧ g < w.heap.size ∧ w.cell? ⟨g, t * 2, none⟩ = some (.int .i64 s.things[t].site) ∧ w.cell? ⟨g, t * 2 + 1, none⟩ = some (fv[t]'(by rw [h.count]; exact ht)) ∧ B ≤ g := by
  have hth := h.things
  obtain ⟨g, cap, rfl, hb, hlt⟩ := hth.form (by omega)
  refine ⟨g, cap, rfl, hlt, ?_, ?_, hb⟩
  · rw [hth.cellAt (t * 2) (by omega), thgCells_site _ _ (by simp [h.count]) t (by simpa using ht)]
    simp
  · rw [hth.cellAt (t * 2 + 1) (by omega), thgCells_field _ _ (by simp [h.count]) t (by rw [h.count]; exact ht)]
theorem OwnRun.field (h : OwnRun w B m s vv tv lv fv) {t f : Nat} (ht : t < s.things.length) (hf : f < s.things[t].fs.length) : ∃ g cap, fv[t]'(by rw [h.count]; exact ht) = .slice (some ⟨g, 0, none⟩) s.things[t].fs.length cap ∧ g < w.heap.size ∧ w.cell? ⟨g, f * 2, none⟩ = some (.int .i64 s.things[t].fs[f].k) ∧ w.cell? ⟨g, f * 2 + 1, none⟩ = some (.int .i64 s.things[t].fs[f].n) ∧ (∀ j, w.frozen? ⟨g, j, none⟩ = false) ∧ B ≤ g := by
  have hfs := h.fields t ht
  unfold ValRow at hfs
  obtain ⟨g, cap, e, hb, hlt⟩ := hfs.form (by omega)
  rw [e] at hfs
  refine ⟨g, cap, e, hlt, ?_, ?_, fun j => hfs.frozenAt j, hb⟩
  · rw [hfs.cellAt (f * 2) (by omega)]; exact valCells_k _ f hf
  · rw [hfs.cellAt (f * 2 + 1) (by omega)]; exact valCells_n _ f hf
end
end Go.Proofs.YtmapdpcfanecdaaDoor
