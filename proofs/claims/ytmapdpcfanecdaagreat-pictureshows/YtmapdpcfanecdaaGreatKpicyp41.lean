/- Pictures that show runs: what is within another shows no more; what one of two shows their join shows. No program in sight. -/
import Derived.Test.YtmapdpcfanecdaaGreatKpicyp03
import Derived.Test.YtmapdpcfanecdaaGreatKpicyp40
namespace Go.Proofs.YtmapdpcfanecdaaGreat
set_option linter.unusedVariables false
set_option linter.unusedSimpArgs false

theorem zip_all_iff {α β : Type} {f : α → β → Bool} {a : List α} {b : List β} : (List.zipWith f a b).all id = true ↔ ∀ i (h1 : i < a.length) (h2 : i < b.length), f a[i] b[i] = true := by
  induction a generalizing b with
  | nil => simp
  | cons x a ih =>
    cases b with
    | nil => simp
    | cons y b =>
      rw [List.zipWith_cons_cons, List.all_cons, Bool.and_eq_true, ih]
      constructor
      · rintro ⟨h, h'⟩ i h1 h2
        cases i with
        | zero => exact h
        | succ i => exact h' i (by simpa using h1) (by simpa using h2)
      · intro h
        exact ⟨h 0 (by simp) (by simp), fun i h1 h2 => h (i + 1) (by simpa using h1) (by simpa using h2)⟩

/-- Where a value was made, if it is a thing. -/
def siteV (r : St) (v : Val) : Int := if v.k = 3 then (r.things.getD v.n.toNat ⟨0, []⟩).site else -1
def heldV (r : St) (g : Gs) (v : Val) : Bool := heldGs g v.k v.n (siteV r v)
def showsRow (r : St) (l : List Gs) (vs : List Val) : Bool := (List.zipWith (heldV r) l vs).all id
/-- Is a run one that a picture shows? -/
def showsPic (x : Pic) (r : St) : Bool := !x.none && (showsRow r x.vars r.vars && r.things.all fun t => showsRow r (x.flds.getD t.site.toNat []) t.fs)

theorem mem_siteSet {a b : List Int} {x : Int} : x ∈ siteSet a b ↔ (0 ≤ x ∧ x < 60) ∧ (x ∈ a ∨ x ∈ b) := by
  unfold siteSet
  simp only [List.mem_filter, List.mem_map, List.mem_range, Bool.or_eq_true, List.contains_iff_mem]
  constructor
  · rintro ⟨⟨n, hn, rfl⟩, h⟩
    exact ⟨by omega, h⟩
  · rintro ⟨⟨h0, h1⟩, h⟩
    exact ⟨⟨x.toNat, by omega, by omega⟩, h⟩
theorem siteSet_pair (a b : List Int) : (siteSet a b).Pairwise (· < ·) := by
  unfold siteSet
  refine List.Pairwise.filter _ ?_
  rw [List.pairwise_map]
  exact List.pairwise_lt_range.imp (by intro a b h; omega)
theorem rising_of_pair : ∀ {l : List Int}, l.Pairwise (· < ·) → rising l = true
  | [], _ => rfl
  | [_], _ => rfl
  | a :: b :: r, h => by
    unfold rising
    rw [List.pairwise_cons] at h
    simp [h.1 b (by simp), rising_of_pair h.2]
theorem ckGs_iff {c : List Ins} {g : Gs} : ckGs c g = 0 ↔ g.sp.Ok ∧ (∀ x ∈ g.s, isSite c x = true) ∧ rising g.s = true := by
  unfold ckGs
  by_cases h1 : ckSp g.sp = 0
  · rw [if_neg (by simpa using h1)]
    by_cases h2 : g.s.all (isSite c) = false
    · rw [if_pos h2]
      refine ⟨(fun h => by cases h), fun h => ?_⟩
      rw [List.all_eq_true.2 h.2.1] at h2
      cases h2
    · rw [if_neg h2]
      have h2' : ∀ x ∈ g.s, isSite c x = true := by simpa using h2
      by_cases h3 : rising g.s = false
      · rw [if_pos h3]
        exact ⟨fun h => (by cases h), fun h => (by rw [h.2.2] at h3; cases h3)⟩
      · rw [if_neg h3]
        exact ⟨fun _ => ⟨ckSp_ok.1 h1, h2', by simpa using h3⟩, fun _ => rfl⟩
  · rw [if_pos h1]
    exact ⟨fun h => absurd h h1, fun h => absurd (ckSp_ok.2 h.1) h1⟩
theorem isSite_range {c : List Ins} {x : Int} (h : isSite c x = true) : 0 ≤ x ∧ x < c.length := by
  unfold isSite at h
  simp only [Bool.and_eq_true, decide_eq_true_eq] at h
  omega

theorem has_iff {s : Sp} {a : Int} : s.has a = true ↔ s.n = false ∧ s.lo ≤ a ∧ a ≤ s.hi := by
  unfold Sp.has
  simp only [Bool.and_eq_true, Bool.not_eq_true', decide_eq_true_eq]
theorem spIn_iff {s t : Sp} (h : s.lo ≤ s.hi) : spIn s t = true ↔ s.n = true ∨ (t.n = false ∧ t.lo ≤ s.lo ∧ s.hi ≤ t.hi) := by
  unfold spIn
  rw [Bool.or_eq_true, Bool.and_eq_true, has_iff, has_iff]
  constructor
  · rintro (h | ⟨⟨h1, h2, h3⟩, _, h4, h5⟩)
    · exact .inl h
    · exact .inr ⟨h1, h2, h5⟩
  · rintro (h | ⟨h1, h2, h3⟩)
    · exact .inl h
    · exact .inr ⟨⟨h1, by omega, by omega⟩, h1, by omega, by omega⟩
theorem join_in {s t : Sp} (hs : s.Ok) (ht : t.Ok) : spIn s (joinSp s t) = true ∧ spIn t (joinSp s t) = true := by
  obtain ⟨_, _, _, h1⟩ := hs
  obtain ⟨_, _, _, h2⟩ := ht
  rw [spIn_iff h1, spIn_iff h2]
  unfold joinSp
  cases hn : s.n with
  | true =>
    simp only [if_true]
    cases ht' : t.n with
    | true => simp
    | false => simp
  | false =>
    simp only [Bool.false_eq_true, if_false]
    cases ht' : t.n with
    | true => simp [hn]
    | false => simp; omega
theorem wide_in {s t : Sp} (hs : s.Ok) (ht : t.Ok) : spIn s (wideSp s t) = true ∧ spIn t (wideSp s t) = true := by
  obtain ⟨⟨s1, s2⟩, ⟨s3, s4⟩, _, h1⟩ := hs
  obtain ⟨⟨t1, t2⟩, ⟨t3, t4⟩, _, h2⟩ := ht
  rw [spIn_iff h1, spIn_iff h2]
  unfold wideSp
  cases hn : s.n with
  | true =>
    simp only [if_true]
    cases ht' : t.n with
    | true => simp
    | false => simp
  | false =>
    simp only [Bool.false_eq_true, if_false]
    cases ht' : t.n with
    | true => simp [hn]
    | false =>
      simp only [Bool.false_eq_true, if_false, false_or, true_and]
      (repeat' split) <;> omega
section
variable {c : List Ins} {g h : Gs} {w : Bool}
theorem joinGs_sp (w : Bool) (g h : Gs) : (joinGs w g h).sp = if w then wideSp g.sp h.sp else joinSp g.sp h.sp := rfl
/-- What comes of right guesses is right. -/
theorem ckGs_join (hg : ckGs c g = 0) (hh : ckGs c h = 0) : ckGs c (joinGs w g h) = 0 := by
  rw [ckGs_iff] at hg hh ⊢
  refine ⟨?_, fun x hx => ?_, rising_of_pair (siteSet_pair _ _)⟩
  · rw [joinGs_sp]
    cases w
    · exact join_ok hg.1 hh.1
    · exact wide_ok hg.1 hh.1
  · rcases (mem_siteSet.1 hx).2 with h | h
    · exact hg.2.1 x h
    · exact hh.2.1 x h
theorem inGs_iff {g h : Gs} : inGs g h = true ↔ (g.n = true → h.n = true) ∧ (g.t = true → h.t = true) ∧ (g.f = true → h.f = true) ∧ spIn g.sp h.sp = true ∧ ∀ x ∈ g.s, x ∈ h.s := by
  unfold inGs
  simp only [Bool.and_eq_true, Bool.not_eq_true', Bool.and_eq_false_imp, Bool.not_eq_false', List.all_eq_true, List.contains_iff_mem]
theorem in_join (h60 : c.length ≤ 60) (hg : ckGs c g = 0) (hh : ckGs c h = 0) : inGs g (joinGs w g h) = true ∧ inGs h (joinGs w g h) = true := by
  rw [ckGs_iff] at hg hh
  have hs : spIn g.sp (joinGs w g h).sp = true ∧ spIn h.sp (joinGs w g h).sp = true := by
    rw [joinGs_sp]
    cases w
    · exact join_in hg.1 hh.1
    · exact wide_in hg.1 hh.1
  have hm : ∀ x, x ∈ g.s ∨ x ∈ h.s → x ∈ (joinGs w g h).s := fun x hx => mem_siteSet.2 ⟨by
    rcases hx with hx | hx
    · have := isSite_range (hg.2.1 x hx); omega
    · have := isSite_range (hh.2.1 x hx); omega, hx⟩
  rw [inGs_iff, inGs_iff]
  refine ⟨⟨fun e => ?_, fun e => ?_, fun e => ?_, hs.1, fun x hx => hm x (.inl hx)⟩, ⟨fun e => ?_, fun e => ?_, fun e => ?_, hs.2, fun x hx => hm x (.inr hx)⟩⟩ <;> simp [joinGs, e]
/-- What one holds that is within another, the other holds. -/
theorem held_in {k n s : Int} (hi : inGs g h = true) (hg : g.sp.lo ≤ g.sp.hi) (hd : heldGs g k n s = true) : heldGs h k n s = true := by
  obtain ⟨h1, h2, h3, h4, h5⟩ := inGs_iff.1 hi
  unfold heldGs at hd ⊢
  split at hd
  · rename_i e; rw [if_pos e]; exact h1 hd
  rename_i e0
  rw [if_neg e0]
  split at hd
  · rename_i e
    rw [if_pos e]
    rw [has_iff] at hd ⊢
    rcases (spIn_iff hg).1 h4 with hn | ⟨a, b, d⟩
    · rw [hd.1] at hn; cases hn
    · exact ⟨a, by omega, by omega⟩
  rename_i e1
  rw [if_neg e1]
  split at hd
  · rename_i e
    rw [if_pos e]
    simp only [Bool.or_eq_true, Bool.and_eq_true] at hd ⊢
    rcases hd with ⟨a, b⟩ | ⟨a, b⟩
    · exact .inl ⟨h2 a, b⟩
    · exact .inr ⟨h3 a, b⟩
  rename_i e2
  rw [if_neg e2, List.contains_iff_mem] at *
  exact h5 s hd
end

theorem strayAt_iff {c : List Ins} {p : Gs → Bool} : ∀ {l : List (List Gs)} {i : Nat}, strayAt c p i l = false ↔ ∀ k (h : k < l.length), isSite c ((i + k : Nat) : Int) = true ∨ ∀ g ∈ l[k], p g = false
  | [], i => by simp [strayAt]
  | r :: l, i => by
    unfold strayAt
    rw [Bool.or_eq_false_iff, strayAt_iff (l := l)]
    constructor
    · rintro ⟨h, h'⟩ k hk
      cases k with
      | zero =>
        rw [Bool.and_eq_false_iff] at h
        rcases h with h | h
        · exact .inl (by simpa using h)
        · exact .inr (by simpa using h)
      | succ k =>
        have := h' k (by simpa using hk)
        rwa [show i + 1 + k = i + (k + 1) by omega] at this
    · intro h
      refine ⟨?_, fun k hk => ?_⟩
      · rw [Bool.and_eq_false_iff]
        rcases h 0 (by simp) with h | h
        · exact .inl (by simpa using h)
        · exact .inr (by simpa using h)
      · have := h (k + 1) (by simpa using hk)
        rwa [show i + (k + 1) = i + 1 + k by omega] at this
theorem ckGss_iff {c : List Ins} : ∀ {l : List Gs}, ckGss c l = 0 ↔ ∀ g ∈ l, ckGs c g = 0
  | [] => by simp [ckGss]
  | g :: l => by
    unfold ckGss
    by_cases h : ckGs c g = 0
    · rw [if_pos h, ckGss_iff]
      simp [h]
    · rw [if_neg h]
      exact ⟨fun e => absurd e h, fun e => e g (by simp)⟩
/-- A picture of runs that is right. -/
structure PicOk (V F : Int) (c : List Ins) (x : Pic) : Prop where
  none : x.none = false
  vars : (x.vars.length : Int) = V
  flds : x.flds.length = c.length
  row : ∀ k (h : k < x.flds.length), (x.flds[k].length : Int) = F
  gv : ∀ g ∈ x.vars, ckGs c g = 0
  gf : ∀ k (h : k < x.flds.length), ∀ g ∈ x.flds[k], ckGs c g = 0
  stray : ∀ k (h : k < x.flds.length), isSite c (k : Int) = true ∨ ∀ g ∈ x.flds[k], nothingGs g = true
theorem ckPic_iff {V F : Int} {c : List Ins} {x : Pic} (hn : x.none = false) : ckPic V F c x = 0 ↔ PicOk V F c x := by
  obtain ⟨n, vars, flds⟩ := x
  simp only at hn
  subst hn
  unfold ckPic formedPic allPic
  simp only [Bool.false_eq_true, if_false]
  constructor
  · intro h
    split at h
    · cases h
    rename_i h1
    split at h
    · rename_i h2; exact absurd h h2
    rename_i h2
    split at h
    · cases h
    rename_i h3
    simp only [Bool.not_eq_false, Bool.and_eq_true, decide_eq_true_eq, Bool.not_eq_true', List.any_eq_false, decide_eq_false_iff_not, Decidable.not_not] at h1
    simp only [ne_eq, Decidable.not_not] at h2
    rw [ckGss_iff] at h2
    rw [Bool.not_eq_true, strayAt_iff] at h3
    refine ⟨rfl, h1.1, h1.2.1, fun k h => ?_, fun g hg => h2 g (by simp [hg]), fun k h g hg => h2 g ?_, fun k h => ?_⟩
    · have := h1.2.2 _ (List.getElem_mem h)
      simpa using this
    · rw [List.mem_append, List.mem_flatten]
      exact .inr ⟨_, List.getElem_mem h, hg⟩
    · rcases h3 k h with h3 | h3
      · exact .inl (by simpa using h3)
      · exact .inr fun g hg => by simpa using h3 g hg
  · rintro ⟨-, h1, h2, h3, h4, h5, h6⟩
    simp only at h1 h2 h3 h4 h5 h6
    rw [if_neg, if_neg, if_neg]
    · rw [Bool.not_eq_true, strayAt_iff]
      intro k h
      rcases h6 k h with h6 | h6
      · exact .inl (by simpa using h6)
      · exact .inr fun g hg => by simpa using h6 g hg
    · rw [ne_eq, Decidable.not_not, ckGss_iff]
      intro g hg
      rw [List.mem_append, List.mem_flatten] at hg
      rcases hg with hg | ⟨r, hr, hg⟩
      · exact h4 g hg
      · obtain ⟨k, hk, rfl⟩ := List.getElem_of_mem hr
        exact h5 k hk g hg
    · simp only [Bool.not_eq_false, Bool.and_eq_true, decide_eq_true_eq, Bool.not_eq_true', List.any_eq_false]
      refine ⟨h1, h2, fun r hr => ?_⟩
      obtain ⟨k, hk, rfl⟩ := List.getElem_of_mem hr
      simpa using h3 k hk
section
variable {V F : Int} {c : List Ins} {x y : Pic} {w : Bool} {r : St}
theorem picOk_of (h : ckPic V F c x = 0) (hn : x.none = false) : PicOk V F c x := (ckPic_iff hn).1 h
theorem PicOk.ck (h : PicOk V F c x) : ckPic V F c x = 0 := (ckPic_iff h.none).2 h
theorem nothing_iff {g : Gs} : nothingGs g = true ↔ g.sp.n = true ∧ g.n = false ∧ g.t = false ∧ g.f = false ∧ g.s = [] := by
  unfold nothingGs otherGs
  simp only [Bool.and_eq_true, Bool.not_eq_true', Bool.or_eq_false_iff, decide_eq_false_iff_not, Nat.not_lt, Nat.le_zero, List.length_eq_zero_iff]
theorem nothing_join {g h : Gs} (hg : nothingGs g = true) (hh : nothingGs h = true) : nothingGs (joinGs w g h) = true := by
  rw [nothing_iff] at hg hh ⊢
  obtain ⟨a1, a2, a3, a4, a5⟩ := hg
  obtain ⟨b1, b2, b3, b4, b5⟩ := hh
  refine ⟨?_, by simp [joinGs, a2, b2], by simp [joinGs, a3, b3], by simp [joinGs, a4, b4], by simp [joinGs, siteSet, a5, b5]⟩
  rw [joinGs_sp]
  cases w <;> simp [joinSp, wideSp, a1, b1]
theorem joinRow_len {j : Gs → Gs → Gs} {a b : List Gs} : (joinRow j a b).length = min a.length b.length := List.length_zipWith
theorem joinRow_mem {j : Gs → Gs → Gs} {a b : List Gs} {g : Gs} (h : g ∈ joinRow j a b) : ∃ i, ∃ (h1 : i < a.length) (h2 : i < b.length), g = j a[i] b[i] := by
  obtain ⟨i, hi, rfl⟩ := List.getElem_of_mem h
  have hi' := hi
  rw [joinRow_len] at hi'
  exact ⟨i, by omega, by omega, by simp [joinRow]⟩
theorem PicOk.join (hx : PicOk V F c x) (hy : PicOk V F c y) : PicOk V F c (joinPic (joinGs w) x y) := by
  have e : joinPic (joinGs w) x y = ⟨false, joinRow (joinGs w) x.vars y.vars, List.zipWith (joinRow (joinGs w)) x.flds y.flds⟩ := by
    unfold joinPic
    rw [if_neg (by rw [hx.none]; decide), if_neg (by rw [hy.none]; decide)]
  rw [e]
  have l1 := hx.vars
  have l2 := hy.vars
  have l3 := hx.flds
  have l4 := hy.flds
  refine ⟨rfl, ?_, ?_, fun k h => ?_, fun g hg => ?_, fun k h g hg => ?_, fun k h => ?_⟩
  · simp only [joinRow_len]; omega
  · simp only [List.length_zipWith]; omega
  · simp only [List.length_zipWith] at h
    have := hx.row k (by omega)
    have := hy.row k (by omega)
    simp only [List.getElem_zipWith, joinRow_len]
    omega
  · obtain ⟨i, h1, h2, rfl⟩ := joinRow_mem hg
    exact ckGs_join (hx.gv _ (List.getElem_mem _)) (hy.gv _ (List.getElem_mem _))
  · simp only [List.length_zipWith] at h
    simp only [List.getElem_zipWith] at hg
    obtain ⟨i, h1, h2, rfl⟩ := joinRow_mem hg
    exact ckGs_join (hx.gf k (by omega) _ (List.getElem_mem _)) (hy.gf k (by omega) _ (List.getElem_mem _))
  · simp only [List.length_zipWith] at h
    rcases hx.stray k (by omega) with a | a
    · exact .inl a
    rcases hy.stray k (by omega) with b | b
    · exact .inl b
    right
    intro g hg
    simp only [List.getElem_zipWith] at hg
    obtain ⟨i, h1, h2, rfl⟩ := joinRow_mem hg
    exact nothing_join (a _ (List.getElem_mem _)) (b _ (List.getElem_mem _))
/-- The join of right pictures is right. -/
theorem ckPic_join (hx : ckPic V F c x = 0) (hy : ckPic V F c y = 0) : ckPic V F c (joinPic (joinGs w) x y) = 0 := by
  cases hn : x.none with
  | true => unfold joinPic; rw [if_pos hn]; exact hy
  | false =>
    cases hm : y.none with
    | true => unfold joinPic; rw [if_neg (by rw [hn]; decide), if_pos hm]; exact hx
    | false => exact ((picOk_of hx hn).join (picOk_of hy hm)).ck
theorem inRow_iff {a b : List Gs} : inRow a b = true ↔ ∀ i (h1 : i < a.length) (h2 : i < b.length), inGs a[i] b[i] = true := zip_all_iff
theorem inPic_iff (hn : x.none = false) (hm : y.none = false) : inPic x y = true ↔ (∀ i (h1 : i < x.vars.length) (h2 : i < y.vars.length), inGs x.vars[i] y.vars[i] = true) ∧ ∀ k (h1 : k < x.flds.length) (h2 : k < y.flds.length) i (h3 : i < x.flds[k].length) (h4 : i < y.flds[k].length), inGs x.flds[k][i] y.flds[k][i] = true := by
  unfold inPic
  rw [hn, hm]
  simp only [Bool.false_or, Bool.not_false, Bool.true_and, Bool.and_eq_true]
  rw [inRow_iff, zip_all_iff]
  simp only [inRow_iff]
theorem ckGs_lo {g : Gs} (h : ckGs c g = 0) : g.sp.lo ≤ g.sp.hi := (ckGs_iff.1 h).1.2.2.2
theorem showsRow_iff {l : List Gs} {vs : List Val} : showsRow r l vs = true ↔ ∀ i (h1 : i < l.length) (h2 : i < vs.length), heldV r l[i] vs[i] = true := zip_all_iff
theorem showsPic_iff (hn : x.none = false) : showsPic x r = true ↔ showsRow r x.vars r.vars = true ∧ ∀ t ∈ r.things, showsRow r (x.flds.getD t.site.toNat []) t.fs = true := by
  unfold showsPic
  rw [hn]
  simp only [Bool.not_false, Bool.true_and, Bool.and_eq_true, List.all_eq_true]
theorem showsRow_in {a b : List Gs} {vs : List Val} (hl : a.length = b.length) (hc : ∀ g ∈ a, ckGs c g = 0) (hi : ∀ i (h1 : i < a.length) (h2 : i < b.length), inGs a[i] b[i] = true) (h : showsRow r a vs = true) : showsRow r b vs = true := by
  rw [showsRow_iff] at h ⊢
  intro i h1 h2
  exact held_in (hi i (by omega) h1) (ckGs_lo (hc _ (List.getElem_mem (by omega)))) (h i (by omega) h2)
theorem getD_row {L : List (List Gs)} {k : Nat} (h : k < L.length) : L.getD k [] = L[k] := by simp [List.getD, List.getElem?_eq_getElem h]
theorem getD_none {L : List (List Gs)} {k : Nat} (h : ¬ k < L.length) : L.getD k [] = [] := by simp [List.getD, List.getElem?_eq_none (Nat.not_lt.1 h)]
/-- What is within another shows no more. -/
theorem shows_in (hx : ckPic V F c x = 0) (hy : ckPic V F c y = 0) (hi : inPic x y = true) (h : showsPic x r = true) : showsPic y r = true := by
  have hn : x.none = false := by
    cases e : x.none with
    | false => rfl
    | true => simp [showsPic, e] at h
  have hm : y.none = false := by
    cases e : y.none with
    | false => rfl
    | true => simp [inPic, e, hn] at hi
  have kx := picOk_of hx hn
  have ky := picOk_of hy hm
  obtain ⟨i1, i2⟩ := (inPic_iff hn hm).1 hi
  obtain ⟨s1, s2⟩ := (showsPic_iff hn).1 h
  have a1 := kx.vars
  have a2 := ky.vars
  have a3 := kx.flds
  have a4 := ky.flds
  rw [showsPic_iff hm]
  refine ⟨showsRow_in (by omega) kx.gv i1 s1, fun t ht => ?_⟩
  have := s2 t ht
  by_cases hk : t.site.toNat < x.flds.length
  · have hk' : t.site.toNat < y.flds.length := by omega
    rw [getD_row hk] at this
    rw [getD_row hk']
    have b1 := kx.row _ hk
    have b2 := ky.row _ hk'
    exact showsRow_in (by omega) (kx.gf _ hk) (i2 _ hk hk') this
  · rw [getD_none (by omega), showsRow_iff]
    intro i h1
    simp at h1
theorem in_joinPic (h60 : c.length ≤ 60) (hx : ckPic V F c x = 0) (hy : ckPic V F c y = 0) : inPic x (joinPic (joinGs w) x y) = true ∧ inPic y (joinPic (joinGs w) x y) = true := by
  have self : ∀ {z : Pic}, ckPic V F c z = 0 → inPic z z = true := by
    intro z hz
    cases hn : z.none with
    | true => simp [inPic, hn]
    | false =>
      have kz := picOk_of hz hn
      rw [inPic_iff hn hn]
      have sg : ∀ {g : Gs}, ckGs c g = 0 → inGs g g = true := fun hg => inGs_iff.2 ⟨id, id, id, by
        rw [spIn_iff (ckGs_lo hg)]
        rename_i g
        cases e : g.sp.n with
        | true => exact .inl rfl
        | false => exact .inr ⟨rfl, by omega, by omega⟩, fun _ h => h⟩
      exact ⟨fun i h1 _ => sg (kz.gv _ (List.getElem_mem _)), fun k h1 _ i h3 _ => sg (kz.gf k h1 _ (List.getElem_mem _))⟩
  cases hn : x.none with
  | true =>
    have e : joinPic (joinGs w) x y = y := by unfold joinPic; rw [if_pos hn]
    rw [e]
    exact ⟨by simp [inPic, hn], self hy⟩
  | false =>
    cases hm : y.none with
    | true =>
      have e : joinPic (joinGs w) x y = x := by unfold joinPic; rw [if_neg (by rw [hn]; decide), if_pos hm]
      rw [e]
      exact ⟨self hx, by simp [inPic, hm]⟩
    | false =>
      have kx := picOk_of hx hn
      have ky := picOk_of hy hm
      have e : joinPic (joinGs w) x y = ⟨false, joinRow (joinGs w) x.vars y.vars, List.zipWith (joinRow (joinGs w)) x.flds y.flds⟩ := by
        unfold joinPic
        rw [if_neg (by rw [hn]; decide), if_neg (by rw [hm]; decide)]
      rw [e, inPic_iff hn rfl, inPic_iff hm rfl]
      refine ⟨⟨fun i h1 h2 => ?_, fun k h1 h2 i h3 h4 => ?_⟩, ⟨fun i h1 h2 => ?_, fun k h1 h2 i h3 h4 => ?_⟩⟩
      · simp only [joinRow, List.length_zipWith] at h2
        simp only [joinRow, List.getElem_zipWith]
        exact (in_join h60 (kx.gv _ (List.getElem_mem _)) (ky.gv _ (List.getElem_mem _))).1
      · simp only [List.length_zipWith] at h2
        simp only [joinRow, List.getElem_zipWith, List.length_zipWith] at h4
        simp only [joinRow, List.getElem_zipWith]
        exact (in_join h60 (kx.gf k h1 _ (List.getElem_mem _)) (ky.gf k (by omega) _ (List.getElem_mem _))).1
      · simp only [joinRow, List.length_zipWith] at h2
        simp only [joinRow, List.getElem_zipWith]
        exact (in_join h60 (kx.gv _ (List.getElem_mem _)) (ky.gv _ (List.getElem_mem _))).2
      · simp only [List.length_zipWith] at h2
        simp only [joinRow, List.getElem_zipWith, List.length_zipWith] at h4
        simp only [joinRow, List.getElem_zipWith]
        exact (in_join h60 (kx.gf k (by omega) _ (List.getElem_mem _)) (ky.gf k h1 _ (List.getElem_mem _))).2
end
end Go.Proofs.YtmapdpcfanecdaaGreat
