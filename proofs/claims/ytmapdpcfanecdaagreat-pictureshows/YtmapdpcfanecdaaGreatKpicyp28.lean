/- The document's own answer: two pictures joined, whole. -/
import Derived.Test.YtmapdpcfanecdaaGreatKpicyp21
import Derived.Test.YtmapdpcfanecdaaGreatKpicyp27
import Derived.Test.YtmapdpcfanecdaaGreatKpicyp24
import Derived.Deep.AppendLies
import Derived.Test.YtmapdpcfanecdaaGreatKpicyp23
import Derived.Test.YtmapdpcfanecdaaGreatKpicyp09
import Derived.Deep.DeepCutAuto
import Derived.Deep.RegionHeldLaw
namespace Go.Proofs.YtmapdpcfanecdaaGreat
set_option linter.unusedVariables false
set_option linter.unusedSimpArgs false
open Go.RowKit

/-- The sites below k that one of both has. -/
def siteTo (a b : List Int) (k : Nat) : List Int := ((List.range k).map fun n : Nat => (n : Int)).filter fun x => a.contains x || b.contains x
end Go.Proofs.YtmapdpcfanecdaaGreat

namespace Go.Proofs.YtmapdpcfanecdaaGreat
set_option linter.unusedVariables false
set_option linter.unusedSimpArgs false

/-- A list that rises is known by what is in it. -/
theorem rising_ext : ∀ (a b : List Int), a.Pairwise (· < ·) → b.Pairwise (· < ·) → (∀ x, x ∈ a ↔ x ∈ b) → a = b
  | [], [], _, _, _ => rfl
  | [], y :: b, _, _, h => absurd ((h y).2 (by simp)) (by simp)
  | x :: a, [], _, _, h => absurd ((h x).1 (by simp)) (by simp)
  | x :: a, y :: b, ha, hb, h => by
    rw [List.pairwise_cons] at ha hb
    have exy : x = y := by
      have h1 := (h x).1 (by simp)
      have h2 := (h y).2 (by simp)
      rw [List.mem_cons] at h1 h2
      rcases h1 with e | h1
      · exact e
      · rcases h2 with e | h2
        · exact e.symm
        · have := ha.1 y h2
          have := hb.1 x h1
          omega
    subst exy
    rw [rising_ext a b ha.2 hb.2 fun z => ?_]
    constructor
    · intro hz
      have := (h z).1 (by simp [hz])
      rw [List.mem_cons] at this
      rcases this with e | h1
      · have := ha.1 z hz; omega
      · exact h1
    · intro hz
      have := (h z).2 (by simp [hz])
      rw [List.mem_cons] at this
      rcases this with e | h1
      · have := hb.1 z hz; omega
      · exact h1

theorem siteTo_mem (a b : List Int) (k : Nat) (x : Int) : x ∈ siteTo a b k ↔ (0 ≤ x ∧ x < k) ∧ (x ∈ a ∨ x ∈ b) := by
  unfold siteTo
  rw [List.mem_filter, List.mem_map]
  simp only [List.mem_range, Bool.or_eq_true, List.contains_iff_mem]
  constructor
  · rintro ⟨⟨n, hn, rfl⟩, h⟩
    exact ⟨⟨by omega, by omega⟩, h⟩
  · rintro ⟨⟨h0, h1⟩, h⟩
    exact ⟨⟨x.toNat, by omega, by omega⟩, h⟩

theorem siteTo_rises (a b : List Int) (k : Nat) : (siteTo a b k).Pairwise (· < ·) := by
  unfold siteTo
  refine List.Pairwise.filter _ ?_
  rw [List.pairwise_map]
  exact List.Pairwise.imp (fun h => by omega) List.pairwise_lt_range

open Go.Lib in
/-- What is compacted of a sorted list rises, and has the same in it. -/
theorem compact_sorted (l : List Int) (h : l.Pairwise (· ≤ ·)) : (compact l).Pairwise (· < ·) ∧ ∀ x, x ∈ compact l ↔ x ∈ l := by
  have get : ∀ j (hj : j < l.length), l.toArray[j]! = l[j] := fun j hj => by simp [hj]
  have mono : ∀ i j (hi : i < l.length) (hj : j < l.length), i ≤ j → l[i] ≤ l[j] := by
    intro i j hi hj hij
    by_cases e : i = j
    · subst e; exact Int.le_refl _
    · exact List.pairwise_iff_getElem.1 h i j hi hj (by omega)
  constructor
  · unfold compact compactUpTo
    rw [List.pairwise_map]
    refine List.Pairwise.imp_of_mem ?_ (List.Pairwise.filter _ List.pairwise_lt_range)
    intro i j hi hj hij
    rw [List.mem_filter, List.mem_range] at hi hj
    rw [get i hi.1, get j hj.1]
    have hk := hj.2
    unfold keeps at hk
    rw [decide_eq_true_eq] at hk
    rcases hk with e | hne
    · omega
    · rw [get j hj.1, get (j - 1) (by omega)] at hne
      have h1 := mono i (j - 1) hi.1 (by omega) (by omega)
      have h2 := mono (j - 1) j (by omega) hj.1 (by omega)
      omega
  · intro x
    unfold compact compactUpTo
    rw [List.mem_map]
    constructor
    · rintro ⟨j, hj, rfl⟩
      rw [List.mem_filter, List.mem_range] at hj
      rw [get j hj.1]
      exact List.getElem_mem _
    · intro hx
      obtain ⟨j, hj, rfl⟩ := List.getElem_of_mem hx
      -- the first place that holds it
      have ex : ∃ i, i ≤ j ∧ ∃ (hi : i < l.length), l[i] = l[j] ∧ keeps l.toArray i = true := by
        clear hx
        induction j with
        | zero => exact ⟨0, Nat.le_refl _, hj, rfl, by simp [keeps]⟩
        | succ j ih =>
          by_cases e : l[j + 1] = l[j]
          · obtain ⟨i, hi, hil, h1, h2⟩ := ih (by omega)
            exact ⟨i, by omega, hil, by rw [h1, e], h2⟩
          · refine ⟨j + 1, Nat.le_refl _, hj, rfl, ?_⟩
            unfold keeps
            rw [decide_eq_true_eq]
            right
            rw [get (j + 1) hj, get (j + 1 - 1) (by omega)]
            exact e
      obtain ⟨i, -, hil, h1, h2⟩ := ex
      refine ⟨i, ?_, by rw [get i hil, h1]⟩
      rw [List.mem_filter, List.mem_range]
      exact ⟨hil, h2⟩

theorem sitesOf_eq (g h : Gs) (hg : ∀ x ∈ g.s, 0 ≤ x ∧ x < 60) (hh : ∀ x ∈ h.s, 0 ≤ x ∧ x < 60) : sitesOf [g, h] = siteTo g.s h.s 60 := by
  have hs : (([g, h].flatMap Gs.s).mergeSort fun x y => decide (x ≤ y)).Pairwise (· ≤ ·) := by
    have := List.pairwise_mergeSort (le := fun x y : Int => decide (x ≤ y)) (by intro a b c; simp; omega) (by intro a b; simp; omega) ([g, h].flatMap Gs.s)
    exact this.imp fun h => by simpa using h
  obtain ⟨h1, h2⟩ := compact_sorted _ hs
  refine rising_ext _ _ h1 (siteTo_rises _ _ _) fun x => ?_
  rw [show sitesOf [g, h] = Go.Lib.compact (([g, h].flatMap Gs.s).mergeSort fun x y => decide (x ≤ y)) from rfl, h2, List.mem_mergeSort, siteTo_mem]
  simp only [List.flatMap_cons, List.flatMap_nil, List.append_nil, List.mem_append]
  constructor
  · rintro (h | h)
    · exact ⟨hg x h, .inl h⟩
    · exact ⟨hh x h, .inr h⟩
  · exact fun h => h.2

theorem isSite_60 {c : List Ins} (hl : c.length ≤ 60) {x : Int} (h : isSite c x = true) : 0 ≤ x ∧ x < 60 := by
  unfold isSite at h
  simp only [Bool.and_eq_true, decide_eq_true_eq] at h
  omega

/-- A right guess has sites of the program, that rise, so at most sixty. -/
theorem ckGs_sites {c : List Ins} {g : Gs} (hl : c.length ≤ 60) (h : ckGs c g = 0) : (∀ x ∈ g.s, 0 ≤ x ∧ x < 60) ∧ rising g.s = true := by
  unfold ckGs at h
  split at h
  · contradiction
  · split at h
    · cases h
    · split at h
      · cases h
      · rename_i h1 h2
        refine ⟨fun x hx => ?_, by simpa using h2⟩
        have : g.s.all (isSite c) = true := by simpa using h1
        exact isSite_60 hl (List.all_eq_true.1 this x hx)
theorem rising_len {l : List Int} (hr : rising l = true) (hb : ∀ x ∈ l, 0 ≤ x ∧ x < 60) : l.length ≤ 60 := by
  have key : ∀ k (h : k < l.length), (k : Int) ≤ l[k] := by
    intro k
    induction k with
    | zero => intro h; exact (hb _ (List.getElem_mem h)).1
    | succ k ih =>
      intro h
      have h1 := ih (by omega)
      have h2 := (rising_iff l).1 hr k h
      omega
  by_cases h0 : l.length = 0
  · omega
  · have h1 := key (l.length - 1) (by omega)
    have h2 := (hb _ (List.getElem_mem (show l.length - 1 < l.length by omega))).2
    omega
end Go.Proofs.YtmapdpcfanecdaaGreat

namespace Go.Proofs.YtmapdpcfanecdaaGreat
set_option linter.unusedVariables false
set_option linter.unusedSimpArgs false
open Go.RowKit

/-- Two guesses put together. -/
def togGs (op : Sp → Sp → Sp) (g h : Gs) : Gs := ⟨g.n || h.n, op g.sp h.sp, g.t || h.t, g.f || h.f, sitesOf [g, h]⟩

theorem ckAllG_two {V F : Int} {c : List Ins} {g h : Gs} (hk : ckAllG V F c [g, h] = 0) : ckProg V F c = 0 ∧ ckGs c g = 0 ∧ ckGs c h = 0 := by
  unfold ckAllG at hk
  split at hk
  · rename_i hp
    simp only [ckGss] at hk
    split at hk
    · rename_i hg
      split at hk
      · rename_i hh
        exact ⟨hp, hg, hh⟩
      · contradiction
    · contradiction
  · contradiction

theorem ckAllG_sites {V F : Int} {c : List Ins} {g h : Gs} (hk : ckAllG V F c [g, h] = 0) : ((∀ x ∈ g.s, 0 ≤ x ∧ x < 60) ∧ rising g.s = true) ∧ ((∀ x ∈ h.s, 0 ≤ x ∧ x < 60) ∧ rising h.s = true) := by
  obtain ⟨a, b, d⟩ := ckAllG_two hk
  have hl : c.length ≤ 60 := by
    unfold ckProg at a
    split at a
    · contradiction
    · split at a
      · contradiction
      · omega
  exact ⟨ckGs_sites hl b, ckGs_sites hl d⟩

/-- The errno of Holds. -/
def kindE (u vk : Int) : Int := if u = 0 then (if vk < 0 ∨ 3 < vk then 6 else 0) else u

theorem holdsU (V F : Int) (s : Option Addr) (c : List Ins) (cap : Nat) (g : Gs) (ss : Option Addr) (gc : Nat) (vk vn site : Int) (w : World) (hcd : CodeAt w s c) (hs : IntsAt w ss g.s) (h1 : g.s.length ≤ gc) (h2 : gc ≤ maxLen) :
    Calls Tryz.prog 10 #[pv V F s c cap, gv g ss gc, .agg #[.int .i64 vk, .int .i64 vn], .int .i64 site] w fun e w' => e = .returned (.tuple #[.bool (if kindE (ckAllG V F c [g]) vk = 0 then heldGs g vk vn site else false), .int .i64 (kindE (ckAllG V F c [g]) vk)]) ∧ Below w.heap.size w w' := by
  by_cases hck : ckAllG V F c [g] = 0
  · by_cases k0 : vk = 0
    · subst k0
      refine (holdsG_null V F s c cap g ss gc vn site w hcd hs h1 h2 hck).mono ?_
      rintro e w' ⟨rfl, hb⟩
      exact ⟨by simp [kindE, hck, heldGs], hb⟩
    by_cases k1 : vk = 1
    · subst k1
      refine (holdsG_num V F s c cap g ss gc vn site w hcd hs h1 h2 hck).mono ?_
      rintro e w' ⟨rfl, hb⟩
      exact ⟨by simp [kindE, hck, heldGs], hb⟩
    by_cases k2 : vk = 2
    · subst k2
      refine (holdsG_truth V F s c cap g ss gc vn site w hcd hs h1 h2 hck).mono ?_
      rintro e w' ⟨rfl, hb⟩
      exact ⟨by simp [kindE, hck, heldGs], hb⟩
    by_cases k3 : vk = 3
    · subst k3
      refine (holdsG_thing V F s c cap g ss gc vn site w hcd hs h1 h2 hck).mono ?_
      rintro e w' ⟨rfl, hb⟩
      exact ⟨by simp [kindE, hck, heldGs], hb⟩
    refine (holdsG_kind V F s c cap g ss gc vk vn site w hcd hs h1 h2 hck (by simpa using k0) (by simpa using k1) (by simpa using k2) (by simpa using k3)).mono ?_
    rintro e w' ⟨rfl, hb⟩
    have hr : vk < 0 ∨ 3 < vk := by omega
    have hk : kindE (ckAllG V F c [g]) vk = 6 := by unfold kindE; rw [if_pos hck, if_pos hr]
    exact ⟨by rw [hk]; rfl, hb⟩
  · refine (holdsG_err V F s c cap g ss gc vk vn site w hcd hs h1 h2 hck).mono ?_
    rintro e w' ⟨rfl, hb⟩
    have hk : kindE (ckAllG V F c [g]) vk = ckAllG V F c [g] := by unfold kindE; rw [if_neg hck]
    exact ⟨by rw [hk, if_neg hck], hb⟩

/-- .. and the document's answer, where the kind is right. -/
theorem heldU (g : Gs) (ss : Option Addr) (gc : Nat) (vk vn site : Int) (w : World) (hs : IntsAt w ss g.s) (hgl : g.s.length ≤ maxLen) (hk : ¬ (vk < 0 ∨ 3 < vk)) :
    Calls Tryz.prog 15 #[gv g ss gc, .agg #[.int .i64 vk, .int .i64 vn], .int .i64 site] w fun e w' => e = .returned (.bool (heldGs g vk vn site)) ∧ Below w.heap.size w w' := by
  have hl : g.s.length ≤ 9223372036854775807 := by have : maxLen ≤ 9223372036854775807 := by decide
                                                   omega
  by_cases k0 : vk = 0
  · subst k0; exact heldOf_null g ss gc vn site w hs hl
  by_cases k1 : vk = 1
  · subst k1; exact heldOf_num g ss gc vn site w hs hl
  by_cases k2 : vk = 2
  · subst k2; exact heldOf_truth g ss gc vn site w hs hl
  have k3 : vk = 3 := by omega
  subst k3; exact heldOf_thing g ss gc vn site w hs hl

end Go.Proofs.YtmapdpcfanecdaaGreat

namespace Go.Proofs.YtmapdpcfanecdaaGreat
set_option linter.unusedVariables false
set_option linter.unusedSimpArgs false
open Go.RowKit
attribute [local go_sem ↓] Go.wp_at_zero Go.wp_at_succ

/-- What is made of two guesses in new memory lies away from an older row. -/
theorem joined_in {w5 w6 : World} {wd : World} {B N : Nat} {js : Option Addr} {jc : Nat} {g : Gs} {v : Value} (hI : IntsAt w5 js g.s) (h1 : g.s.length ≤ jc) (h2 : jc ≤ maxLen) (hF : ∀ a, js = some a → wd.heap.size ≤ a.block) (hB : B ≤ N) (hv : ∀ {k}, v.ownBlock = some k → k < N) (hb : Below w5.heap.size w5 w6) (hN : N ≤ wd.heap.size) : GcIn (fun b => B ≤ b ∧ v.ownBlock ≠ some b) w6 ⟨g, js, jc⟩ := by
  refine ⟨?_, h1, h2⟩
  rcases hI with h | ⟨b, off, e, hz, hc⟩
  · exact .inl h
  · have hbn := hF _ e
    simp only at hbn
    exact .inr ⟨b, off, e, ⟨by omega, fun e' => by have := hv e'; omega⟩, Nat.lt_of_lt_of_le hz hb.size, fun k hk => by rw [hb.cell (by simp only; exact hz)]; exact hc k hk⟩
theorem joinRow_take (j : Gs → Gs → Gs) (a b : List Gs) (k : Nat) (h : k < a.length) (h' : k < b.length) : joinRow j (a.take (k + 1)) (b.take (k + 1)) = joinRow j (a.take k) (b.take k) ++ [j a[k] b[k]] := by
  unfold joinRow
  rw [List.take_succ_eq_append_getElem h, List.take_succ_eq_append_getElem h', List.zipWith_append (by simp; omega)]
  rfl
theorem joinRows_take (j : Gs → Gs → Gs) (a b : List (List Gs)) (k : Nat) (h : k < a.length) (h' : k < b.length) : List.zipWith (joinRow j) (a.take (k + 1)) (b.take (k + 1)) = List.zipWith (joinRow j) (a.take k) (b.take k) ++ [joinRow j a[k] b[k]] := by
  rw [List.take_succ_eq_append_getElem h, List.take_succ_eq_append_getElem h', List.zipWith_append (by simp; omega)]
  rfl
end Go.Proofs.YtmapdpcfanecdaaGreat

namespace Go.Proofs.YtmapdpcfanecdaaGreat
set_option linter.unusedVariables false
set_option linter.unusedSimpArgs false
open Go.RowKit
attribute [local go_sem ↓] Go.wp_at_zero Go.wp_at_succ

/-- Two pictures that are right, and not none: as many guesses, each of them right. -/
theorem ckPic_form {V F : Int} {c : List Ins} {x : Pic} (h : ckPic V F c x = 0) (hn : x.none = false) : (x.vars.length : Int) = V ∧ x.flds.length = c.length ∧ (∀ r ∈ x.flds, (r.length : Int) = F) ∧ (∀ g ∈ x.vars, ckGs c g = 0) ∧ ∀ r ∈ x.flds, ∀ g ∈ r, ckGs c g = 0 := by
  unfold ckPic at h
  split at h
  · cases h
  · rename_i h1
    split at h
    · contradiction
    · rename_i h2
      have h2' : ckGss c (allPic x) = 0 := by simpa using h2
      have hall := ckGss_all h2'
      have hf : formedPic V F c x = true := by simpa using h1
      unfold formedPic at hf
      rw [hn] at hf
      simp only [Bool.false_eq_true, if_false, Bool.and_eq_true, decide_eq_true_eq, Bool.not_eq_true', List.any_eq_false] at hf
      refine ⟨hf.1, hf.2.1, fun r hr => by have := hf.2.2 r hr; simpa using this, fun g hg => hall g ?_, fun r hr g hg => hall g ?_⟩
      · unfold allPic; exact List.mem_append_left _ hg
      · unfold allPic; exact List.mem_append_right _ (List.mem_flatten.2 ⟨r, hr, hg⟩)
theorem ckAllG_pair {V F : Int} {c : List Ins} {g h : Gs} (h0 : ckProg V F c = 0) (hg : ckGs c g = 0) (hh : ckGs c h = 0) : ckAllG V F c [g, h] = 0 := by
  unfold ckAllG
  rw [if_pos h0]
  unfold ckGss
  rw [if_pos hg]
  unfold ckGss
  rw [if_pos hh]
  rfl
end Go.Proofs.YtmapdpcfanecdaaGreat
