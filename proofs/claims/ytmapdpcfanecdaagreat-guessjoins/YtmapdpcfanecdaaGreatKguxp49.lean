/- The calls of guesses, each with one contract, whatever the errno. -/
import Derived.Test.YtmapdpcfanecdaaGreatKguxp30
import Derived.Test.YtmapdpcfanecdaaGreatKguxp32
import Derived.Test.YtmapdpcfanecdaaGreatKguxp33
import Derived.Test.YtmapdpcfanecdaaGreatKguxp46
import Derived.Test.YtmapdpcfanecdaaGreatKguxp44
import Derived.Test.YtmapdpcfanecdaaGreatKguxp47
import Derived.Test.YtmapdpcfanecdaaGreatKguxp48
namespace Go.Proofs.YtmapdpcfanecdaaGreat
set_option linter.unusedVariables false
set_option linter.unusedSimpArgs false
open Go.RowKit

/-- Two guesses put together. -/
def togGs (op : Sp → Sp → Sp) (g h : Gs) : Gs := ⟨g.n || h.n, op g.sp h.sp, g.t || h.t, g.f || h.f, sitesOf [g, h]⟩

theorem ckAllG_two {V F : Int} {c : List Ins} {g h : Gs} (hk : ckAllG V F c [g, h] = 0) : ckProg V F c = 0 ∧ ckGs c g = 0 ∧ ckGs c h = 0 := by
  unfold ckAllG at hk
  split at hk
  · rename_i hp
    simp only [ckGss] at hk
    split at hk
    · rename_i hg
      split at hk
      · rename_i hh
        exact ⟨hp, hg, hh⟩
      · contradiction
    · contradiction
  · contradiction

theorem ckAllG_first {V F : Int} {c : List Ins} {g h : Gs} (hk : ckAllG V F c [g, h] = 0) : ckAllG V F c [g] = 0 := by
  obtain ⟨a, b, -⟩ := ckAllG_two hk
  unfold ckAllG
  rw [if_pos a]
  simp only [ckGss]
  rw [if_pos b]

theorem ckAllG_sites {V F : Int} {c : List Ins} {g h : Gs} (hk : ckAllG V F c [g, h] = 0) : ((∀ x ∈ g.s, 0 ≤ x ∧ x < 60) ∧ rising g.s = true) ∧ ((∀ x ∈ h.s, 0 ≤ x ∧ x < 60) ∧ rising h.s = true) := by
  obtain ⟨a, b, d⟩ := ckAllG_two hk
  have hl : c.length ≤ 60 := by
    unfold ckProg at a
    split at a
    · contradiction
    · split at a
      · contradiction
      · omega
  exact ⟨ckGs_sites hl b, ckGs_sites hl d⟩

theorem ckAllG_len {V F : Int} {c : List Ins} {g h : Gs} (hk : ckAllG V F c [g, h] = 0) : ([g, h].flatMap Gs.s).length ≤ 1000000 := by
  obtain ⟨hg, hh⟩ := ckAllG_sites hk
  have l1 := rising_len hg.2 hg.1
  have l2 := rising_len hh.2 hh.1
  simp
  omega

theorem joinU (V F : Int) (s : Option Addr) (c : List Ins) (cap : Nat) (g : Gs) (ss : Option Addr) (gc : Nat) (h : Gs) (st : Option Addr) (hc : Nat) (w : World) (hcd : CodeAt w s c) (hs : IntsAt w ss g.s) (h1 : g.s.length ≤ gc) (h2 : gc ≤ maxLen) (ht : IntsAt w st h.s) (h3 : h.s.length ≤ hc) (h4 : hc ≤ maxLen) :
    Calls Tryz.prog 7 #[pv V F s c cap, gv g ss gc, gv h st hc] w fun e w' => ∃ J js jc, e = .returned (.tuple #[gv J js jc, .int .i64 (ckAllG V F c [g, h])]) ∧ J = (if ckAllG V F c [g, h] = 0 then togGs joinSp g h else zeroG) ∧ IntsAt w' js J.s ∧ J.s.length ≤ jc ∧ jc ≤ maxLen ∧ (ckAllG V F c [g, h] ≠ 0 → js = none ∧ jc = 0) ∧ Below w.heap.size w w' := by
  by_cases hck : ckAllG V F c [g, h] = 0
  · refine (joinG_ok V F s c cap g ss gc h st hc w hcd hs h1 h2 ht h3 h4 hck (ckAllG_len hck)).mono ?_
    rintro e w' ⟨v, rfl, hown, hb⟩
    obtain ⟨js, jc, rfl, hi, hl, hm, -⟩ := IntsAt.own hown
    refine ⟨togGs joinSp g h, js, jc, ?_, by rw [if_pos hck], hi, hl, hm, fun hn => absurd hck hn, hb⟩
    rw [hck]; rfl
  · refine (joinG_err V F s c cap g ss gc h st hc w hcd hs h1 h2 ht h3 h4 hck).mono ?_
    rintro e w' ⟨rfl, hb⟩
    exact ⟨zeroG, none, 0, rfl, by rw [if_neg hck], .inl rfl, Nat.le_refl _, Nat.zero_le _, fun _ => ⟨rfl, rfl⟩, hb⟩

theorem wideU (V F : Int) (s : Option Addr) (c : List Ins) (cap : Nat) (g : Gs) (ss : Option Addr) (gc : Nat) (h : Gs) (st : Option Addr) (hc : Nat) (w : World) (hcd : CodeAt w s c) (hs : IntsAt w ss g.s) (h1 : g.s.length ≤ gc) (h2 : gc ≤ maxLen) (ht : IntsAt w st h.s) (h3 : h.s.length ≤ hc) (h4 : hc ≤ maxLen) :
    Calls Tryz.prog 8 #[pv V F s c cap, gv g ss gc, gv h st hc] w fun e w' => ∃ J js jc, e = .returned (.tuple #[gv J js jc, .int .i64 (ckAllG V F c [g, h])]) ∧ J = (if ckAllG V F c [g, h] = 0 then togGs wideSp g h else zeroG) ∧ IntsAt w' js J.s ∧ J.s.length ≤ jc ∧ jc ≤ maxLen ∧ (ckAllG V F c [g, h] ≠ 0 → js = none ∧ jc = 0) ∧ Below w.heap.size w w' := by
  by_cases hck : ckAllG V F c [g, h] = 0
  · refine (wideG_ok V F s c cap g ss gc h st hc w hcd hs h1 h2 ht h3 h4 hck (ckAllG_len hck)).mono ?_
    rintro e w' ⟨v, rfl, hown, hb⟩
    obtain ⟨js, jc, rfl, hi, hl, hm, -⟩ := IntsAt.own hown
    refine ⟨togGs wideSp g h, js, jc, ?_, by rw [if_pos hck], hi, hl, hm, fun hn => absurd hck hn, hb⟩
    rw [hck]; rfl
  · refine (wideG_err V F s c cap g ss gc h st hc w hcd hs h1 h2 ht h3 h4 hck).mono ?_
    rintro e w' ⟨rfl, hb⟩
    exact ⟨zeroG, none, 0, rfl, by rw [if_neg hck], .inl rfl, Nat.le_refl _, Nat.zero_le _, fun _ => ⟨rfl, rfl⟩, hb⟩

theorem withinU (V F : Int) (s : Option Addr) (c : List Ins) (cap : Nat) (g : Gs) (ss : Option Addr) (gc : Nat) (h : Gs) (st : Option Addr) (hc : Nat) (w : World) (hcd : CodeAt w s c) (hs : IntsAt w ss g.s) (h1 : g.s.length ≤ gc) (h2 : gc ≤ maxLen) (ht : IntsAt w st h.s) (h3 : h.s.length ≤ hc) (h4 : hc ≤ maxLen) :
    Calls Tryz.prog 9 #[pv V F s c cap, gv g ss gc, gv h st hc] w fun e w' => e = .returned (.tuple #[.bool (if ckAllG V F c [g, h] = 0 then inGs g h else false), .int .i64 (ckAllG V F c [g, h])]) ∧ Below w.heap.size w w' := by
  by_cases hck : ckAllG V F c [g, h] = 0
  · refine (withinG_ok V F s c cap g ss gc h st hc w hcd hs h1 h2 ht h3 h4 hck).mono ?_
    rintro e w' ⟨rfl, hb⟩
    exact ⟨by rw [if_pos hck, hck], hb⟩
  · refine (withinG_err V F s c cap g ss gc h st hc w hcd hs h1 h2 ht h3 h4 hck).mono ?_
    rintro e w' ⟨rfl, hb⟩
    exact ⟨by rw [if_neg hck], hb⟩

theorem truthU (V F : Int) (s : Option Addr) (c : List Ins) (cap : Nat) (g : Gs) (ss : Option Addr) (gc : Nat) (w : World) (hcd : CodeAt w s c) (hs : IntsAt w ss g.s) (h1 : g.s.length ≤ gc) (h2 : gc ≤ maxLen) :
    Calls Tryz.prog 11 #[pv V F s c cap, gv g ss gc] w fun e w' => e = .returned (.tuple #[.bool (if ckAllG V F c [g] = 0 then yesGs g else false), .bool (if ckAllG V F c [g] = 0 then noGs g else false), .int .i64 (ckAllG V F c [g])]) ∧ Below w.heap.size w w' := by
  by_cases hck : ckAllG V F c [g] = 0
  · refine (truthF_ok V F s c cap g ss gc w hcd hs h1 h2 hck).mono ?_
    rintro e w' ⟨rfl, hb⟩
    exact ⟨by rw [if_pos hck, if_pos hck, hck], hb⟩
  · refine (truthF_err V F s c cap g ss gc w hcd hs h1 h2 hck).mono ?_
    rintro e w' ⟨rfl, hb⟩
    exact ⟨by rw [if_neg hck, if_neg hck], hb⟩

/-- The errno of Holds. -/
def kindE (u vk : Int) : Int := if u = 0 then (if vk < 0 ∨ 3 < vk then 6 else 0) else u

theorem holdsU (V F : Int) (s : Option Addr) (c : List Ins) (cap : Nat) (g : Gs) (ss : Option Addr) (gc : Nat) (vk vn site : Int) (w : World) (hcd : CodeAt w s c) (hs : IntsAt w ss g.s) (h1 : g.s.length ≤ gc) (h2 : gc ≤ maxLen) :
    Calls Tryz.prog 10 #[pv V F s c cap, gv g ss gc, .agg #[.int .i64 vk, .int .i64 vn], .int .i64 site] w fun e w' => e = .returned (.tuple #[.bool (if kindE (ckAllG V F c [g]) vk = 0 then heldGs g vk vn site else false), .int .i64 (kindE (ckAllG V F c [g]) vk)]) ∧ Below w.heap.size w w' := by
  by_cases hck : ckAllG V F c [g] = 0
  · by_cases k0 : vk = 0
    · subst k0
      refine (holdsG_null V F s c cap g ss gc vn site w hcd hs h1 h2 hck).mono ?_
      rintro e w' ⟨rfl, hb⟩
      exact ⟨by simp [kindE, hck, heldGs], hb⟩
    by_cases k1 : vk = 1
    · subst k1
      refine (holdsG_num V F s c cap g ss gc vn site w hcd hs h1 h2 hck).mono ?_
      rintro e w' ⟨rfl, hb⟩
      exact ⟨by simp [kindE, hck, heldGs], hb⟩
    by_cases k2 : vk = 2
    · subst k2
      refine (holdsG_truth V F s c cap g ss gc vn site w hcd hs h1 h2 hck).mono ?_
      rintro e w' ⟨rfl, hb⟩
      exact ⟨by simp [kindE, hck, heldGs], hb⟩
    by_cases k3 : vk = 3
    · subst k3
      refine (holdsG_thing V F s c cap g ss gc vn site w hcd hs h1 h2 hck).mono ?_
      rintro e w' ⟨rfl, hb⟩
      exact ⟨by simp [kindE, hck, heldGs], hb⟩
    refine (holdsG_kind V F s c cap g ss gc vk vn site w hcd hs h1 h2 hck (by simpa using k0) (by simpa using k1) (by simpa using k2) (by simpa using k3)).mono ?_
    rintro e w' ⟨rfl, hb⟩
    have hr : vk < 0 ∨ 3 < vk := by omega
    have hk : kindE (ckAllG V F c [g]) vk = 6 := by unfold kindE; rw [if_pos hck, if_pos hr]
    exact ⟨by rw [hk]; rfl, hb⟩
  · refine (holdsG_err V F s c cap g ss gc vk vn site w hcd hs h1 h2 hck).mono ?_
    rintro e w' ⟨rfl, hb⟩
    have hk : kindE (ckAllG V F c [g]) vk = ckAllG V F c [g] := by unfold kindE; rw [if_neg hck]
    exact ⟨by rw [hk, if_neg hck], hb⟩

/-- .. and the document's answer, where the kind is right. -/
theorem heldU (g : Gs) (ss : Option Addr) (gc : Nat) (vk vn site : Int) (w : World) (hs : IntsAt w ss g.s) (hgl : g.s.length ≤ maxLen) (hk : ¬ (vk < 0 ∨ 3 < vk)) :
    Calls Tryz.prog 15 #[gv g ss gc, .agg #[.int .i64 vk, .int .i64 vn], .int .i64 site] w fun e w' => e = .returned (.bool (heldGs g vk vn site)) ∧ Below w.heap.size w w' := by
  have hl : g.s.length ≤ 9223372036854775807 := by have : maxLen ≤ 9223372036854775807 := by decide
                                                   omega
  by_cases k0 : vk = 0
  · subst k0; exact heldOf_null g ss gc vn site w hs hl
  by_cases k1 : vk = 1
  · subst k1; exact heldOf_num g ss gc vn site w hs hl
  by_cases k2 : vk = 2
  · subst k2; exact heldOf_truth g ss gc vn site w hs hl
  have k3 : vk = 3 := by omega
  subst k3; exact heldOf_thing g ss gc vn site w hs hl

theorem joinR {V F : Int} {c : List Ins} (g : Gs) (ss : Option Addr) (gc : Nat) (h : Gs) (st : Option Addr) (hc : Nat) (w : World) (hs : IntsAt w ss g.s) (ht : IntsAt w st h.s) (hck : ckAllG V F c [g, h] = 0) :
    Calls Tryz.prog 13 #[gv g ss gc, gv h st hc, .bool false] w fun e w' => ∃ js jc, e = .returned (gv (togGs joinSp g h) js jc) ∧ IntsAt w' js (togGs joinSp g h).s ∧ (∀ a, js = some a → w.heap.size ≤ a.block) ∧ Below w.heap.size w w' := by
  obtain ⟨hg, hh⟩ := ckAllG_sites hck
  have l1 := rising_len hg.2 hg.1
  have l2 := rising_len hh.2 hh.1
  refine (joinGuess_join g ss gc h st hc w hs (by omega) ht (by omega)).mono ?_
  rintro e w' ⟨v, rfl, hown, hb⟩
  obtain ⟨js, jc, rfl, hi, -, -, hf⟩ := IntsAt.own hown
  rw [← sitesOf_eq g h hg.1 hh.1] at hi ⊢
  exact ⟨js, jc, rfl, hi, hf, hb⟩

theorem wideR {V F : Int} {c : List Ins} (g : Gs) (ss : Option Addr) (gc : Nat) (h : Gs) (st : Option Addr) (hc : Nat) (w : World) (hs : IntsAt w ss g.s) (ht : IntsAt w st h.s) (hck : ckAllG V F c [g, h] = 0) :
    Calls Tryz.prog 13 #[gv g ss gc, gv h st hc, .bool true] w fun e w' => ∃ js jc, e = .returned (gv (togGs wideSp g h) js jc) ∧ IntsAt w' js (togGs wideSp g h).s ∧ (∀ a, js = some a → w.heap.size ≤ a.block) ∧ Below w.heap.size w w' := by
  obtain ⟨hg, hh⟩ := ckAllG_sites hck
  have l1 := rising_len hg.2 hg.1
  have l2 := rising_len hh.2 hh.1
  refine (joinGuess_wide g ss gc h st hc w hs (by omega) ht (by omega)).mono ?_
  rintro e w' ⟨v, rfl, hown, hb⟩
  obtain ⟨js, jc, rfl, hi, -, -, hf⟩ := IntsAt.own hown
  rw [← sitesOf_eq g h hg.1 hh.1] at hi ⊢
  exact ⟨js, jc, rfl, hi, hf, hb⟩

end Go.Proofs.YtmapdpcfanecdaaGreat
