/- The calls of guesses, each with one contract, whatever the errno. -/
import Derived.Test.YtmapdpcfanecdaaGreatKpicxp25
import Derived.Test.YtmapdpcfanecdaaGreatKpicxp26
import Derived.Test.YtmapdpcfanecdaaGreatKpicxp28
import Derived.Test.YtmapdpcfanecdaaGreatKpicxp18
import Derived.Test.YtmapdpcfanecdaaGreatKpicxp29
import Derived.Test.YtmapdpcfanecdaaGreatKpicxp30
namespace Go.Proofs.YtmapdpcfanecdaaGreat
set_option linter.unusedVariables false
set_option linter.unusedSimpArgs false
open Go.RowKit

/-- Two guesses put together. -/
def togGs (op : Sp → Sp → Sp) (g h : Gs) : Gs := ⟨g.n || h.n, op g.sp h.sp, g.t || h.t, g.f || h.f, sitesOf [g, h]⟩

theorem ckAllG_two {V F : Int} {c : List Ins} {g h : Gs} (hk : ckAllG V F c [g, h] = 0) : ckProg V F c = 0 ∧ ckGs c g = 0 ∧ ckGs c h = 0 := by
  unfold ckAllG at hk
  split at hk
  · rename_i hp
    simp only [ckGss] at hk
    split at hk
    · rename_i hg
      split at hk
      · rename_i hh
        exact ⟨hp, hg, hh⟩
      · contradiction
    · contradiction
  · contradiction

theorem ckAllG_sites {V F : Int} {c : List Ins} {g h : Gs} (hk : ckAllG V F c [g, h] = 0) : ((∀ x ∈ g.s, 0 ≤ x ∧ x < 60) ∧ rising g.s = true) ∧ ((∀ x ∈ h.s, 0 ≤ x ∧ x < 60) ∧ rising h.s = true) := by
  obtain ⟨a, b, d⟩ := ckAllG_two hk
  have hl : c.length ≤ 60 := by
    unfold ckProg at a
    split at a
    · contradiction
    · split at a
      · contradiction
      · omega
  exact ⟨ckGs_sites hl b, ckGs_sites hl d⟩

theorem withinU (V F : Int) (s : Option Addr) (c : List Ins) (cap : Nat) (g : Gs) (ss : Option Addr) (gc : Nat) (h : Gs) (st : Option Addr) (hc : Nat) (w : World) (hcd : CodeAt w s c) (hs : IntsAt w ss g.s) (h1 : g.s.length ≤ gc) (h2 : gc ≤ maxLen) (ht : IntsAt w st h.s) (h3 : h.s.length ≤ hc) (h4 : hc ≤ maxLen) :
    Calls Tryz.prog 9 #[pv V F s c cap, gv g ss gc, gv h st hc] w fun e w' => e = .returned (.tuple #[.bool (if ckAllG V F c [g, h] = 0 then inGs g h else false), .int .i64 (ckAllG V F c [g, h])]) ∧ Below w.heap.size w w' := by
  by_cases hck : ckAllG V F c [g, h] = 0
  · refine (withinG_ok V F s c cap g ss gc h st hc w hcd hs h1 h2 ht h3 h4 hck).mono ?_
    rintro e w' ⟨rfl, hb⟩
    exact ⟨by rw [if_pos hck, hck], hb⟩
  · refine (withinG_err V F s c cap g ss gc h st hc w hcd hs h1 h2 ht h3 h4 hck).mono ?_
    rintro e w' ⟨rfl, hb⟩
    exact ⟨by rw [if_neg hck], hb⟩

/-- The errno of Holds. -/
def kindE (u vk : Int) : Int := if u = 0 then (if vk < 0 ∨ 3 < vk then 6 else 0) else u

theorem holdsU (V F : Int) (s : Option Addr) (c : List Ins) (cap : Nat) (g : Gs) (ss : Option Addr) (gc : Nat) (vk vn site : Int) (w : World) (hcd : CodeAt w s c) (hs : IntsAt w ss g.s) (h1 : g.s.length ≤ gc) (h2 : gc ≤ maxLen) :
    Calls Tryz.prog 10 #[pv V F s c cap, gv g ss gc, .agg #[.int .i64 vk, .int .i64 vn], .int .i64 site] w fun e w' => e = .returned (.tuple #[.bool (if kindE (ckAllG V F c [g]) vk = 0 then heldGs g vk vn site else false), .int .i64 (kindE (ckAllG V F c [g]) vk)]) ∧ Below w.heap.size w w' := by
  by_cases hck : ckAllG V F c [g] = 0
  · by_cases k0 : vk = 0
    · subst k0
      refine (holdsG_null V F s c cap g ss gc vn site w hcd hs h1 h2 hck).mono ?_
      rintro e w' ⟨rfl, hb⟩
      exact ⟨by simp [kindE, hck, heldGs], hb⟩
    by_cases k1 : vk = 1
    · subst k1
      refine (holdsG_num V F s c cap g ss gc vn site w hcd hs h1 h2 hck).mono ?_
      rintro e w' ⟨rfl, hb⟩
      exact ⟨by simp [kindE, hck, heldGs], hb⟩
    by_cases k2 : vk = 2
    · subst k2
      refine (holdsG_truth V F s c cap g ss gc vn site w hcd hs h1 h2 hck).mono ?_
      rintro e w' ⟨rfl, hb⟩
      exact ⟨by simp [kindE, hck, heldGs], hb⟩
    by_cases k3 : vk = 3
    · subst k3
      refine (holdsG_thing V F s c cap g ss gc vn site w hcd hs h1 h2 hck).mono ?_
      rintro e w' ⟨rfl, hb⟩
      exact ⟨by simp [kindE, hck, heldGs], hb⟩
    refine (holdsG_kind V F s c cap g ss gc vk vn site w hcd hs h1 h2 hck (by simpa using k0) (by simpa using k1) (by simpa using k2) (by simpa using k3)).mono ?_
    rintro e w' ⟨rfl, hb⟩
    have hr : vk < 0 ∨ 3 < vk := by omega
    have hk : kindE (ckAllG V F c [g]) vk = 6 := by unfold kindE; rw [if_pos hck, if_pos hr]
    exact ⟨by rw [hk]; rfl, hb⟩
  · refine (holdsG_err V F s c cap g ss gc vk vn site w hcd hs h1 h2 hck).mono ?_
    rintro e w' ⟨rfl, hb⟩
    have hk : kindE (ckAllG V F c [g]) vk = ckAllG V F c [g] := by unfold kindE; rw [if_neg hck]
    exact ⟨by rw [hk, if_neg hck], hb⟩

end Go.Proofs.YtmapdpcfanecdaaGreat
