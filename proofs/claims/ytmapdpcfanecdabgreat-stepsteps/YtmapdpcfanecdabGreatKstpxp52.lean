/- The document's step, whatever it is handed. -/
import Derived.Test.YtmapdpcfanecdabGreatKstpxp41
import Derived.Test.YtmapdpcfanecdabGreatKstpxp42
import Derived.Test.YtmapdpcfanecdabGreatKstpxp43
import Derived.Test.YtmapdpcfanecdabGreatKstpxp44
import Derived.Test.YtmapdpcfanecdabGreatKstpxp45
import Derived.Test.YtmapdpcfanecdabGreatKstpxp46
import Derived.Test.YtmapdpcfanecdabGreatKstpxp32
import Derived.Test.YtmapdpcfanecdabGreatKstpxp28
import Derived.Test.YtmapdpcfanecdabGreatKstpxp17
import Derived.Test.YtmapdpcfanecdabGreatKstpxp29
import Derived.Test.YtmapdpcfanecdabGreatKstpxp37
import Derived.Test.YtmapdpcfanecdabGreatKstpxp38
import Derived.Test.YtmapdpcfanecdabGreatKstpxp39
import Derived.Test.YtmapdpcfanecdabGreatKstpxp40
import Derived.Test.YtmapdpcfanecdabGreatKstpxp34
import Derived.Test.YtmapdpcfanecdabGreatKstpxp47
import Derived.Test.YtmapdpcfanecdabGreatKstpxp01
import Derived.Deep.RegionHeld
import Derived.WalkKit
import Derived.WalkSpells
import Derived.WalkLawsBesides
import Derived.Handy
import Derived.Deep.DeepCutAuto
import Derived.Test.YtmapdpcfanecdabGreatKstpxp35
import Derived.Test.YtmapdpcfanecdabGreatKstpxp50
import Derived.Test.YtmapdpcfanecdabGreatKstpxp51
import Derived.Test.YtmapdpcfanecdabGreatKstpxp48
set_option linter.unusedSimpArgs false
set_option linter.unusedVariables false
namespace Go.Proofs.YtmapdpcfanecdabGreat
section
set_option maxHeartbeats 4000000
set_option maxRecDepth 10000
open Go.RowKit

theorem doR_9 (w : World) (g : Gs) (ss : Option Addr) (gc : Nat) (h : Gs) (st : Option Addr) (hc : Nat) (hs : IntsAt w ss g.s) (hgl : g.s.length ≤ 9223372036854775807) (ht : IntsAt w st h.s) (hhl : h.s.length ≤ 9223372036854775807) :
  Calls Tryz.prog 27 #[.int .i64 9, gv g ss gc, gv h st hc] w fun e w' => e = .returned (if (nothingGs g || nothingGs h) = true then .tuple #[gv noneG none 0, .bool false] else .tuple #[gv ⟨false, ⟨true, 0, 0⟩, (g.n && h.n) || (!(meetSp g.sp h.sp).n || ((g.t && h.t) || ((g.f && h.f) || g.s.any fun x => h.s.contains x))), !alikeGs g h, []⟩ none 0, .bool false]) ∧ Below w.heap.size w w' := by
 have c1 : g.n = true ∨ g.n = false := by cases g.n <;> simp
 have c2 : h.n = true ∨ h.n = false := by cases h.n <;> simp
 by_cases hS : oneGs g < 0 ∨ oneGs g ≠ oneGs h
 ·rcases c1 with e1 | e1
  ·rcases c2 with e2 | e2
   ·exact doR_9n0s0 w g ss gc h st hc hs hgl ht hhl e1 e2 hS
   ·exact doR_9n2s0 w g ss gc h st hc hs hgl ht hhl e1 e2 hS
  ·exact doR_9n1s0 w g ss gc h st hc hs hgl ht hhl e1 hS
 ·have h1 : ¬ oneGs g < 0 := fun h => hS (.inl h)
  have h2 : oneGs g = oneGs h := Classical.byContradiction fun h => hS (.inr h)
  rcases c1 with e1 | e1
  ·rcases c2 with e2 | e2
   ·exact doR_9n0s1 w g ss gc h st hc hs hgl ht hhl e1 e2 h1 h2
   ·exact doR_9n2s1 w g ss gc h st hc hs hgl ht hhl e1 e2 h1 h2
  ·exact doR_9n1s1 w g ss gc h st hc hs hgl ht hhl e1 h1 h2
end
section
open Go.RowKit

/-- The errno of Do. -/
def doE (u k : Int) : Int := if u = 0 then (if k < 4 ∨ 10 < k then 6 else 0) else u

theorem nothing_eq {c : List Ins} {g : Gs} (hn : nothingGs g = true) (hk : ckGs c g = 0) : g = noneG := by
 have ho := ckSp_ok.mp (ckGs_sp hk)
 clear hk
 obtain ⟨n, ⟨sn, lo, hi⟩, t, f, s⟩ := g
 cases s with
 | cons x r => simp [nothingGs, otherGs] at hn
 | nil =>
  simp [nothingGs, otherGs] at hn
  obtain ⟨rfl, rfl, rfl, rfl⟩ := hn
  obtain ⟨l1, l2⟩ := ho.2.2.1 rfl
  simp only at l1 l2
  subst l1 l2
  rfl
theorem do_4 (g h : Gs) : doGs 4 g h = (g, false) := by simp [doGs]
theorem do_10 (g h : Gs) : doGs 10 g h = (⟨false, ⟨true, 0, 0⟩, noGs g, yesGs g, []⟩, false) := by simp [doGs]
theorem do_none {k : Int} {g h : Gs} (hk : k = 5 ∨ k = 6 ∨ k = 7 ∨ k = 8 ∨ k = 9) (hn : (nothingGs g || nothingGs h) = true) : doGs k g h = (noneG, false) := by
 unfold doGs
 rw [if_neg (by omega), if_neg (by omega), if_pos hn]
theorem do_567 {k : Int} {g h : Gs} (hk : k = 5 ∨ k = 6 ∨ k = 7) (hn : (nothingGs g || nothingGs h) = false) : doGs k g h = (⟨false, doSp k g.sp h.sp, false, false, []⟩, otherGs g || otherGs h) := by
 unfold doGs
 rw [if_neg (by omega), if_neg (by omega), if_neg (by rw [hn]; simp), if_neg (by omega), if_neg (by omega)]
theorem do_8 {g h : Gs} (hn : (nothingGs g || nothingGs h) = false) : doGs 8 g h = (⟨false, ⟨true, 0, 0⟩, !(g.sp.n || h.sp.n) && decide (g.sp.lo < h.sp.hi), !(g.sp.n || h.sp.n) && decide (h.sp.lo ≤ g.sp.hi), []⟩, otherGs g || otherGs h) := by
 unfold doGs
 rw [if_neg (by omega), if_neg (by omega), if_neg (by rw [hn]; simp), if_neg (by omega), if_pos rfl]
theorem do_9 {g h : Gs} (hn : (nothingGs g || nothingGs h) = false) : doGs 9 g h = (⟨false, ⟨true, 0, 0⟩, (g.n && h.n) || (!(meetSp g.sp h.sp).n || ((g.t && h.t) || ((g.f && h.f) || g.s.any fun x => h.s.contains x))), !alikeGs g h, []⟩, false) := by
 unfold doGs
 rw [if_neg (by omega), if_neg (by omega), if_neg (by rw [hn]; simp), if_pos rfl]
theorem nothing_n {g : Gs} (h : nothingGs g = true) : g.sp.n = true := by
 unfold nothingGs at h
 cases e : g.sp.n
 ·rw [e] at h; simp at h
 ·rfl
theorem nothing_nn {g h : Gs} (hn : (nothingGs g || nothingGs h) = true) : (g.sp.n || h.sp.n) = true := by
 cases e : nothingGs g
 ·rw [e] at hn
  rw [nothing_n (g := h) (by simpa using hn)]; simp
 ·rw [nothing_n e]; rfl
theorem any_two (f : Gs → Bool) (g h : Gs) : [g, h].any f = (f g || f h) := by simp
theorem do_p567 {k : Int} {g h : Gs} (hk : k = 5 ∨ k = 6 ∨ k = 7) : doGs k g h = (⟨false, doSp k g.sp h.sp, false, false, []⟩, [g, h].any otherGs && ![g, h].any nothingGs) := by
 rw [any_two, any_two]
 cases hn : (nothingGs g || nothingGs h)
 ·rw [do_567 hk hn]; simp
 ·rw [do_none (by omega) hn]
  have e : doSp k g.sp h.sp = ⟨true, 0, 0⟩ := by unfold doSp; rw [if_pos (nothing_nn hn)]
  rw [e]; simp [noneG]
theorem do_p8 {g h : Gs} : doGs 8 g h = (⟨false, ⟨true, 0, 0⟩, !(g.sp.n || h.sp.n) && decide (g.sp.lo < h.sp.hi), !(g.sp.n || h.sp.n) && decide (h.sp.lo ≤ g.sp.hi), []⟩, [g, h].any otherGs && ![g, h].any nothingGs) := by
 rw [any_two, any_two]
 cases hn : (nothingGs g || nothingGs h)
 ·rw [do_8 hn]; simp
 ·rw [do_none (by omega) hn, nothing_nn hn]; simp [noneG]
theorem no_none : noGs noneG = false ∧ yesGs noneG = false := by decide

/-- What Do answers, whatever it is handed. -/
theorem doU (V F : Int) (s : Option Addr) (c : List Ins) (cap : Nat) (g : Gs) (ss : Option Addr) (gc : Nat) (h : Gs) (st : Option Addr) (hc : Nat) (k : Int) (w : World) (hcd : CodeAt w s c) (hs : IntsAt w ss g.s) (h1 : g.s.length ≤ gc) (h2 : gc ≤ maxLen) (ht : IntsAt w st h.s) (h3 : h.s.length ≤ hc) (h4 : hc ≤ maxLen) :
  Calls Tryz.prog 92 #[pv V F s c cap, .int .i64 k, gv g ss gc, gv h st hc] w fun e w' => ∃ J js jc wr, e = .returned (.tuple #[gv J js jc, .bool wr, .int .i64 (doE (ckAllG V F c [g, h]) k)]) ∧ (J, wr) = (if doE (ckAllG V F c [g, h]) k = 0 then doGs k g h else (zeroG, false)) ∧ IntsAt w' js J.s ∧ J.s.length ≤ jc ∧ jc ≤ maxLen ∧ (∀ a, js = some a → w.heap.size ≤ a.block) ∧ (doE (ckAllG V F c [g, h]) k ≠ 0 → js = none ∧ jc = 0) ∧ Below w.heap.size w w' := by
 by_cases hck : ckAllG V F c [g, h] = 0
 ·obtain ⟨-, hg, hh⟩ := ckAllG_two hck
  have ok1 := ckSp_ok.mp (ckGs_sp hg)
  have ok2 := ckSp_ok.mp (ckGs_sp hh)
  by_cases hk : k < 4 ∨ 10 < k
  ·have he : doE (ckAllG V F c [g, h]) k = 6 := by unfold doE; rw [if_pos hck, if_pos hk]
   rw [he]
   have hb0 : ∀ j : Int, 4 ≤ j → j ≤ 10 → (k == j) = false := fun j a b => by simp; omega
   refine (doG_kind V F s c cap g ss gc h st hc k w hcd hs h1 h2 ht h3 h4 hck (hb0 4 (by omega) (by omega)) (hb0 5 (by omega) (by omega)) (hb0 6 (by omega) (by omega)) (hb0 7 (by omega) (by omega)) (hb0 8 (by omega) (by omega)) (hb0 9 (by omega) (by omega)) (hb0 10 (by omega) (by omega))).mono ?_
   rintro e w' ⟨rfl, hb⟩
   exact ⟨zeroG, none, 0, false, rfl, by rw [if_neg (by omega)], .inl rfl, Nat.zero_le _, Nat.zero_le _, (fun a ha => by cases ha), fun _ => ⟨rfl, rfl⟩, hb⟩
  ·have he : doE (ckAllG V F c [g, h]) k = 0 := by unfold doE; rw [if_pos hck, if_neg hk]
   rw [he]
   have h7 : k = 4 ∨ k = 5 ∨ k = 6 ∨ k = 7 ∨ k = 8 ∨ k = 9 ∨ k = 10 := by omega
   rcases h7 with rfl | rfl | rfl | rfl | rfl | rfl | rfl
   ·have hl := (ckAllG_sites hck).1
    have l1 := rising_len hl.2 hl.1
    refine (doG_4 V F s c cap g ss gc h st hc w hcd hs h1 h2 ht h3 h4 hck (by omega)).mono ?_
    rintro e w' ⟨v, rfl, hown, hb⟩
    obtain ⟨js, jc, rfl, hi, hjl, hm, hfa⟩ := IntsAt.own hown
    exact ⟨g, js, jc, false, rfl, by rw [if_pos rfl, do_4], hi, hjl, hm, hfa, fun hn => absurd rfl hn, hb⟩
   ·refine (doG_5 V F s c cap g ss gc h st hc w hcd hs h1 h2 ht h3 h4 hck).mono ?_
    rintro e w' ⟨rfl, hb⟩
    exact ⟨_, none, 0, _, rfl, by rw [if_pos rfl, do_p567 (by omega)], .inl rfl, Nat.zero_le _, Nat.zero_le _, (fun a ha => by cases ha), fun hn => absurd rfl hn, hb⟩
   ·refine (doG_6 V F s c cap g ss gc h st hc w hcd hs h1 h2 ht h3 h4 hck).mono ?_
    rintro e w' ⟨rfl, hb⟩
    exact ⟨_, none, 0, _, rfl, by rw [if_pos rfl, do_p567 (by omega)], .inl rfl, Nat.zero_le _, Nat.zero_le _, (fun a ha => by cases ha), fun hn => absurd rfl hn, hb⟩
   ·refine (doG_7 V F s c cap g ss gc h st hc w hcd hs h1 h2 ht h3 h4 hck).mono ?_
    rintro e w' ⟨rfl, hb⟩
    exact ⟨_, none, 0, _, rfl, by rw [if_pos rfl, do_p567 (by omega)], .inl rfl, Nat.zero_le _, Nat.zero_le _, (fun a ha => by cases ha), fun hn => absurd rfl hn, hb⟩
   ·refine (doG_8 V F s c cap g ss gc h st hc w hcd hs h1 h2 ht h3 h4 hck).mono ?_
    rintro e w' ⟨rfl, hb⟩
    exact ⟨_, none, 0, _, rfl, by rw [if_pos rfl, do_p8], .inl rfl, Nat.zero_le _, Nat.zero_le _, (fun a ha => by cases ha), fun hn => absurd rfl hn, hb⟩
   ·have mx : maxLen ≤ 9223372036854775807 := by decide
    cases hn : (nothingGs g || nothingGs h)
    ·refine (doG_9 V F s c cap g ss gc h st hc w hcd hs h1 h2 ht h3 h4 hck _ _ (fun wx hbx => same_some g ss gc h st hc wx (hs.below hbx (Nat.le_refl _)) (by omega) (ht.below hbx (Nat.le_refl _)) (by omega) (ckSps_ok.mpr ⟨ok1, ok2⟩) (by rw [any_two]; exact hn))).mono ?_
     rintro e w' ⟨rfl, hb⟩
     exact ⟨_, none, 0, _, rfl, by rw [if_pos rfl, do_9 hn], .inl rfl, Nat.zero_le _, Nat.zero_le _, (fun a ha => by cases ha), fun hn => absurd rfl hn, hb⟩
    ·refine (doG_9 V F s c cap g ss gc h st hc w hcd hs h1 h2 ht h3 h4 hck _ _ (fun wx hbx => same_none g ss gc h st hc wx (by rw [any_two]; exact hn))).mono ?_
     rintro e w' ⟨rfl, hb⟩
     exact ⟨_, none, 0, _, rfl, by rw [if_pos rfl, do_none (by omega) hn]; rfl, .inl rfl, Nat.zero_le _, Nat.zero_le _, (fun a ha => by cases ha), fun hn => absurd rfl hn, hb⟩
   ·refine (doG_10 V F s c cap g ss gc h st hc w hcd hs h1 h2 ht h3 h4 hck (ckGs_sp hg)).mono ?_
    rintro e w' ⟨rfl, hb⟩
    exact ⟨_, none, 0, _, rfl, by rw [if_pos rfl, do_10], .inl rfl, Nat.zero_le _, Nat.zero_le _, (fun a ha => by cases ha), fun hn => absurd rfl hn, hb⟩
 ·have he : doE (ckAllG V F c [g, h]) k = ckAllG V F c [g, h] := by unfold doE; rw [if_neg hck]
  rw [he]
  refine (doG_err V F s c cap g ss gc h st hc k w hcd hs h1 h2 ht h3 h4 hck).mono ?_
  rintro e w' ⟨rfl, hb⟩
  exact ⟨zeroG, none, 0, false, rfl, by rw [if_neg hck], .inl rfl, Nat.zero_le _, Nat.zero_le _, (fun a ha => by cases ha), fun _ => ⟨rfl, rfl⟩, hb⟩
end
section
open Go.RowKit
/-- What DoGuess answers to two guesses that are right. -/
theorem doRU2 {V F : Int} {c : List Ins} (g : Gs) (ss : Option Addr) (gc : Nat) (h : Gs) (st : Option Addr) (hc : Nat) (k : Int) (w : World) (hs : IntsAt w ss g.s) (hgl : g.s.length ≤ 9223372036854775807) (ht : IntsAt w st h.s) (hhl : h.s.length ≤ 9223372036854775807) (hck : ckAllG V F c [g, h] = 0) (hk : ¬ (k < 4 ∨ 10 < k)) :
  Calls Tryz.prog 27 #[.int .i64 k, gv g ss gc, gv h st hc] w fun e w' => ∃ vs vc, e = .returned (.tuple #[gv (doGs k g h).1 vs vc, .bool (doGs k g h).2]) ∧ (((doGs k g h).1.s = [] ∧ vs = none ∧ vc = 0) ∨ (vs = ss ∧ vc = gc ∧ (doGs k g h).1.s = g.s)) ∧ Below w.heap.size w w' := by
 obtain ⟨-, hg, hh⟩ := ckAllG_two hck
 have ok1 := ckSp_ok.mp (ckGs_sp hg)
 have ok2 := ckSp_ok.mp (ckGs_sp hh)
 have h7 : k = 4 ∨ k = 5 ∨ k = 6 ∨ k = 7 ∨ k = 8 ∨ k = 9 ∨ k = 10 := by omega
 rcases h7 with rfl | rfl | rfl | rfl | rfl | rfl | rfl
 ·refine (doR_4 w g ss gc h st hc).mono ?_
  rintro e w' ⟨rfl, hb⟩
  cases hn : nothingGs g
  ·exact ⟨ss, gc, by rw [if_neg (by simp), do_4], .inr ⟨rfl, rfl, by rw [do_4]⟩, hb⟩
  ·exact ⟨none, 0, by rw [if_pos rfl, do_4, nothing_eq hn hg], .inl ⟨by rw [do_4, nothing_eq hn hg]; rfl, rfl, rfl⟩, hb⟩
 ·refine (doR_5 w g ss gc h st hc ok1 ok2).mono ?_
  rintro e w' ⟨rfl, hb⟩
  cases hn : (nothingGs g || nothingGs h)
  ·exact ⟨none, 0, by rw [if_neg (by simp), do_567 (by omega) hn], .inl ⟨by rw [do_567 (by omega) hn], rfl, rfl⟩, hb⟩
  ·exact ⟨none, 0, by rw [if_pos rfl, do_none (by omega) hn], .inl ⟨by rw [do_none (by omega) hn]; rfl, rfl, rfl⟩, hb⟩
 ·refine (doR_6 w g ss gc h st hc ok1 ok2).mono ?_
  rintro e w' ⟨rfl, hb⟩
  cases hn : (nothingGs g || nothingGs h)
  ·exact ⟨none, 0, by rw [if_neg (by simp), do_567 (by omega) hn], .inl ⟨by rw [do_567 (by omega) hn], rfl, rfl⟩, hb⟩
  ·exact ⟨none, 0, by rw [if_pos rfl, do_none (by omega) hn], .inl ⟨by rw [do_none (by omega) hn]; rfl, rfl, rfl⟩, hb⟩
 ·refine (doR_7 w g ss gc h st hc ok1 ok2).mono ?_
  rintro e w' ⟨rfl, hb⟩
  cases hn : (nothingGs g || nothingGs h)
  ·exact ⟨none, 0, by rw [if_neg (by simp), do_567 (by omega) hn], .inl ⟨by rw [do_567 (by omega) hn], rfl, rfl⟩, hb⟩
  ·exact ⟨none, 0, by rw [if_pos rfl, do_none (by omega) hn], .inl ⟨by rw [do_none (by omega) hn]; rfl, rfl, rfl⟩, hb⟩
 ·refine (doR_8 w g ss gc h st hc).mono ?_
  rintro e w' ⟨rfl, hb⟩
  cases hn : (nothingGs g || nothingGs h)
  ·exact ⟨none, 0, by rw [if_neg (by simp), do_8 hn], .inl ⟨by rw [do_8 hn], rfl, rfl⟩, hb⟩
  ·exact ⟨none, 0, by rw [if_pos rfl, do_none (by omega) hn], .inl ⟨by rw [do_none (by omega) hn]; rfl, rfl, rfl⟩, hb⟩
 ·refine (doR_9 w g ss gc h st hc hs hgl ht hhl).mono ?_
  rintro e w' ⟨rfl, hb⟩
  cases hn : (nothingGs g || nothingGs h)
  ·exact ⟨none, 0, by rw [if_neg (by simp), do_9 hn], .inl ⟨by rw [do_9 hn], rfl, rfl⟩, hb⟩
  ·exact ⟨none, 0, by rw [if_pos rfl, do_none (by omega) hn], .inl ⟨by rw [do_none (by omega) hn]; rfl, rfl, rfl⟩, hb⟩
 ·refine (doR_10 w g ss gc h st hc).mono ?_
  rintro e w' ⟨rfl, hb⟩
  cases hn : nothingGs g
  ·exact ⟨none, 0, by rw [if_neg (by simp), do_10], .inl ⟨by rw [do_10], rfl, rfl⟩, hb⟩
  ·exact ⟨none, 0, by rw [if_pos rfl, do_10, nothing_eq hn hg, no_none.1, no_none.2]; rfl, .inl ⟨by rw [do_10], rfl, rfl⟩, hb⟩
end
section
set_option maxHeartbeats 8000000
set_option maxRecDepth 100000
open Go.RowKit
attribute [local go_sem ↓] Go.wp_at_zero Go.wp_at_succ

theorem prf_1487c8 {p : Prop} (h : p := by
 have a0 := AP.1 0 _ rfl
 have e0 := EP.1 0 _ rfl
 have a1 := AP.1 1 _ rfl
 have e1 := EP.1 1 _ rfl
 have a2 := AP.1 2 _ rfl
 have e2 := EP.1 2 _ rfl
 have a3 := AP.1 3 _ rfl
 have e3 := EP.1 3 _ rfl
 have a4 := AP.1 4 _ rfl
 have e4 := EP.1 4 _ rfl
 have a5 := AP.1 5 _ rfl
 have e5 := EP.1 5 _ rfl
 have a6 := AP.1 6 _ rfl
 have e6 := EP.1 6 _ rfl
 go_wp2_with (go_at_call 27; fail)
 refine (HDO.out wp BP).mono ?_
 rintro e wd ⟨ss, cp, rfl, HJ0, hbd⟩
 have HJ := hideH HJ0
 clear HJ0 HDO a0 e0 a1 e1 a2 e2 a3 e3 a4 e4 a5 e5 a6 e6 i0 q19 q18 q16 q15 q17 q13 q12 q11 q1 q14 q2 q3
 have TQ := TP.call hbd
 have IQ := IP.call hbd
 have YQ := YP.call hbd
 have OQ := OP.call hbd
 have BQ := BP.trans (hbd.mono BP.size)
 have YWQ := YW.trans (hbd.mono YW.size)
 clear TP IP YP OP BP YW hbd PP XP AP EP
 have TP := TQ
 have IP := IQ
 have YP := YQ
 have OP := OQ
 have BP := BQ
 have YW := YWQ
 clear TQ IQ YQ OQ BQ YWQ
 have z0 := TP.1 0 _ rfl
 have fz0 := TP.2.2 0
 have z1 := TP.1 1 _ rfl
 have fz1 := TP.2.2 1
 have z2 := TP.1 2 _ rfl
 have fz2 := TP.2.2 2
 have z3 := TP.1 3 _ rfl
 have fz3 := TP.2.2 3
 have z4 := TP.1 4 _ rfl
 have fz4 := TP.2.2 4
 have z5 := TP.1 5 _ rfl
 have fz5 := TP.2.2 5
 have z6 := TP.1 6 _ rfl
 have fz6 := TP.2.2 6
 go_upto_region 84 with fail
 clear z0 fz0 z1 fz1 z2 fz2 z3 fz3 z4 fz4 z5 fz5 z6 fz6
 obtain ⟨wx, ewx⟩ : ∃ q, q = setL wd (w11.heap.size) 0 [.bool gg.n, .bool gg.sp.n, .int .i64 gg.sp.lo, .int .i64 gg.sp.hi, .bool gg.t, .bool gg.f, .slice ss gg.s.length cp] := ⟨_, rfl⟩
 have PU := put_some TP 0 _ ewx
 simp only [setL] at ewx
 rw [← ewx]
 clear ewx
 have TX := PU.cells
 have IX := PU.keep IP
 have YX := PU.keep YP
 have OX := PU.keep OP
 have BX := PU.low (by omega) BP
 have YWX := PU.low (by omega) YW
 have HGI : Hid (IntsIn (fun b => (T b ∧ b < w.heap.size) ∨ w3.heap.size ≤ b) wx ss gg.s) := (PU.ints HJ.out.1 (fun q hq => by omega)).mono fun b hb _ => .inl hb
 have HCP : Hid (gg.s.length ≤ cp ∧ cp ≤ maxLen) := HJ.out.2
 clear PU HJ HGW
 rcases Bool.eq_false_or_eq_true (nothingGs gg) with hn0 | hn0
 ·have hng := hideH hn0
  clear hn0
  have HIS : Hid (∀ wz, Calls Tryz.prog 28 #[.agg #[.bool gg.n, .bool gg.sp.n, .int .i64 gg.sp.lo, .int .i64 gg.sp.hi, .bool gg.t, .bool gg.f, .slice ss gg.s.length cp]] wz fun e w' => e = .returned (.bool true) ∧ Below wz.heap.size wz w') := fun wz => by have h := isNothing_any gg ss cp wz; rw [hng.out] at h; exact h
  have t0 := TX.1 0 _ rfl
  have t1 := TX.1 1 _ rfl
  have t2 := TX.1 2 _ rfl
  have t3 := TX.1 3 _ rfl
  have t4 := TX.1 4 _ rfl
  have t5 := TX.1 5 _ rfl
  have t6 := TX.1 6 _ rfl
  go_wp2_with (go_at_call 28; fail)
  refine ((HIS.out wx).mono ?_)
  rintro e wy ⟨rfl, hby⟩
  clear t0 t1 t2 t3 t4 t5 t6
  have TY := TX.call hby
  have IY := IX.call hby
  have YY := YX.call hby
  have OY := OX.call hby
  have BY := BX.trans (hby.mono BX.size)
  have YWY := YWX.trans (hby.mono YWX.size)
  have HGY := hideH (IntsIn.call HGI.out hby)
  clear TX IX YX OX BX YWX HIS HGI
  clear TY IY YY OY YWY HGY
  go_wp2
  refine bodyPost_ret (v := .tuple #[.slice none 0 0, .bool wr, .bool false]) (by simp [results, Tryz.results7, go_sem]) rfl ⟨?_, BY⟩
  rw [HST.out, if_pos hng.out]
  exact ⟨none, 0, rfl, EdsOn.nil⟩
 ·have hng := hideH hn0
  clear hn0
  have HIS : Hid (∀ wz, Calls Tryz.prog 28 #[.agg #[.bool gg.n, .bool gg.sp.n, .int .i64 gg.sp.lo, .int .i64 gg.sp.hi, .bool gg.t, .bool gg.f, .slice ss gg.s.length cp]] wz fun e w' => e = .returned (.bool false) ∧ Below wz.heap.size wz w') := fun wz => by have h := isNothing_any gg ss cp wz; rw [hng.out] at h; exact h
  have t0 := TX.1 0 _ rfl
  have t1 := TX.1 1 _ rfl
  have t2 := TX.1 2 _ rfl
  have t3 := TX.1 3 _ rfl
  have t4 := TX.1 4 _ rfl
  have t5 := TX.1 5 _ rfl
  have t6 := TX.1 6 _ rfl
  go_wp2_with (go_at_call 28; fail)
  refine ((HIS.out wx).mono ?_)
  rintro e wy ⟨rfl, hby⟩
  clear t0 t1 t2 t3 t4 t5 t6
  have TY := TX.call hby
  have IY := IX.call hby
  have YY := YX.call hby
  have OY := OX.call hby
  have BY := BX.trans (hby.mono BX.size)
  have YWY := YWX.trans (hby.mono YWX.size)
  have HGY := hideH (IntsIn.call HGI.out hby)
  clear TX IX YX OX BX YWX HIS HGI
  have GP := GOW.same (w' := wy) (fun b _ hlt => YWY.block b hlt) YWY.size
  have GC := gc_away (T := T) (y := ⟨gg, ss, cp⟩) GOW (by omega) (by omega) HGY.out HCP.out.1 HCP.out.2
  have hktv : kt < v.l.length := by have h := hktx; rw [EPV.out] at h; simpa [picOf, roG] using h
  obtain ⟨vb, evb, eb1, hvb, zvb⟩ := GOW.vars.form (by omega)
  have GP2 := (GP.mono (T' := fun b => T b ∨ w.heap.size ≤ b) fun b hb _ => .inr hb)
  have GS := GP2.setV evb hktv GC
  have GU := GP.vars.gu evb (k := kt) hktv
  obtain ⟨⟨u0, u1, u2, u3, u4, u5, u6⟩, uz⟩ := GU
  have TH := GP.vars.thaw evb
  have f0 := TH (kt * 7)
  have f1 := TH (kt * 7 + 1)
  have f2 := TH (kt * 7 + 2)
  have f3 := TH (kt * 7 + 3)
  have f4 := TH (kt * 7 + 4)
  have f5 := TH (kt * 7 + 5)
  have f6 := TH (kt * 7 + 6)
  have y1 := YY.1 1 _ rfl
  rw [evb] at y1
  have i1 := IY.1 1 _ rfl
  rw [HKT.out] at i1
  have t0 := TY.1 0 _ rfl
  have t1 := TY.1 1 _ rfl
  have t2 := TY.1 2 _ rfl
  have t3 := TY.1 3 _ rfl
  have t4 := TY.1 4 _ rfl
  have t5 := TY.1 5 _ rfl
  have t6 := TY.1 6 _ rfl
  have q0 : (0 : Int) ≤ (kt : Int) := by omega
  have q1 : (kt : Int) < (v.l.length : Int) := by omega
  have HEV := hideH evb
  have OS : Cells (set7 wy vb kt ⟨gg, ss, cp⟩) w4.heap.size [.int .i64 ((m : Int) + 1), .bool false, .slice v.rs v.l.length v.rc, .slice gs L.length gc] := OY.same (heap_set7 (by omega)) (by rw [size_set7]; exact Nat.le_refl _)
  have BS : Below w.heap.size w (set7 wy vb kt ⟨gg, ss, cp⟩) := below_set7 BY (by omega)
  have HF : Hid (StpAns (fun b => T b ∨ w.heap.size ≤ b) (set7 wy vb kt ⟨gg, ss, cp⟩) (.returned (.tuple #[.slice (some ⟨w4.heap.size, 0, none⟩) 1 1, .bool wr, .bool false])) (stepPic i (m : Int) x)) := by
   show StpAns _ _ _ _
   rw [HST.out, if_neg (by rw [hng.out]; decide)]
   refine ⟨some ⟨w4.heap.size, 0, none⟩, 1, rfl, ?_⟩
   refine eds_one (S := (fun b => T b ∨ w.heap.size ≤ b)) (v := ⟨v.rs, v.rc, v.l.set kt ⟨gg, ss, cp⟩⟩) (L := L) (by simp only [List.length_set]; exact OS) (.inr (by omega)) GS (fun b hb => hb) (fun b hb => .inr (by omega)) ?_
   rw [picOf_setV, ← EPV.out, HKT.out]
  clear GP GC GP2 GS TH TY IY YY OY OS BY HGY GOW YWY EPV evb
  obtain ⟨wv, ewv⟩ : ∃ q, q = set7 wy vb kt ⟨gg, ss, cp⟩ := ⟨_, rfl⟩
  have HF2 := hideH (And.intro HF.out BS)
  rw [← ewv] at HF2
  go_upto_region 87 with fail
  clear u0 u1 u2 u3 u4 u5 u6 uz f0 f1 f2 f3 f4 f5 f6 t0 t1 t2 t3 t4 t5 t6 y1 i1 HF BS
  simp only [set7] at ewv
  rw [← ewv]
  clear ewv
  go_wp2
  refine bodyPost_ret (v := .tuple #[.slice (some ⟨w4.heap.size, 0, none⟩) 1 1, .bool wr, .bool false]) (by simp [results, Tryz.results7, go_sem]) rfl HF2.out) : p := h
theorem stepT_dob {T : Nat → Prop} {V F : Int} {s : Option Addr} {c : List Ins} {cap m : Nat} {i : Ins} {x : Pic} {vs : Option Addr} {vc : Nat} {fs : Option Addr} {fc : Nat} {w : World} {w3 w4 w7 w11 wp : World} {v : Ro} {gs : Option Addr} {gc : Nat} {L : List Ro} (hx : PicOn T w x vs fs) (K : SCtx V F c x vc fc i (m : Int)) (hk : 4 ≤ i.k ∧ i.k ≤ 10) {ka : Nat} {sska : Option Addr} {gcka : Nat} (hkax : ka < x.vars.length) (eka : i.a = (ka : Int)) {kb : Nat} {sskb : Option Addr} {gckb : Nat} (hkbx : kb < x.vars.length) (ekb : i.b = (kb : Int)) (SP : Hid (SPre T V F s c cap (m : Int) i x vs vc fs fc w wp (w.heap.size + 1 + 1) w3.heap.size w4.heap.size w7.heap.size (w7.heap.size + 1) w11.heap.size w3 v gs gc L x.vars[ka] sska gcka x.vars[kb] sskb gckb)) : SwT (fun e w' => StpAns (fun b => T b ∨ w.heap.size ≤ b) w' e (stepPic i (m : Int) x) ∧ Below w.heap.size w w') m w w3 w4 w7 w11 wp := by
 have HKAV := hideH eka
 have HKBV := hideH ekb
 have HKK := hideH hk
 clear hk
 have HK := hideH K
 have HX := hideH hx
 have h60 := K.lens.2.1
 have n0 : (0 : Int) ≤ (m : Int) := K.a0
 have n1 : (m : Int) < (c.length : Int) := K.a1
 have hm : m < c.length := by omega
 have w61 : (m : Int) ≤ 60 := by omega
 clear K hx eka ekb
 refine sw_of rfl fun z0 z2 z4 u => ?_
 simp only [List.range, List.range.loop, List.map]
 obtain ⟨BP, PP, XP, IP, YP, OP, AP, EP, TP, GAI, GBI, GOW, YW, -, EPV0, -, o2, o3, o4, o5, o6⟩ := SP.out
 have EPV := hideH EPV0
 clear EPV0
 have i0 := IP.1 0 _ rfl
 have hk1 := HKK.out.1
 have hk2 := HKK.out.2
 have q19 : (i.k == 19) = false := by simp; omega
 have q18 : (i.k == 18) = false := by simp; omega
 have q16 : (i.k == 16) = false := by simp; omega
 have q15 : (i.k == 15) = false := by simp; omega
 have q17 : (i.k == 17) = false := by simp; omega
 have q13 : (i.k == 13) = false := by simp; omega
 have q12 : (i.k == 12) = false := by simp; omega
 have q11 : (i.k == 11) = false := by simp; omega
 have q1 : (i.k == 1) = false := by simp; omega
 have q14 : (i.k == 14) = false := by simp; omega
 have q2 : (i.k == 2) = false := by simp; omega
 have q3 : (i.k == 3) = false := by simp; omega
 clear hk1 hk2
 obtain ⟨kt, ekt, hktx⟩ := HK.out.varTo (by have h := HKK.out; unfold nTo btw; simp; omega)
 have HKT := hideH ekt
 clear ekt
 have ega : gAt x i.a = x.vars[ka] := by rw [HKAV.out, gAt_get hkax]
 have egb : gAt x i.b = x.vars[kb] := by rw [HKBV.out, gAt_get hkbx]
 obtain ⟨⟨gg, wr⟩, hgw⟩ : ∃ q, q = doGs i.k x.vars[ka] x.vars[kb] := ⟨_, rfl⟩
 have HGW := hideH hgw
 have HST : Hid (stepPic i (m : Int) x = if nothingGs gg then ([], wr, false) else ([⟨(m : Int) + 1, setVar x i.tgt gg⟩], wr, false)) := by
  have hr := HKK.out
  have e : comesGs i (m : Int) x = (gg, wr) := by
   unfold comesGs
   rw [if_neg (by omega), if_neg (by omega), if_neg (by omega), if_neg (by omega), if_neg (by omega), if_neg (by omega), ega, egb]
   exact hgw.symm
  show _ = _
  unfold stepPic
  rw [e, if_neg (by rw [HK.out.kx.none]; decide), if_neg (by omega), if_neg (by omega), if_neg (by omega), if_neg (by omega), if_neg (by omega), if_neg (by omega), if_neg (show ¬ i.k = 11 by omega)]
 have HDO : Hid (∀ wx, Below w.heap.size w wx → Calls Tryz.prog 27 #[.int .i64 i.k, .agg #[.bool x.vars[ka].n, .bool x.vars[ka].sp.n, .int .i64 x.vars[ka].sp.lo, .int .i64 x.vars[ka].sp.hi, .bool x.vars[ka].t, .bool x.vars[ka].f, .slice sska x.vars[ka].s.length gcka], .agg #[.bool x.vars[kb].n, .bool x.vars[kb].sp.n, .int .i64 x.vars[kb].sp.lo, .int .i64 x.vars[kb].sp.hi, .bool x.vars[kb].t, .bool x.vars[kb].f, .slice sskb x.vars[kb].s.length gckb]] wx fun e w' => ∃ ss cp, e = .returned (.tuple #[.agg #[.bool gg.n, .bool gg.sp.n, .int .i64 gg.sp.lo, .int .i64 gg.sp.hi, .bool gg.t, .bool gg.f, .slice ss gg.s.length cp], .bool wr]) ∧ (IntsIn (fun b => T b ∧ b < w.heap.size) w' ss gg.s ∧ gg.s.length ≤ cp ∧ cp ≤ maxLen) ∧ Below wx.heap.size wx w') := fun wx hb' => by
  have hr := HKK.out
  have hcka := HK.out.kx.gv _ (List.getElem_mem hkax)
  have hgb : IntsAt wx sskb (x.vars[kb] : Gs).s ∧ (x.vars[kb] : Gs).s.length ≤ 9223372036854775807 := ⟨(GBI.1.same (w' := wx) (fun b hb hlt => hb'.block b hlt) hb'.size).at, by have := GBI.2.1; have := GBI.2.2; unfold maxLen at *; omega⟩
  have hga : IntsIn (fun b => T b ∧ b < w.heap.size) wx sska x.vars[ka].s := (GAI.1.mono (S' := fun b => T b ∧ b < w.heap.size) fun b hb hlt => ⟨hb, hlt⟩).same (fun b hb hlt => hb'.block b hlt) hb'.size
  have h := doRU2 (V := V) (F := F) (c := c) x.vars[ka] sska gcka x.vars[kb] sskb gckb i.k wx hga.at (by have := GAI.2.1; have := GAI.2.2; unfold maxLen at *; omega) hgb.1 hgb.2 (HK.out.duo hcka (HK.out.kx.gv _ (List.getElem_mem hkbx))) (by omega)
  rw [← hgw] at h
  refine h.mono ?_
  rintro e w' ⟨ss, cp, h1, h2, h3⟩
  refine ⟨ss, cp, h1, ?_, h3⟩
  rcases h2 with ⟨e1, rfl, rfl⟩ | ⟨rfl, rfl, e1⟩
  ·exact ⟨.inl e1, by rw [e1]; exact Nat.zero_le _, Nat.zero_le _⟩
  ·have e2 : gg.s = x.vars[ka].s := e1
   rw [e2]
   exact ⟨hga.call h3, GAI.2⟩
 clear hgw ega egb
 exact prf_1487c8
theorem stepT_doa {T : Nat → Prop} {V F : Int} {s : Option Addr} {c : List Ins} {cap m : Nat} {i : Ins} {x : Pic} {vs : Option Addr} {vc : Nat} {fs : Option Addr} {fc : Nat} {w : World} {w3 w4 w7 w11 wp : World} {v : Ro} {gs : Option Addr} {gc : Nat} {L : List Ro} (hx : PicOn T w x vs fs) (K : SCtx V F c x vc fc i (m : Int)) (hk : 4 ≤ i.k ∧ i.k ≤ 10) (hnB : nB i.k = false) {ka : Nat} {sska : Option Addr} {gcka : Nat} (hkax : ka < x.vars.length) (eka : i.a = (ka : Int)) (SP : Hid (SPre T V F s c cap (m : Int) i x vs vc fs fc w wp (w.heap.size + 1 + 1) w3.heap.size w4.heap.size w7.heap.size (w7.heap.size + 1) w11.heap.size w3 v gs gc L x.vars[ka] sska gcka noneG none 0)) : SwT (fun e w' => StpAns (fun b => T b ∨ w.heap.size ≤ b) w' e (stepPic i (m : Int) x) ∧ Below w.heap.size w w') m w w3 w4 w7 w11 wp := by
 have HKAV := hideH eka
 have HKK := hideH hk
 have hnBO := hideH hnB
 clear hk hnB
 have HK := hideH K
 have HX := hideH hx
 have h60 := K.lens.2.1
 have n0 : (0 : Int) ≤ (m : Int) := K.a0
 have n1 : (m : Int) < (c.length : Int) := K.a1
 have hm : m < c.length := by omega
 have w61 : (m : Int) ≤ 60 := by omega
 clear K hx eka
 refine sw_of rfl fun z0 z2 z4 u => ?_
 simp only [List.range, List.range.loop, List.map]
 obtain ⟨BP, PP, XP, IP, YP, OP, AP, EP, TP, GAI, GBI, GOW, YW, -, EPV0, -, o2, o3, o4, o5, o6⟩ := SP.out
 have EPV := hideH EPV0
 clear EPV0
 have i0 := IP.1 0 _ rfl
 have hk1 := HKK.out.1
 have hk2 := HKK.out.2
 have q19 : (i.k == 19) = false := by simp; omega
 have q18 : (i.k == 18) = false := by simp; omega
 have q16 : (i.k == 16) = false := by simp; omega
 have q15 : (i.k == 15) = false := by simp; omega
 have q17 : (i.k == 17) = false := by simp; omega
 have q13 : (i.k == 13) = false := by simp; omega
 have q12 : (i.k == 12) = false := by simp; omega
 have q11 : (i.k == 11) = false := by simp; omega
 have q1 : (i.k == 1) = false := by simp; omega
 have q14 : (i.k == 14) = false := by simp; omega
 have q2 : (i.k == 2) = false := by simp; omega
 have q3 : (i.k == 3) = false := by simp; omega
 clear hk1 hk2
 obtain ⟨kt, ekt, hktx⟩ := HK.out.varTo (by have h := HKK.out; unfold nTo btw; simp; omega)
 have HKT := hideH ekt
 clear ekt
 have ega : gAt x i.a = x.vars[ka] := by rw [HKAV.out, gAt_get hkax]
 obtain ⟨⟨gg, wr⟩, hgw⟩ : ∃ q, q = doGs i.k x.vars[ka] noneG := ⟨_, rfl⟩
 have HGW := hideH hgw
 have EDO : Hid (∀ h, doGs i.k x.vars[ka] h = doGs i.k x.vars[ka] noneG) := fun h => by
  have hb := hnBO.out
  have hr := HKK.out
  have : i.k = 4 ∨ i.k = 10 := by unfold nB btw at hb; simp at hb; omega
  rcases this with e | e <;> rw [e] <;> simp [doGs]
 have HST : Hid (stepPic i (m : Int) x = if nothingGs gg then ([], wr, false) else ([⟨(m : Int) + 1, setVar x i.tgt gg⟩], wr, false)) := by
  have hr := HKK.out
  have e : comesGs i (m : Int) x = (gg, wr) := by
   unfold comesGs
   rw [if_neg (by omega), if_neg (by omega), if_neg (by omega), if_neg (by omega), if_neg (by omega), if_neg (by omega), ega, EDO.out]
   exact hgw.symm
  show _ = _
  unfold stepPic
  rw [e, if_neg (by rw [HK.out.kx.none]; decide), if_neg (by omega), if_neg (by omega), if_neg (by omega), if_neg (by omega), if_neg (by omega), if_neg (by omega), if_neg (show ¬ i.k = 11 by omega)]
 have HDO : Hid (∀ wx, Below w.heap.size w wx → Calls Tryz.prog 27 #[.int .i64 i.k, .agg #[.bool x.vars[ka].n, .bool x.vars[ka].sp.n, .int .i64 x.vars[ka].sp.lo, .int .i64 x.vars[ka].sp.hi, .bool x.vars[ka].t, .bool x.vars[ka].f, .slice sska x.vars[ka].s.length gcka], .agg #[.bool false, .bool true, .int .i64 0, .int .i64 0, .bool false, .bool false, .slice none 0 0]] wx fun e w' => ∃ ss cp, e = .returned (.tuple #[.agg #[.bool gg.n, .bool gg.sp.n, .int .i64 gg.sp.lo, .int .i64 gg.sp.hi, .bool gg.t, .bool gg.f, .slice ss gg.s.length cp], .bool wr]) ∧ (IntsIn (fun b => T b ∧ b < w.heap.size) w' ss gg.s ∧ gg.s.length ≤ cp ∧ cp ≤ maxLen) ∧ Below wx.heap.size wx w') := fun wx hb' => by
  have hr := HKK.out
  have hcka := HK.out.kx.gv _ (List.getElem_mem hkax)
  have hgb : IntsAt wx none (noneG : Gs).s ∧ (noneG : Gs).s.length ≤ 9223372036854775807 := ⟨.inl rfl, Nat.zero_le _⟩
  have hga : IntsIn (fun b => T b ∧ b < w.heap.size) wx sska x.vars[ka].s := (GAI.1.mono (S' := fun b => T b ∧ b < w.heap.size) fun b hb hlt => ⟨hb, hlt⟩).same (fun b hb hlt => hb'.block b hlt) hb'.size
  have h := doRU2 (V := V) (F := F) (c := c) x.vars[ka] sska gcka noneG none 0 i.k wx hga.at (by have := GAI.2.1; have := GAI.2.2; unfold maxLen at *; omega) hgb.1 hgb.2 (HK.out.duo hcka (rfl)) (by omega)
  rw [← hgw] at h
  refine h.mono ?_
  rintro e w' ⟨ss, cp, h1, h2, h3⟩
  refine ⟨ss, cp, h1, ?_, h3⟩
  rcases h2 with ⟨e1, rfl, rfl⟩ | ⟨rfl, rfl, e1⟩
  ·exact ⟨.inl e1, by rw [e1]; exact Nat.zero_le _, Nat.zero_le _⟩
  ·have e2 : gg.s = x.vars[ka].s := e1
   rw [e2]
   exact ⟨hga.call h3, GAI.2⟩
 clear hgw ega EDO
 exact prf_1487c8
end
section
set_option maxHeartbeats 2000000
set_option maxRecDepth 20000
open Go.RowKit
attribute [local go_sem ↓] Go.wp_at_zero Go.wp_at_succ

theorem stepP_none {S : Nat → Prop} (V F : Int) (s : Option Addr) (c : List Ins) (cap : Nat) (at_ : Int) (i : Ins) (x : Pic) (vs : Option Addr) (vc : Nat) (fs : Option Addr) (fc : Nat) (w : World) (hn : x.none = true) :
  Calls Tryz.prog 7 #[pv V F s c cap, .int .i64 at_, xv x vs vc fs fc] w fun e w' => StpAns S w' e (stepPic i at_ x) ∧ Below w.heap.size w w' := by
 have e : stepPic i at_ x = ([], false, false) := by unfold stepPic; rw [if_pos hn]
 have exv : xv x vs vc fs fc = .agg #[.bool true, .slice vs x.vars.length vc, .slice fs x.flds.length fc] := by unfold xv; rw [hn]
 rw [e, exv]
 clear e exv hn
 go_enter Tryz.func7, Tryz.ntmps7
 go_wp2
 refine bodyPost_ret (v := .tuple #[.slice none 0 0, .bool false, .bool false]) (by simp [results, Tryz.results7, go_sem]) rfl ⟨⟨none, 0, rfl, EdsOn.nil⟩, by go_grown⟩
theorem stepP_m {T : Nat → Prop} {V F : Int} {s : Option Addr} {c : List Ins} {cap m : Nat} {i : Ins} {x : Pic} {vs : Option Addr} {vc : Nat} {fs : Option Addr} {fc : Nat} {w : World} (hc : CodeAt w s c) (hx : PicOn T w x vs fs) (K : SCtx V F c x vc fc i (m : Int)) :
  Calls Tryz.prog 7 #[pv V F s c cap, .int .i64 (m : Int), xv x vs vc fs fc] w fun e w' => StpAns (fun b => T b ∨ w.heap.size ≤ b) w' e (stepPic i (m : Int) x) ∧ Below w.heap.size w w' := by
 have hk := (ckOne_parts K.one).1
 unfold btw at hk
 simp only [Bool.and_eq_true, decide_eq_true_eq] at hk
 by_cases h1 : i.k = 1
 ·exact stepPre_ff hc hx K (by rw [h1]; rfl) (by rw [h1]; rfl) (fun _ _ _ _ _ _ _ _ _ SP => stepT_1 hx K h1 SP)
 by_cases h2 : i.k = 2
 ·exact stepPre_ff hc hx K (by rw [h2]; rfl) (by rw [h2]; rfl) (fun _ _ _ _ _ _ _ _ _ SP => stepT_2 hx K h2 SP)
 by_cases h3 : i.k = 3
 ·exact stepPre_ff hc hx K (by rw [h3]; rfl) (by rw [h3]; rfl) (fun _ _ _ _ _ _ _ _ _ SP => stepT_3 hx K h3 SP)
 by_cases h11 : i.k = 11
 ·exact stepPre_ff hc hx K (by rw [h11]; rfl) (by rw [h11]; rfl) (fun _ _ _ _ _ _ _ _ _ SP => stepT_11 hx K h11 SP)
 by_cases h12 : i.k = 12
 ·exact stepPre_tf hc hx K (by rw [h12]; rfl) (by rw [h12]; rfl) (fun _ _ _ _ _ _ _ _ _ _ _ _ ha ea SP => stepT_12 hx K h12 ha ea SP)
 by_cases h13 : i.k = 13
 ·exact stepPre_tt hc hx K (by rw [h13]; rfl) (by rw [h13]; rfl) (fun _ _ _ _ _ _ _ _ _ _ _ _ ha ea _ _ _ hb eb SP => stepT_13 hx K h13 ha ea hb eb SP)
 by_cases h14 : i.k = 14
 ·exact stepPre_ff hc hx K (by rw [h14]; rfl) (by rw [h14]; rfl) (fun _ _ _ _ _ _ _ _ _ SP => stepT_14 hx K h14 SP)
 by_cases h15 : i.k = 15
 ·exact stepPre_tf hc hx K (by rw [h15]; rfl) (by rw [h15]; rfl) (fun _ _ _ _ _ _ _ _ _ _ _ _ ha ea SP => stepT_15 hx K h15 ha ea SP)
 by_cases h16 : i.k = 16
 ·exact stepPre_ff hc hx K (by rw [h16]; rfl) (by rw [h16]; rfl) (fun _ _ _ _ _ _ _ _ _ SP => stepT_16 hx K h16 SP)
 by_cases h17 : i.k = 17
 ·exact stepPre_tf hc hx K (by rw [h17]; rfl) (by rw [h17]; rfl) (fun _ _ _ _ _ _ _ _ _ _ _ _ ha ea SP => stepT_17 hx K h17 ha ea SP)
 by_cases h18 : i.k = 18
 ·exact stepPre_tf hc hx K (by rw [h18]; rfl) (by rw [h18]; rfl) (fun _ _ _ _ _ _ _ _ _ _ _ _ ha ea SP => stepT_18 hx K h18 ha ea SP)
 by_cases h19 : i.k = 19
 ·exact stepPre_ff hc hx K (by rw [h19]; rfl) (by rw [h19]; rfl) (fun _ _ _ _ _ _ _ _ _ SP => stepT_19 hx K h19 SP)
 have hr : 4 ≤ i.k ∧ i.k ≤ 10 := by omega
 have hA : nA i.k = true := by unfold nA btw; simp; omega
 rcases Bool.eq_false_or_eq_true (nB i.k) with hB | hB
 ·exact stepPre_tt hc hx K hA hB (fun _ _ _ _ _ _ _ _ _ _ _ _ ha ea _ _ _ hb eb SP => stepT_dob hx K hr ha ea hb eb SP)
 ·exact stepPre_tf hc hx K hA hB (fun _ _ _ _ _ _ _ _ _ _ _ _ ha ea SP => stepT_doa hx K hr hB ha ea SP)
/-- The document's step, whatever it is handed that is right. -/
theorem stepP_any (T : Nat → Prop) (V F : Int) (s : Option Addr) (c : List Ins) (cap : Nat) (at_ : Int) (x : Pic) (vs : Option Addr) (vc : Nat) (fs : Option Addr) (fc : Nat) (w : World) (hc : CodeAt w s c) (hx : PicOn T w x vs fs) (h0 : ckProg V F c = 0) (hck : ckPic V F c x = 0) (a0 : 0 ≤ at_) (a1 : at_ < c.length) (h1 : x.vars.length ≤ vc ∧ vc ≤ maxLen) (h2 : x.flds.length ≤ fc ∧ fc ≤ maxLen) :
  Calls Tryz.prog 7 #[pv V F s c cap, .int .i64 at_, xv x vs vc fs fc] w fun e w' => StpAns (fun b => T b ∨ w.heap.size ≤ b) w' e (stepPic (insAt c at_) at_ x) ∧ Below w.heap.size w w' := by
 rcases Bool.eq_false_or_eq_true x.none with hn | hn
 ·exact stepP_none V F s c cap at_ (insAt c at_) x vs vc fs fc w hn
 ·obtain ⟨m, rfl⟩ := Int.eq_ofNat_of_zero_le a0
  exact stepP_m hc hx ⟨h0, picOk_of hck hn, rfl, a0, a1, h1, h2⟩
end
end Go.Proofs.YtmapdpcfanecdabGreat
