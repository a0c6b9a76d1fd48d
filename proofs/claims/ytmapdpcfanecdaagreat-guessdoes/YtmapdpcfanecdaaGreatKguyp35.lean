/- Walks over package guess: what some of many guesses may be. -/
import Derived.Test.YtmapdpcfanecdaaGreatKguyp20
import Derived.Test.YtmapdpcfanecdaaGreatKguyp21
import Derived.Test.YtmapdpcfanecdaaGreatKguyp22
import Derived.Test.YtmapdpcfanecdaaGreatKguyp32
import Derived.Test.YtmapdpcfanecdaaGreatKguyp30
import Derived.Test.YtmapdpcfanecdaaGreatKguyp33
import Derived.Test.YtmapdpcfanecdaaGreatKguyp34
namespace Go.Proofs.YtmapdpcfanecdaaGreat
set_option linter.unusedVariables false
set_option linter.unusedSimpArgs false
open Go.RowKit

/-- Two guesses put together. -/
def togGs (op : Sp → Sp → Sp) (g h : Gs) : Gs := ⟨g.n || h.n, op g.sp h.sp, g.t || h.t, g.f || h.f, sitesOf [g, h]⟩

theorem ckAllG_two {V F : Int} {c : List Ins} {g h : Gs} (hk : ckAllG V F c [g, h] = 0) : ckProg V F c = 0 ∧ ckGs c g = 0 ∧ ckGs c h = 0 := by
  unfold ckAllG at hk
  split at hk
  · rename_i hp
    simp only [ckGss] at hk
    split at hk
    · rename_i hg
      split at hk
      · rename_i hh
        exact ⟨hp, hg, hh⟩
      · contradiction
    · contradiction
  · contradiction

theorem ckAllG_first {V F : Int} {c : List Ins} {g h : Gs} (hk : ckAllG V F c [g, h] = 0) : ckAllG V F c [g] = 0 := by
  obtain ⟨a, b, -⟩ := ckAllG_two hk
  unfold ckAllG
  rw [if_pos a]
  simp only [ckGss]
  rw [if_pos b]

theorem ckAllG_sites {V F : Int} {c : List Ins} {g h : Gs} (hk : ckAllG V F c [g, h] = 0) : ((∀ x ∈ g.s, 0 ≤ x ∧ x < 60) ∧ rising g.s = true) ∧ ((∀ x ∈ h.s, 0 ≤ x ∧ x < 60) ∧ rising h.s = true) := by
  obtain ⟨a, b, d⟩ := ckAllG_two hk
  have hl : c.length ≤ 60 := by
    unfold ckProg at a
    split at a
    · contradiction
    · split at a
      · contradiction
      · omega
  exact ⟨ckGs_sites hl b, ckGs_sites hl d⟩

theorem ckAllG_len {V F : Int} {c : List Ins} {g h : Gs} (hk : ckAllG V F c [g, h] = 0) : ([g, h].flatMap Gs.s).length ≤ 1000000 := by
  obtain ⟨hg, hh⟩ := ckAllG_sites hk
  have l1 := rising_len hg.2 hg.1
  have l2 := rising_len hh.2 hh.1
  simp
  omega

theorem joinU (V F : Int) (s : Option Addr) (c : List Ins) (cap : Nat) (g : Gs) (ss : Option Addr) (gc : Nat) (h : Gs) (st : Option Addr) (hc : Nat) (w : World) (hcd : CodeAt w s c) (hs : IntsAt w ss g.s) (h1 : g.s.length ≤ gc) (h2 : gc ≤ maxLen) (ht : IntsAt w st h.s) (h3 : h.s.length ≤ hc) (h4 : hc ≤ maxLen) :
    Calls Tryz.prog 7 #[pv V F s c cap, gv g ss gc, gv h st hc] w fun e w' => ∃ J js jc, e = .returned (.tuple #[gv J js jc, .int .i64 (ckAllG V F c [g, h])]) ∧ J = (if ckAllG V F c [g, h] = 0 then togGs joinSp g h else zeroG) ∧ IntsAt w' js J.s ∧ J.s.length ≤ jc ∧ jc ≤ maxLen ∧ (ckAllG V F c [g, h] ≠ 0 → js = none ∧ jc = 0) ∧ Below w.heap.size w w' := by
  by_cases hck : ckAllG V F c [g, h] = 0
  · refine (joinG_ok V F s c cap g ss gc h st hc w hcd hs h1 h2 ht h3 h4 hck (ckAllG_len hck)).mono ?_
    rintro e w' ⟨v, rfl, hown, hb⟩
    obtain ⟨js, jc, rfl, hi, hl, hm, -⟩ := IntsAt.own hown
    refine ⟨togGs joinSp g h, js, jc, ?_, by rw [if_pos hck], hi, hl, hm, fun hn => absurd hck hn, hb⟩
    rw [hck]; rfl
  · refine (joinG_err V F s c cap g ss gc h st hc w hcd hs h1 h2 ht h3 h4 hck).mono ?_
    rintro e w' ⟨rfl, hb⟩
    exact ⟨zeroG, none, 0, rfl, by rw [if_neg hck], .inl rfl, Nat.le_refl _, Nat.zero_le _, fun _ => ⟨rfl, rfl⟩, hb⟩

theorem wideU (V F : Int) (s : Option Addr) (c : List Ins) (cap : Nat) (g : Gs) (ss : Option Addr) (gc : Nat) (h : Gs) (st : Option Addr) (hc : Nat) (w : World) (hcd : CodeAt w s c) (hs : IntsAt w ss g.s) (h1 : g.s.length ≤ gc) (h2 : gc ≤ maxLen) (ht : IntsAt w st h.s) (h3 : h.s.length ≤ hc) (h4 : hc ≤ maxLen) :
    Calls Tryz.prog 8 #[pv V F s c cap, gv g ss gc, gv h st hc] w fun e w' => ∃ J js jc, e = .returned (.tuple #[gv J js jc, .int .i64 (ckAllG V F c [g, h])]) ∧ J = (if ckAllG V F c [g, h] = 0 then togGs wideSp g h else zeroG) ∧ IntsAt w' js J.s ∧ J.s.length ≤ jc ∧ jc ≤ maxLen ∧ (ckAllG V F c [g, h] ≠ 0 → js = none ∧ jc = 0) ∧ Below w.heap.size w w' := by
  by_cases hck : ckAllG V F c [g, h] = 0
  · refine (wideG_ok V F s c cap g ss gc h st hc w hcd hs h1 h2 ht h3 h4 hck (ckAllG_len hck)).mono ?_
    rintro e w' ⟨v, rfl, hown, hb⟩
    obtain ⟨js, jc, rfl, hi, hl, hm, -⟩ := IntsAt.own hown
    refine ⟨togGs wideSp g h, js, jc, ?_, by rw [if_pos hck], hi, hl, hm, fun hn => absurd hck hn, hb⟩
    rw [hck]; rfl
  · refine (wideG_err V F s c cap g ss gc h st hc w hcd hs h1 h2 ht h3 h4 hck).mono ?_
    rintro e w' ⟨rfl, hb⟩
    exact ⟨zeroG, none, 0, rfl, by rw [if_neg hck], .inl rfl, Nat.le_refl _, Nat.zero_le _, fun _ => ⟨rfl, rfl⟩, hb⟩

theorem withinU (V F : Int) (s : Option Addr) (c : List Ins) (cap : Nat) (g : Gs) (ss : Option Addr) (gc : Nat) (h : Gs) (st : Option Addr) (hc : Nat) (w : World) (hcd : CodeAt w s c) (hs : IntsAt w ss g.s) (h1 : g.s.length ≤ gc) (h2 : gc ≤ maxLen) (ht : IntsAt w st h.s) (h3 : h.s.length ≤ hc) (h4 : hc ≤ maxLen) :
    Calls Tryz.prog 9 #[pv V F s c cap, gv g ss gc, gv h st hc] w fun e w' => e = .returned (.tuple #[.bool (if ckAllG V F c [g, h] = 0 then inGs g h else false), .int .i64 (ckAllG V F c [g, h])]) ∧ Below w.heap.size w w' := by
  by_cases hck : ckAllG V F c [g, h] = 0
  · refine (withinG_ok V F s c cap g ss gc h st hc w hcd hs h1 h2 ht h3 h4 hck).mono ?_
    rintro e w' ⟨rfl, hb⟩
    exact ⟨by rw [if_pos hck, hck], hb⟩
  · refine (withinG_err V F s c cap g ss gc h st hc w hcd hs h1 h2 ht h3 h4 hck).mono ?_
    rintro e w' ⟨rfl, hb⟩
    exact ⟨by rw [if_neg hck], hb⟩

theorem truthU (V F : Int) (s : Option Addr) (c : List Ins) (cap : Nat) (g : Gs) (ss : Option Addr) (gc : Nat) (w : World) (hcd : CodeAt w s c) (hs : IntsAt w ss g.s) (h1 : g.s.length ≤ gc) (h2 : gc ≤ maxLen) :
    Calls Tryz.prog 11 #[pv V F s c cap, gv g ss gc] w fun e w' => e = .returned (.tuple #[.bool (if ckAllG V F c [g] = 0 then yesGs g else false), .bool (if ckAllG V F c [g] = 0 then noGs g else false), .int .i64 (ckAllG V F c [g])]) ∧ Below w.heap.size w w' := by
  by_cases hck : ckAllG V F c [g] = 0
  · refine (truthF_ok V F s c cap g ss gc w hcd hs h1 h2 hck).mono ?_
    rintro e w' ⟨rfl, hb⟩
    exact ⟨by rw [if_pos hck, if_pos hck, hck], hb⟩
  · refine (truthF_err V F s c cap g ss gc w hcd hs h1 h2 hck).mono ?_
    rintro e w' ⟨rfl, hb⟩
    exact ⟨by rw [if_neg hck, if_neg hck], hb⟩

/-- The errno of Holds. -/
def kindE (u vk : Int) : Int := if u = 0 then (if vk < 0 ∨ 3 < vk then 6 else 0) else u

theorem holdsU (V F : Int) (s : Option Addr) (c : List Ins) (cap : Nat) (g : Gs) (ss : Option Addr) (gc : Nat) (vk vn site : Int) (w : World) (hcd : CodeAt w s c) (hs : IntsAt w ss g.s) (h1 : g.s.length ≤ gc) (h2 : gc ≤ maxLen) :
    Calls Tryz.prog 10 #[pv V F s c cap, gv g ss gc, .agg #[.int .i64 vk, .int .i64 vn], .int .i64 site] w fun e w' => e = .returned (.tuple #[.bool (if kindE (ckAllG V F c [g]) vk = 0 then heldGs g vk vn site else false), .int .i64 (kindE (ckAllG V F c [g]) vk)]) ∧ Below w.heap.size w w' := by
  by_cases hck : ckAllG V F c [g] = 0
  · by_cases k0 : vk = 0
    · subst k0
      refine (holdsG_null V F s c cap g ss gc vn site w hcd hs h1 h2 hck).mono ?_
      rintro e w' ⟨rfl, hb⟩
      exact ⟨by simp [kindE, hck, heldGs], hb⟩
    by_cases k1 : vk = 1
    · subst k1
      refine (holdsG_num V F s c cap g ss gc vn site w hcd hs h1 h2 hck).mono ?_
      rintro e w' ⟨rfl, hb⟩
      exact ⟨by simp [kindE, hck, heldGs], hb⟩
    by_cases k2 : vk = 2
    · subst k2
      refine (holdsG_truth V F s c cap g ss gc vn site w hcd hs h1 h2 hck).mono ?_
      rintro e w' ⟨rfl, hb⟩
      exact ⟨by simp [kindE, hck, heldGs], hb⟩
    by_cases k3 : vk = 3
    · subst k3
      refine (holdsG_thing V F s c cap g ss gc vn site w hcd hs h1 h2 hck).mono ?_
      rintro e w' ⟨rfl, hb⟩
      exact ⟨by simp [kindE, hck, heldGs], hb⟩
    refine (holdsG_kind V F s c cap g ss gc vk vn site w hcd hs h1 h2 hck (by simpa using k0) (by simpa using k1) (by simpa using k2) (by simpa using k3)).mono ?_
    rintro e w' ⟨rfl, hb⟩
    have hr : vk < 0 ∨ 3 < vk := by omega
    have hk : kindE (ckAllG V F c [g]) vk = 6 := by unfold kindE; rw [if_pos hck, if_pos hr]
    exact ⟨by rw [hk]; rfl, hb⟩
  · refine (holdsG_err V F s c cap g ss gc vk vn site w hcd hs h1 h2 hck).mono ?_
    rintro e w' ⟨rfl, hb⟩
    have hk : kindE (ckAllG V F c [g]) vk = ckAllG V F c [g] := by unfold kindE; rw [if_neg hck]
    exact ⟨by rw [hk, if_neg hck], hb⟩

/-- .. and the document's answer, where the kind is right. -/
theorem heldU (g : Gs) (ss : Option Addr) (gc : Nat) (vk vn site : Int) (w : World) (hs : IntsAt w ss g.s) (hgl : g.s.length ≤ maxLen) (hk : ¬ (vk < 0 ∨ 3 < vk)) :
    Calls Tryz.prog 15 #[gv g ss gc, .agg #[.int .i64 vk, .int .i64 vn], .int .i64 site] w fun e w' => e = .returned (.bool (heldGs g vk vn site)) ∧ Below w.heap.size w w' := by
  have hl : g.s.length ≤ 9223372036854775807 := by have : maxLen ≤ 9223372036854775807 := by decide
                                                   omega
  by_cases k0 : vk = 0
  · subst k0; exact heldOf_null g ss gc vn site w hs hl
  by_cases k1 : vk = 1
  · subst k1; exact heldOf_num g ss gc vn site w hs hl
  by_cases k2 : vk = 2
  · subst k2; exact heldOf_truth g ss gc vn site w hs hl
  have k3 : vk = 3 := by omega
  subst k3; exact heldOf_thing g ss gc vn site w hs hl

theorem joinR {V F : Int} {c : List Ins} (g : Gs) (ss : Option Addr) (gc : Nat) (h : Gs) (st : Option Addr) (hc : Nat) (w : World) (hs : IntsAt w ss g.s) (ht : IntsAt w st h.s) (hck : ckAllG V F c [g, h] = 0) :
    Calls Tryz.prog 13 #[gv g ss gc, gv h st hc, .bool false] w fun e w' => ∃ js jc, e = .returned (gv (togGs joinSp g h) js jc) ∧ IntsAt w' js (togGs joinSp g h).s ∧ (∀ a, js = some a → w.heap.size ≤ a.block) ∧ Below w.heap.size w w' := by
  obtain ⟨hg, hh⟩ := ckAllG_sites hck
  have l1 := rising_len hg.2 hg.1
  have l2 := rising_len hh.2 hh.1
  refine (joinGuess_join g ss gc h st hc w hs (by omega) ht (by omega)).mono ?_
  rintro e w' ⟨v, rfl, hown, hb⟩
  obtain ⟨js, jc, rfl, hi, -, -, hf⟩ := IntsAt.own hown
  rw [← sitesOf_eq g h hg.1 hh.1] at hi ⊢
  exact ⟨js, jc, rfl, hi, hf, hb⟩

theorem wideR {V F : Int} {c : List Ins} (g : Gs) (ss : Option Addr) (gc : Nat) (h : Gs) (st : Option Addr) (hc : Nat) (w : World) (hs : IntsAt w ss g.s) (ht : IntsAt w st h.s) (hck : ckAllG V F c [g, h] = 0) :
    Calls Tryz.prog 13 #[gv g ss gc, gv h st hc, .bool true] w fun e w' => ∃ js jc, e = .returned (gv (togGs wideSp g h) js jc) ∧ IntsAt w' js (togGs wideSp g h).s ∧ (∀ a, js = some a → w.heap.size ≤ a.block) ∧ Below w.heap.size w w' := by
  obtain ⟨hg, hh⟩ := ckAllG_sites hck
  have l1 := rising_len hg.2 hg.1
  have l2 := rising_len hh.2 hh.1
  refine (joinGuess_wide g ss gc h st hc w hs (by omega) ht (by omega)).mono ?_
  rintro e w' ⟨v, rfl, hown, hb⟩
  obtain ⟨js, jc, rfl, hi, -, -, hf⟩ := IntsAt.own hown
  rw [← sitesOf_eq g h hg.1 hh.1] at hi ⊢
  exact ⟨js, jc, rfl, hi, hf, hb⟩

end Go.Proofs.YtmapdpcfanecdaaGreat

namespace Go.Proofs.YtmapdpcfanecdaaGreat
set_option linter.unusedVariables false
set_option linter.unusedSimpArgs false
open Go.RowKit

theorem any_drop_stepG (l : List Gs) (p : Gs → Bool) (k : Nat) (h : k < l.length) : (l.drop k).any p = (p l[k] || (l.drop (k + 1)).any p) := by
  rw [List.drop_eq_getElem_cons h]; rfl

set_option maxHeartbeats 1000000 in
theorem anyOther1_any (g : Gs) (ss : Option Addr) (gc : Nat) (w : World) :
    Calls Tryz.prog 129 #[gv g ss gc] w fun e w' => e = .returned (.bool (otherGs g)) ∧ Below w.heap.size w w' := by
  have HO : Hid (otherGs g = (g.n || (g.t || (g.f || decide (0 < g.s.length))))) := rfl
  generalize otherGs g = o at *
  obtain ⟨n, ⟨sn, lo, hi⟩, t, f, s⟩ := g
  cases n
  all_goals cases t
  all_goals cases f
  all_goals
    go_enter Tryz.func129, Tryz.ntmps129
    go_wp2
    go_ret
    exact ⟨ret_bool (by rw [HO.out]; simp), by go_grown⟩

set_option maxHeartbeats 1000000 in
set_option maxRecDepth 10000 in
theorem indexFuncG_other (p : Gs → Bool) (ls : Option Addr) (L : List Gs) (lc : Nat) (w : World) (hl : L.length ≤ 9223372036854775807) (hL : GhAt w ls L)
    (hF : ∀ g ss gc wx, Calls Tryz.prog 129 #[gv g ss gc] wx fun e w' => e = .returned (.bool (p g)) ∧ Below wx.heap.size wx w') :
    Calls Tryz.prog 148 #[.slice ls L.length lc, .func (.func 129) #[] #[]] w fun e w' => ∃ n : Int, e = .returned (.int .i64 n) ∧ decide (0 ≤ n) = L.any p ∧ Below w.heap.size w w' := by
  have HF := hideH hF
  clear hF
  go_enter Tryz.func148, Tryz.ntmps148
  go_wp2
  go_loopw [8] (fun i wr => ∃ k : Nat, k ≤ L.length ∧ i = .int .i64 k ∧ GhAt wr ls L ∧ Below w.heap.size w wr ∧ Hid (L.any p = (L.drop k).any p)) (fun i _ => L.length - (intOf i).toNat)
  case atStart => exact ⟨0, Nat.zero_le _, rfl, hL, Below.refl _ _, rfl⟩
  case round =>
    obtain ⟨k, hk, rfl, hR, hbr, HA⟩ := hrel
    by_cases hlt : k < L.length
    · obtain ⟨b, off, rfl, ss, gc, hG⟩ := hR k hlt
      obtain ⟨⟨g0, g1, g2, g3, g4, g5, g6⟩, gz⟩ := id hG
      have n0 : (0 : Int) ≤ (k : Int) := by omega
      have n1 : (k : Int) < (L.length : Int) := by omega
      have s0 := hbr.size
      have HN : Hid ((L.drop k).any p = (p L[k] || (L.drop (k + 1)).any p)) := any_drop_stepG L p k hlt
      go_wp2_with (go_at_call 129; fail)
      refine (HF.out L[k] ss gc _).mono ?_
      rintro e w1 ⟨rfl, hb1⟩
      cases hp : p L[k] with
      | true =>
        have HT : Hid (L.any p = true) := by show _ = _; rw [HA.out, HN.out, hp]; rfl
        clear HN HA
        go_wp2
        go_ret
        exact ⟨_, rfl, by rw [HT.out]; simp, hbr.trans (hb1.mono s0)⟩
      | false =>
        have HT : Hid (L.any p = (L.drop (k + 1)).any p) := by show _ = _; rw [HA.out, HN.out, hp]; rfl
        have hR' := hR.call hb1
        clear HN HA
        go_wp2
        go_roundw
        case rel => exact ⟨k + 1, by omega, by go_num, hR', hbr.trans (hb1.mono s0), HT⟩
        case measure => simp [intOf]; omega
    · go_wp2
      go_ret
      exact ⟨_, rfl, by rw [HA.out, List.drop_eq_nil_of_le (by omega)]; rfl, hbr⟩

set_option maxHeartbeats 1000000 in
theorem containsFuncG_other (p : Gs → Bool) (ls : Option Addr) (L : List Gs) (lc : Nat) (w : World) (hl : L.length ≤ 9223372036854775807) (hL : GhAt w ls L)
    (hF : ∀ g ss gc wx, Calls Tryz.prog 129 #[gv g ss gc] wx fun e w' => e = .returned (.bool (p g)) ∧ Below wx.heap.size wx w') :
    Calls Tryz.prog 128 #[.slice ls L.length lc, .func (.func 129) #[] #[]] w fun e w' => e = .returned (.bool (L.any p)) ∧ Below w.heap.size w w' := by
  have HF := hideH hF
  clear hF
  go_enter Tryz.func128, Tryz.ntmps128
  go_wp2_with (go_at_call 148; fail)
  refine (indexFuncG_other p ls L lc _ hl hL HF.out).mono ?_
  rintro e w1 ⟨n, rfl, hn, hb1⟩
  go_wp2
  go_ret
  exact ⟨rfl, hb1⟩

set_option maxHeartbeats 1000000 in
theorem anyOther_any (ls : Option Addr) (L : List Gs) (lc : Nat) (w : World) (hl : L.length ≤ 9223372036854775807) (hL : GhAt w ls L) :
    Calls Tryz.prog 101 #[.slice ls L.length lc] w fun e w' => e = .returned (.bool (L.any otherGs)) ∧ Below w.heap.size w w' := by
  go_enter Tryz.func101, Tryz.ntmps101
  go_wp2_with (go_at_call 128; fail)
  refine (containsFuncG_other otherGs ls L lc _ hl hL fun g ss gc wx => anyOther1_any g ss gc wx).mono ?_
  rintro e w1 ⟨rfl, hb1⟩
  go_wp2
  go_ret
  exact ⟨rfl, hb1⟩

set_option maxHeartbeats 1000000 in
theorem anyNothing1_any (g : Gs) (ss : Option Addr) (gc : Nat) (w : World) :
    Calls Tryz.prog 130 #[gv g ss gc] w fun e w' => e = .returned (.bool (nothingGs g)) ∧ Below w.heap.size w w' := by
  have HO : Hid (nothingGs g = (g.sp.n && !otherGs g)) := rfl
  have hA := anyOther_any (some ⟨w.heap.size + 1, 0, none⟩) [g] 1
  have G0 := GhAt.new1 (w.alloc (.cells #[.bool g.n, .bool g.sp.n, .int .i64 g.sp.lo, .int .i64 g.sp.hi, .bool g.t, .bool g.f, .slice ss g.s.length gc] 29)) g ss gc
  rw [World.size_alloc] at G0
  rw [show [g].any otherGs = otherGs g by simp] at hA
  have HA := hideH hA
  clear hA
  generalize otherGs g = oo at *
  generalize nothingGs g = o at *
  obtain ⟨n, ⟨sn, lo, hi⟩, t, f, s⟩ := g
  cases sn with
  | true =>
    go_enter Tryz.func130, Tryz.ntmps130
    go_wp2_with (go_at_call 101; fail)
    refine (HA.out _ (by simp) G0).mono ?_
    rintro e w1 ⟨rfl, hb1⟩
    go_wp2
    go_ret
    exact ⟨ret_bool (by rw [HO.out]; simp), Below.trans (by go_grown) (hb1.mono (by simp; omega))⟩
  | false =>
    go_enter Tryz.func130, Tryz.ntmps130
    go_wp2
    go_ret
    exact ⟨ret_bool (by rw [HO.out]; rfl), by go_grown⟩

set_option maxHeartbeats 1000000 in
set_option maxRecDepth 10000 in
theorem indexFuncG_nothing (p : Gs → Bool) (ls : Option Addr) (L : List Gs) (lc : Nat) (w : World) (hl : L.length ≤ 9223372036854775807) (hL : GhAt w ls L)
    (hF : ∀ g ss gc wx, Calls Tryz.prog 130 #[gv g ss gc] wx fun e w' => e = .returned (.bool (p g)) ∧ Below wx.heap.size wx w') :
    Calls Tryz.prog 148 #[.slice ls L.length lc, .func (.func 130) #[] #[]] w fun e w' => ∃ n : Int, e = .returned (.int .i64 n) ∧ decide (0 ≤ n) = L.any p ∧ Below w.heap.size w w' := by
  have HF := hideH hF
  clear hF
  go_enter Tryz.func148, Tryz.ntmps148
  go_wp2
  go_loopw [8] (fun i wr => ∃ k : Nat, k ≤ L.length ∧ i = .int .i64 k ∧ GhAt wr ls L ∧ Below w.heap.size w wr ∧ Hid (L.any p = (L.drop k).any p)) (fun i _ => L.length - (intOf i).toNat)
  case atStart => exact ⟨0, Nat.zero_le _, rfl, hL, Below.refl _ _, rfl⟩
  case round =>
    obtain ⟨k, hk, rfl, hR, hbr, HA⟩ := hrel
    by_cases hlt : k < L.length
    · obtain ⟨b, off, rfl, ss, gc, hG⟩ := hR k hlt
      obtain ⟨⟨g0, g1, g2, g3, g4, g5, g6⟩, gz⟩ := id hG
      have n0 : (0 : Int) ≤ (k : Int) := by omega
      have n1 : (k : Int) < (L.length : Int) := by omega
      have s0 := hbr.size
      have HN : Hid ((L.drop k).any p = (p L[k] || (L.drop (k + 1)).any p)) := any_drop_stepG L p k hlt
      go_wp2_with (go_at_call 130; fail)
      refine (HF.out L[k] ss gc _).mono ?_
      rintro e w1 ⟨rfl, hb1⟩
      cases hp : p L[k] with
      | true =>
        have HT : Hid (L.any p = true) := by show _ = _; rw [HA.out, HN.out, hp]; rfl
        clear HN HA
        go_wp2
        go_ret
        exact ⟨_, rfl, by rw [HT.out]; simp, hbr.trans (hb1.mono s0)⟩
      | false =>
        have HT : Hid (L.any p = (L.drop (k + 1)).any p) := by show _ = _; rw [HA.out, HN.out, hp]; rfl
        have hR' := hR.call hb1
        clear HN HA
        go_wp2
        go_roundw
        case rel => exact ⟨k + 1, by omega, by go_num, hR', hbr.trans (hb1.mono s0), HT⟩
        case measure => simp [intOf]; omega
    · go_wp2
      go_ret
      exact ⟨_, rfl, by rw [HA.out, List.drop_eq_nil_of_le (by omega)]; rfl, hbr⟩

set_option maxHeartbeats 1000000 in
theorem containsFuncG_nothing (p : Gs → Bool) (ls : Option Addr) (L : List Gs) (lc : Nat) (w : World) (hl : L.length ≤ 9223372036854775807) (hL : GhAt w ls L)
    (hF : ∀ g ss gc wx, Calls Tryz.prog 130 #[gv g ss gc] wx fun e w' => e = .returned (.bool (p g)) ∧ Below wx.heap.size wx w') :
    Calls Tryz.prog 128 #[.slice ls L.length lc, .func (.func 130) #[] #[]] w fun e w' => e = .returned (.bool (L.any p)) ∧ Below w.heap.size w w' := by
  have HF := hideH hF
  clear hF
  go_enter Tryz.func128, Tryz.ntmps128
  go_wp2_with (go_at_call 148; fail)
  refine (indexFuncG_nothing p ls L lc _ hl hL HF.out).mono ?_
  rintro e w1 ⟨n, rfl, hn, hb1⟩
  go_wp2
  go_ret
  exact ⟨rfl, hb1⟩

set_option maxHeartbeats 1000000 in
theorem anyNothing_any (ls : Option Addr) (L : List Gs) (lc : Nat) (w : World) (hl : L.length ≤ 9223372036854775807) (hL : GhAt w ls L) :
    Calls Tryz.prog 102 #[.slice ls L.length lc] w fun e w' => e = .returned (.bool (L.any nothingGs)) ∧ Below w.heap.size w w' := by
  go_enter Tryz.func102, Tryz.ntmps102
  go_wp2_with (go_at_call 128; fail)
  refine (containsFuncG_nothing nothingGs ls L lc _ hl hL fun g ss gc wx => anyNothing1_any g ss gc wx).mono ?_
  rintro e w1 ⟨rfl, hb1⟩
  go_wp2
  go_ret
  exact ⟨rfl, hb1⟩

set_option maxHeartbeats 1000000 in
theorem isWrong_any (ls : Option Addr) (L : List Gs) (lc : Nat) (w : World) (hl : L.length ≤ 9223372036854775807) (hL : GhAt w ls L) :
    Calls Tryz.prog 55 #[.slice ls L.length lc] w fun e w' => e = .returned (.bool (L.any otherGs && !L.any nothingGs)) ∧ Below w.heap.size w w' := by
  have H1 := hideH (anyOther_any ls L lc w hl hL)
  cases ho : L.any otherGs with
  | true =>
    rw [ho] at H1
    go_enter Tryz.func55, Tryz.ntmps55
    go_wp2_with (go_at_call 101; fail)
    refine H1.out.mono ?_
    rintro e w1 ⟨rfl, hb1⟩
    go_wp2_with (go_at_call 102; fail)
    refine (anyNothing_any ls L lc _ hl (hL.call hb1)).mono ?_
    rintro e w2 ⟨rfl, hb2⟩
    go_wp2
    go_ret
    exact ⟨rfl, hb1.trans (hb2.mono hb1.size)⟩
  | false =>
    rw [ho] at H1
    go_enter Tryz.func55, Tryz.ntmps55
    go_wp2_with (go_at_call 101; fail)
    refine H1.out.mono ?_
    rintro e w1 ⟨rfl, hb1⟩
    go_wp2
    go_ret
    exact ⟨rfl, hb1⟩

set_option maxHeartbeats 1000000 in
theorem less_any (s t : Sp) (w : World) :
    Calls Tryz.prog 57 #[sv s, sv t] w fun e w' => e = .returned (.tuple #[.bool (!(s.n || t.n) && decide (s.lo < t.hi)), .bool (!(s.n || t.n) && decide (t.lo ≤ s.hi))]) ∧ Below w.heap.size w w' := by
  obtain ⟨sn, lo, hi⟩ := s
  obtain ⟨tn, lo', hi'⟩ := t
  cases sn with
  | true =>
    go_enter Tryz.func57, Tryz.ntmps57
    go_wp2
    go_ret2
    exact ⟨rfl, by go_grown⟩
  | false =>
    cases tn with
    | true =>
      go_enter Tryz.func57, Tryz.ntmps57
      go_wp2
      go_ret2
      exact ⟨rfl, by go_grown⟩
    | false =>
      go_enter Tryz.func57, Tryz.ntmps57
      go_wp2
      go_quiet (fail)
      go_wp2
      go_ret2
      exact ⟨ret_t2 (by simp) (by simp), below_drewN (by go_grown) _⟩

set_option maxHeartbeats 1000000 in
theorem truths_any (y n : Bool) (w : World) :
    Calls Tryz.prog 56 #[.bool y, .bool n] w fun e w' => e = .returned (gv ⟨false, ⟨true, 0, 0⟩, y, n, []⟩ none 0) ∧ Below w.heap.size w w' := by
  go_enter Tryz.func56, Tryz.ntmps56
  go_wp2
  go_returns
  exact ⟨rfl, by go_grown⟩
end Go.Proofs.YtmapdpcfanecdaaGreat
