/- The calls Do and DoGuess, each with one contract, whatever the kind and the errno. -/
import Derived.Test.YtmapdpcfanecdabGreatKstpxp08
import Derived.Test.YtmapdpcfanecdabGreatKstpxp38
import Derived.Test.YtmapdpcfanecdabGreatKstpxp40
import Derived.Test.YtmapdpcfanecdabGreatKstpxp37
import Derived.Test.YtmapdpcfanecdabGreatKstpxp20
import Derived.Test.YtmapdpcfanecdabGreatKstpxp35
import Derived.Test.YtmapdpcfanecdabGreatKstpxp36
import Derived.Test.YtmapdpcfanecdabGreatKstpxp39
set_option linter.unusedSimpArgs false
set_option linter.unusedVariables false
namespace Go.Proofs.YtmapdpcfanecdabGreat
section
set_option maxHeartbeats 16000000
set_option maxRecDepth 10000
open Go.RowKit

theorem doR_9n1s0 (w : World) (g : Gs) (ss : Option Addr) (gc : Nat) (h : Gs) (st : Option Addr) (hc : Nat) (hs : IntsAt w ss g.s) (hgl : g.s.length ≤ 9223372036854775807) (ht : IntsAt w st h.s) (hhl : h.s.length ≤ 9223372036854775807) (Hn1 : Hid (g.n = false)) (hS : Hid (oneGs g < 0 ∨ oneGs g ≠ oneGs h)) :
  Calls Tryz.prog 27 #[.int .i64 9, gv g ss gc, gv h st hc] w fun e w' => e = .returned (if (nothingGs g || nothingGs h) = true then .tuple #[gv noneG none 0, .bool false] else .tuple #[gv ⟨false, ⟨true, 0, 0⟩, (g.n && h.n) || (!(meetSp g.sp h.sp).n || ((g.t && h.t) || ((g.f && h.f) || g.s.any fun x => h.s.contains x))), !alikeGs g h, []⟩ none 0, .bool false]) ∧ Below w.heap.size w w' := by
 have Hn2 : Hid True := trivial
 exact prf_r9s0
end
section
set_option maxHeartbeats 16000000
set_option maxRecDepth 10000
open Go.RowKit

theorem doR_9n1s1 (w : World) (g : Gs) (ss : Option Addr) (gc : Nat) (h : Gs) (st : Option Addr) (hc : Nat) (hs : IntsAt w ss g.s) (hgl : g.s.length ≤ 9223372036854775807) (ht : IntsAt w st h.s) (hhl : h.s.length ≤ 9223372036854775807) (Hn1 : Hid (g.n = false)) (hS0 : Hid (¬ oneGs g < 0)) (hS1 : Hid (oneGs g = oneGs h)) :
  Calls Tryz.prog 27 #[.int .i64 9, gv g ss gc, gv h st hc] w fun e w' => e = .returned (if (nothingGs g || nothingGs h) = true then .tuple #[gv noneG none 0, .bool false] else .tuple #[gv ⟨false, ⟨true, 0, 0⟩, (g.n && h.n) || (!(meetSp g.sp h.sp).n || ((g.t && h.t) || ((g.f && h.f) || g.s.any fun x => h.s.contains x))), !alikeGs g h, []⟩ none 0, .bool false]) ∧ Below w.heap.size w w' := by
 have Hn2 : Hid True := trivial
 exact prf_r9s1
end
section
set_option maxHeartbeats 16000000
set_option maxRecDepth 10000
open Go.RowKit

theorem doR_9n2s0 (w : World) (g : Gs) (ss : Option Addr) (gc : Nat) (h : Gs) (st : Option Addr) (hc : Nat) (hs : IntsAt w ss g.s) (hgl : g.s.length ≤ 9223372036854775807) (ht : IntsAt w st h.s) (hhl : h.s.length ≤ 9223372036854775807) (Hn1 : Hid (g.n = true)) (Hn2 : Hid (h.n = false)) (hS : Hid (oneGs g < 0 ∨ oneGs g ≠ oneGs h)) :
  Calls Tryz.prog 27 #[.int .i64 9, gv g ss gc, gv h st hc] w fun e w' => e = .returned (if (nothingGs g || nothingGs h) = true then .tuple #[gv noneG none 0, .bool false] else .tuple #[gv ⟨false, ⟨true, 0, 0⟩, (g.n && h.n) || (!(meetSp g.sp h.sp).n || ((g.t && h.t) || ((g.f && h.f) || g.s.any fun x => h.s.contains x))), !alikeGs g h, []⟩ none 0, .bool false]) ∧ Below w.heap.size w w' := by
 exact prf_r9s0
end
section
set_option maxHeartbeats 16000000
set_option maxRecDepth 10000
open Go.RowKit

theorem doR_9n2s1 (w : World) (g : Gs) (ss : Option Addr) (gc : Nat) (h : Gs) (st : Option Addr) (hc : Nat) (hs : IntsAt w ss g.s) (hgl : g.s.length ≤ 9223372036854775807) (ht : IntsAt w st h.s) (hhl : h.s.length ≤ 9223372036854775807) (Hn1 : Hid (g.n = true)) (Hn2 : Hid (h.n = false)) (hS0 : Hid (¬ oneGs g < 0)) (hS1 : Hid (oneGs g = oneGs h)) :
  Calls Tryz.prog 27 #[.int .i64 9, gv g ss gc, gv h st hc] w fun e w' => e = .returned (if (nothingGs g || nothingGs h) = true then .tuple #[gv noneG none 0, .bool false] else .tuple #[gv ⟨false, ⟨true, 0, 0⟩, (g.n && h.n) || (!(meetSp g.sp h.sp).n || ((g.t && h.t) || ((g.f && h.f) || g.s.any fun x => h.s.contains x))), !alikeGs g h, []⟩ none 0, .bool false]) ∧ Below w.heap.size w w' := by
 exact prf_r9s1
end
section
set_option maxHeartbeats 4000000
set_option maxRecDepth 10000
open Go.RowKit

theorem doR_9 (w : World) (g : Gs) (ss : Option Addr) (gc : Nat) (h : Gs) (st : Option Addr) (hc : Nat) (hs : IntsAt w ss g.s) (hgl : g.s.length ≤ 9223372036854775807) (ht : IntsAt w st h.s) (hhl : h.s.length ≤ 9223372036854775807) :
  Calls Tryz.prog 27 #[.int .i64 9, gv g ss gc, gv h st hc] w fun e w' => e = .returned (if (nothingGs g || nothingGs h) = true then .tuple #[gv noneG none 0, .bool false] else .tuple #[gv ⟨false, ⟨true, 0, 0⟩, (g.n && h.n) || (!(meetSp g.sp h.sp).n || ((g.t && h.t) || ((g.f && h.f) || g.s.any fun x => h.s.contains x))), !alikeGs g h, []⟩ none 0, .bool false]) ∧ Below w.heap.size w w' := by
 have c1 : g.n = true ∨ g.n = false := by cases g.n <;> simp
 have c2 : h.n = true ∨ h.n = false := by cases h.n <;> simp
 by_cases hS : oneGs g < 0 ∨ oneGs g ≠ oneGs h
 ·rcases c1 with e1 | e1
  ·rcases c2 with e2 | e2
   ·exact doR_9n0s0 w g ss gc h st hc hs hgl ht hhl e1 e2 hS
   ·exact doR_9n2s0 w g ss gc h st hc hs hgl ht hhl e1 e2 hS
  ·exact doR_9n1s0 w g ss gc h st hc hs hgl ht hhl e1 hS
 ·have h1 : ¬ oneGs g < 0 := fun h => hS (.inl h)
  have h2 : oneGs g = oneGs h := Classical.byContradiction fun h => hS (.inr h)
  rcases c1 with e1 | e1
  ·rcases c2 with e2 | e2
   ·exact doR_9n0s1 w g ss gc h st hc hs hgl ht hhl e1 e2 h1 h2
   ·exact doR_9n2s1 w g ss gc h st hc hs hgl ht hhl e1 e2 h1 h2
  ·exact doR_9n1s1 w g ss gc h st hc hs hgl ht hhl e1 h1 h2
end
section
set_option maxHeartbeats 4000000
set_option maxRecDepth 10000
open Go.RowKit

theorem doR_10 (w : World) (g : Gs) (ss : Option Addr) (gc : Nat) (h : Gs) (st : Option Addr) (hc : Nat) :
  Calls Tryz.prog 27 #[.int .i64 10, gv g ss gc, gv h st hc] w fun e w' => e = .returned (if nothingGs g = true then .tuple #[gv noneG none 0, .bool false] else .tuple #[gv ⟨false, ⟨true, 0, 0⟩, noGs g, yesGs g, []⟩ none 0, .bool false]) ∧ Below w.heap.size w w' := by
 have HT := hideH (fun w => truthOf_any g ss gc w)
 generalize yesGs g = yy at *
 generalize noGs g = no at *
 generalize hnn : nothingGs g = nn
 have Hnn := hideH hnn
 clear hnn
 have HNg := hideH (fun w => isNothing_any g ss gc w)
 have HNh := hideH (fun w => isNothing_any h st hc w)
 generalize nothingGs g = ng at *
 generalize nothingGs h = nh at *
 go_enter Tryz.func27, Tryz.ntmps27
 go_upto_region 1 with fail
 go_cut [8] (fun t wy => ∃ ob, t = .pointer (some ⟨ob, 0, none⟩) ∧ DG w g ss gc h st hc ob noneG wy)
 case first =>
  go_wp2_with (go_at_call 21; fail)
  refine (nothingR_any _).mono ?_
  rintro e w1 ⟨rfl, hb1⟩
  have D1 := doW_out hb1
  go_wp2_with fail
  go_meet
  refine ⟨w1.heap.size, rfl, ?_⟩
  exact D1
 obtain ⟨ob, rfl, D1⟩ := hcut
 obtain ⟨⟨g0, g1, g2, g3, g4, g5, g6⟩, gz⟩ := id D1.1
 simp only [Nat.zero_add] at g0 g1 g2 g3 g4 g5 g6
 obtain ⟨⟨k0, k1, k2, k3, k4, k5, k6⟩, kz⟩ := id D1.2.1
 simp only [Nat.zero_add] at k0 k1 k2 k3 k4 k5 k6
 have fz := D1.2.2.2.1.1
 have fo := D1.2.2.2.2.2.1.1
 have zo := D1.2.2.2.2.2.2.2
 go_upto_region 2 with fail
 go_cut [27] (fun t wy => t = .bool nn ∧ DG w g ss gc h st hc ob noneG wy)
 case first =>
  go_wp2_with (go_at_call 28; fail)
  refine (HNg.out _).mono ?_
  rintro e w2 ⟨rfl, hb2⟩
  have D2 := D1.call hb2
  clear g0 g1 g2 g3 g4 g5 g6 gz k0 k1 k2 k3 k4 k5 k6 kz fz fo
  cases ng with
  | true =>
   go_wp2_with fail
   go_meet
   exact ⟨by rw [← Hnn.out]; first | done | rfl | simp, D2⟩
  | false =>
   go_wp2_with fail
   go_meet
   exact ⟨by rw [← Hnn.out]; first | done | rfl | simp, D2⟩
 obtain ⟨rfl, D2⟩ := hcut
 clear g0 g1 g2 g3 g4 g5 g6 gz k0 k1 k2 k3 k4 k5 k6 kz fz fo zo D1 HNg HNh Hnn
 cases nn with
 | true =>
  obtain ⟨⟨g0, g1, g2, g3, g4, g5, g6⟩, gz⟩ := id D2.1
  simp only [Nat.zero_add] at g0 g1 g2 g3 g4 g5 g6
  obtain ⟨⟨r0, r1, r2, r3, r4, r5, r6⟩, rz⟩ := id D2.2.2.1
  simp only [Nat.zero_add] at r0 r1 r2 r3 r4 r5 r6
  obtain ⟨⟨o0, o1, o2, o3, o4, o5, o6⟩, oz⟩ := id D2.2.2.2.2.1
  simp only [Nat.zero_add] at o0 o1 o2 o3 o4 o5 o6
  simp only [zeroG] at r0 r1 r2 r3 r4 r5 r6
  have fz := D2.2.2.2.1.1
  have fo := D2.2.2.2.2.2.1.1
  have zo := D2.2.2.2.2.2.2.2
  simp only [noneG] at o0 o1 o2 o3 o4 o5 o6
  go_wp2
  refine bodyPost_ret (v := .tuple #[gv noneG none 0, .bool false]) (by simp [results, Tryz.results27, go_sem, r0, r1, r2, r3, r4, r5, r6, noneG]) rfl ⟨?_, ?_⟩
  ·rfl
  ·exact below_put7 D2.2.2.2.2.2.2.1 (by omega)
 | false =>
  obtain ⟨⟨g0, g1, g2, g3, g4, g5, g6⟩, gz⟩ := id D2.1
  simp only [Nat.zero_add] at g0 g1 g2 g3 g4 g5 g6
  have fz := D2.2.2.2.1.1
  have fo := D2.2.2.2.2.2.1.1
  have zo := D2.2.2.2.2.2.2.2
  go_wp2_with (go_at_call 24; fail)
  refine (HT.out _).mono ?_
  rintro e w3 ⟨rfl, hb3⟩
  have D3 := D2.call hb3
  clear hb3 D2 g0 g1 g2 g3 g4 g5 g6 gz fz fo zo
  obtain ⟨⟨r0, r1, r2, r3, r4, r5, r6⟩, rz⟩ := id D3.2.2.1
  simp only [Nat.zero_add] at r0 r1 r2 r3 r4 r5 r6
  obtain ⟨⟨o0, o1, o2, o3, o4, o5, o6⟩, oz⟩ := id D3.2.2.2.2.1
  simp only [Nat.zero_add] at o0 o1 o2 o3 o4 o5 o6
  simp only [zeroG] at r0 r1 r2 r3 r4 r5 r6
  have fz := D3.2.2.2.1.1
  have fo := D3.2.2.2.2.2.1.1
  have zo := D3.2.2.2.2.2.2.2
  simp only [noneG] at o0 o1 o2 o3 o4 o5 o6
  have hne : ob ≠ w.heap.size + 1 + 1 := by omega
  go_wp2
  refine bodyPost_ret (v := .tuple #[gv ⟨false, ⟨true, 0, 0⟩, no, yy, []⟩ none 0, .bool false]) (by simp [results, Tryz.results27, go_sem, r0, r1, r2, r3, r4, r5, r6]) rfl ⟨?_, ?_⟩
  ·rfl
  ·exact below_put7 ((D3.2.2.2.2.2.2.1.setCell (by simp; omega) _).setCell (by simp; omega) _) (by omega)
end
section
open Go.RowKit

/-- The errno of Do. -/
def doE (u k : Int) : Int := if u = 0 then (if k < 4 ∨ 10 < k then 6 else 0) else u

theorem nothing_eq {c : List Ins} {g : Gs} (hn : nothingGs g = true) (hk : ckGs c g = 0) : g = noneG := by
 have ho := ckSp_ok.mp (ckGs_sp hk)
 clear hk
 obtain ⟨n, ⟨sn, lo, hi⟩, t, f, s⟩ := g
 cases s with
 | cons x r => simp [nothingGs, otherGs] at hn
 | nil =>
  simp [nothingGs, otherGs] at hn
  obtain ⟨rfl, rfl, rfl, rfl⟩ := hn
  obtain ⟨l1, l2⟩ := ho.2.2.1 rfl
  simp only at l1 l2
  subst l1 l2
  rfl
theorem do_4 (g h : Gs) : doGs 4 g h = (g, false) := by simp [doGs]
theorem do_10 (g h : Gs) : doGs 10 g h = (⟨false, ⟨true, 0, 0⟩, noGs g, yesGs g, []⟩, false) := by simp [doGs]
theorem do_none {k : Int} {g h : Gs} (hk : k = 5 ∨ k = 6 ∨ k = 7 ∨ k = 8 ∨ k = 9) (hn : (nothingGs g || nothingGs h) = true) : doGs k g h = (noneG, false) := by
 unfold doGs
 rw [if_neg (by omega), if_neg (by omega), if_pos hn]
theorem do_567 {k : Int} {g h : Gs} (hk : k = 5 ∨ k = 6 ∨ k = 7) (hn : (nothingGs g || nothingGs h) = false) : doGs k g h = (⟨false, doSp k g.sp h.sp, false, false, []⟩, otherGs g || otherGs h) := by
 unfold doGs
 rw [if_neg (by omega), if_neg (by omega), if_neg (by rw [hn]; simp), if_neg (by omega), if_neg (by omega)]
theorem do_8 {g h : Gs} (hn : (nothingGs g || nothingGs h) = false) : doGs 8 g h = (⟨false, ⟨true, 0, 0⟩, !(g.sp.n || h.sp.n) && decide (g.sp.lo < h.sp.hi), !(g.sp.n || h.sp.n) && decide (h.sp.lo ≤ g.sp.hi), []⟩, otherGs g || otherGs h) := by
 unfold doGs
 rw [if_neg (by omega), if_neg (by omega), if_neg (by rw [hn]; simp), if_neg (by omega), if_pos rfl]
theorem do_9 {g h : Gs} (hn : (nothingGs g || nothingGs h) = false) : doGs 9 g h = (⟨false, ⟨true, 0, 0⟩, (g.n && h.n) || (!(meetSp g.sp h.sp).n || ((g.t && h.t) || ((g.f && h.f) || g.s.any fun x => h.s.contains x))), !alikeGs g h, []⟩, false) := by
 unfold doGs
 rw [if_neg (by omega), if_neg (by omega), if_neg (by rw [hn]; simp), if_pos rfl]
theorem nothing_n {g : Gs} (h : nothingGs g = true) : g.sp.n = true := by
 unfold nothingGs at h
 cases e : g.sp.n
 ·rw [e] at h; simp at h
 ·rfl
theorem nothing_nn {g h : Gs} (hn : (nothingGs g || nothingGs h) = true) : (g.sp.n || h.sp.n) = true := by
 cases e : nothingGs g
 ·rw [e] at hn
  rw [nothing_n (g := h) (by simpa using hn)]; simp
 ·rw [nothing_n e]; rfl
theorem any_two (f : Gs → Bool) (g h : Gs) : [g, h].any f = (f g || f h) := by simp
theorem do_p567 {k : Int} {g h : Gs} (hk : k = 5 ∨ k = 6 ∨ k = 7) : doGs k g h = (⟨false, doSp k g.sp h.sp, false, false, []⟩, [g, h].any otherGs && ![g, h].any nothingGs) := by
 rw [any_two, any_two]
 cases hn : (nothingGs g || nothingGs h)
 ·rw [do_567 hk hn]; simp
 ·rw [do_none (by omega) hn]
  have e : doSp k g.sp h.sp = ⟨true, 0, 0⟩ := by unfold doSp; rw [if_pos (nothing_nn hn)]
  rw [e]; simp [noneG]
theorem do_p8 {g h : Gs} : doGs 8 g h = (⟨false, ⟨true, 0, 0⟩, !(g.sp.n || h.sp.n) && decide (g.sp.lo < h.sp.hi), !(g.sp.n || h.sp.n) && decide (h.sp.lo ≤ g.sp.hi), []⟩, [g, h].any otherGs && ![g, h].any nothingGs) := by
 rw [any_two, any_two]
 cases hn : (nothingGs g || nothingGs h)
 ·rw [do_8 hn]; simp
 ·rw [do_none (by omega) hn, nothing_nn hn]; simp [noneG]
theorem no_none : noGs noneG = false ∧ yesGs noneG = false := by decide

/-- What Do answers, whatever it is handed. -/
theorem doU (V F : Int) (s : Option Addr) (c : List Ins) (cap : Nat) (g : Gs) (ss : Option Addr) (gc : Nat) (h : Gs) (st : Option Addr) (hc : Nat) (k : Int) (w : World) (hcd : CodeAt w s c) (hs : IntsAt w ss g.s) (h1 : g.s.length ≤ gc) (h2 : gc ≤ maxLen) (ht : IntsAt w st h.s) (h3 : h.s.length ≤ hc) (h4 : hc ≤ maxLen) :
  Calls Tryz.prog 92 #[pv V F s c cap, .int .i64 k, gv g ss gc, gv h st hc] w fun e w' => ∃ J js jc wr, e = .returned (.tuple #[gv J js jc, .bool wr, .int .i64 (doE (ckAllG V F c [g, h]) k)]) ∧ (J, wr) = (if doE (ckAllG V F c [g, h]) k = 0 then doGs k g h else (zeroG, false)) ∧ IntsAt w' js J.s ∧ J.s.length ≤ jc ∧ jc ≤ maxLen ∧ (∀ a, js = some a → w.heap.size ≤ a.block) ∧ (doE (ckAllG V F c [g, h]) k ≠ 0 → js = none ∧ jc = 0) ∧ Below w.heap.size w w' := by
 by_cases hck : ckAllG V F c [g, h] = 0
 ·obtain ⟨-, hg, hh⟩ := ckAllG_two hck
  have ok1 := ckSp_ok.mp (ckGs_sp hg)
  have ok2 := ckSp_ok.mp (ckGs_sp hh)
  by_cases hk : k < 4 ∨ 10 < k
  ·have he : doE (ckAllG V F c [g, h]) k = 6 := by unfold doE; rw [if_pos hck, if_pos hk]
   rw [he]
   have hb0 : ∀ j : Int, 4 ≤ j → j ≤ 10 → (k == j) = false := fun j a b => by simp; omega
   refine (doG_kind V F s c cap g ss gc h st hc k w hcd hs h1 h2 ht h3 h4 hck (hb0 4 (by omega) (by omega)) (hb0 5 (by omega) (by omega)) (hb0 6 (by omega) (by omega)) (hb0 7 (by omega) (by omega)) (hb0 8 (by omega) (by omega)) (hb0 9 (by omega) (by omega)) (hb0 10 (by omega) (by omega))).mono ?_
   rintro e w' ⟨rfl, hb⟩
   exact ⟨zeroG, none, 0, false, rfl, by rw [if_neg (by omega)], .inl rfl, Nat.zero_le _, Nat.zero_le _, (fun a ha => by cases ha), fun _ => ⟨rfl, rfl⟩, hb⟩
  ·have he : doE (ckAllG V F c [g, h]) k = 0 := by unfold doE; rw [if_pos hck, if_neg hk]
   rw [he]
   have h7 : k = 4 ∨ k = 5 ∨ k = 6 ∨ k = 7 ∨ k = 8 ∨ k = 9 ∨ k = 10 := by omega
   rcases h7 with rfl | rfl | rfl | rfl | rfl | rfl | rfl
   ·have hl := (ckAllG_sites hck).1
    have l1 := rising_len hl.2 hl.1
    refine (doG_4 V F s c cap g ss gc h st hc w hcd hs h1 h2 ht h3 h4 hck (by omega)).mono ?_
    rintro e w' ⟨v, rfl, hown, hb⟩
    obtain ⟨js, jc, rfl, hi, hjl, hm, hfa⟩ := IntsAt.own hown
    exact ⟨g, js, jc, false, rfl, by rw [if_pos rfl, do_4], hi, hjl, hm, hfa, fun hn => absurd rfl hn, hb⟩
   ·refine (doG_5 V F s c cap g ss gc h st hc w hcd hs h1 h2 ht h3 h4 hck).mono ?_
    rintro e w' ⟨rfl, hb⟩
    exact ⟨_, none, 0, _, rfl, by rw [if_pos rfl, do_p567 (by omega)], .inl rfl, Nat.zero_le _, Nat.zero_le _, (fun a ha => by cases ha), fun hn => absurd rfl hn, hb⟩
   ·refine (doG_6 V F s c cap g ss gc h st hc w hcd hs h1 h2 ht h3 h4 hck).mono ?_
    rintro e w' ⟨rfl, hb⟩
    exact ⟨_, none, 0, _, rfl, by rw [if_pos rfl, do_p567 (by omega)], .inl rfl, Nat.zero_le _, Nat.zero_le _, (fun a ha => by cases ha), fun hn => absurd rfl hn, hb⟩
   ·refine (doG_7 V F s c cap g ss gc h st hc w hcd hs h1 h2 ht h3 h4 hck).mono ?_
    rintro e w' ⟨rfl, hb⟩
    exact ⟨_, none, 0, _, rfl, by rw [if_pos rfl, do_p567 (by omega)], .inl rfl, Nat.zero_le _, Nat.zero_le _, (fun a ha => by cases ha), fun hn => absurd rfl hn, hb⟩
   ·refine (doG_8 V F s c cap g ss gc h st hc w hcd hs h1 h2 ht h3 h4 hck).mono ?_
    rintro e w' ⟨rfl, hb⟩
    exact ⟨_, none, 0, _, rfl, by rw [if_pos rfl, do_p8], .inl rfl, Nat.zero_le _, Nat.zero_le _, (fun a ha => by cases ha), fun hn => absurd rfl hn, hb⟩
   ·have mx : maxLen ≤ 9223372036854775807 := by decide
    cases hn : (nothingGs g || nothingGs h)
    ·refine (doG_9 V F s c cap g ss gc h st hc w hcd hs h1 h2 ht h3 h4 hck _ _ (fun wx hbx => same_some g ss gc h st hc wx (hs.below hbx (Nat.le_refl _)) (by omega) (ht.below hbx (Nat.le_refl _)) (by omega) (ckSps_ok.mpr ⟨ok1, ok2⟩) (by rw [any_two]; exact hn))).mono ?_
     rintro e w' ⟨rfl, hb⟩
     exact ⟨_, none, 0, _, rfl, by rw [if_pos rfl, do_9 hn], .inl rfl, Nat.zero_le _, Nat.zero_le _, (fun a ha => by cases ha), fun hn => absurd rfl hn, hb⟩
    ·refine (doG_9 V F s c cap g ss gc h st hc w hcd hs h1 h2 ht h3 h4 hck _ _ (fun wx hbx => same_none g ss gc h st hc wx (by rw [any_two]; exact hn))).mono ?_
     rintro e w' ⟨rfl, hb⟩
     exact ⟨_, none, 0, _, rfl, by rw [if_pos rfl, do_none (by omega) hn]; rfl, .inl rfl, Nat.zero_le _, Nat.zero_le _, (fun a ha => by cases ha), fun hn => absurd rfl hn, hb⟩
   ·refine (doG_10 V F s c cap g ss gc h st hc w hcd hs h1 h2 ht h3 h4 hck (ckGs_sp hg)).mono ?_
    rintro e w' ⟨rfl, hb⟩
    exact ⟨_, none, 0, _, rfl, by rw [if_pos rfl, do_10], .inl rfl, Nat.zero_le _, Nat.zero_le _, (fun a ha => by cases ha), fun hn => absurd rfl hn, hb⟩
 ·have he : doE (ckAllG V F c [g, h]) k = ckAllG V F c [g, h] := by unfold doE; rw [if_neg hck]
  rw [he]
  refine (doG_err V F s c cap g ss gc h st hc k w hcd hs h1 h2 ht h3 h4 hck).mono ?_
  rintro e w' ⟨rfl, hb⟩
  exact ⟨zeroG, none, 0, false, rfl, by rw [if_neg hck], .inl rfl, Nat.zero_le _, Nat.zero_le _, (fun a ha => by cases ha), fun _ => ⟨rfl, rfl⟩, hb⟩
end
end Go.Proofs.YtmapdpcfanecdabGreat
