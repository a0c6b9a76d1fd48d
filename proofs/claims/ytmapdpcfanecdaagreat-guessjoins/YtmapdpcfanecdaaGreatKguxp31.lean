/- Walks over package guess: lists of sites that are looked through by a function literal. -/
import Derived.Test.YtmapdpcfanecdaaGreatKguxp09
import Derived.Test.YtmapdpcfanecdaaGreatKguxp26
import Derived.Deep.QuietTactic
import Derived.BigQuiet
import Derived.Lib.QuietBelow
import Derived.Test.YtmapdpcfanecdaaGreatKguxp08
namespace Go.Proofs.YtmapdpcfanecdaaGreat
set_option linter.unusedVariables false
set_option linter.unusedSimpArgs false
open Go.RowKit

theorem ret_t2 {a b c d : Bool} (h : a = c) (h' : b = d) : Ending.returned (.tuple #[.bool a, .bool b]) = .returned (.tuple #[.bool c, .bool d]) := by rw [h, h']

set_option maxHeartbeats 2000000 in
set_option maxRecDepth 10000 in
theorem truthG_any (g : Gs) (ss : Option Addr) (gc : Nat) (w : World) (hsp : ckSp g.sp = 0) :
    Calls Tryz.prog 46 #[gv g ss gc] w fun e w' => e = .returned (.tuple #[.bool (yesGs g), .bool (noGs g)]) ∧ Below w.heap.size w w' := by
  have hH := fun w => has_any g.sp 0 w
  rw [hsp, show (decide ((0 : Int) = 0) && g.sp.has 0) = g.sp.has 0 from rfl] at hH
  have HY : Hid (yesGs g = ((!g.sp.n && !decide (g.sp.lo = 0 ∧ g.sp.hi = 0)) || (g.t || decide (0 < g.s.length)))) := rfl
  have HN : Hid (noGs g = (g.sp.has 0 || (g.n || g.f))) := rfl
  generalize yesGs g = yy at *
  generalize noGs g = nn at *
  generalize g.sp.has 0 = z at *
  obtain ⟨n, ⟨sn, lo, hi⟩, t, f, s⟩ := g
  have G0 := GuAt.new w ⟨n, ⟨sn, lo, hi⟩, t, f, s⟩ ss gc
  go_enter Tryz.func46, Tryz.ntmps46
  go_wp2_with (go_at_call 45; fail)
  refine (hH _).mono ?_
  rintro e w1 ⟨rfl, hb1⟩
  have G1 := G0.call hb1
  have B1 : Below w.heap.size w w1 := Below.trans (by go_grown) (hb1.mono (by simp))
  obtain ⟨⟨g0, g1, g2, g3, g4, g5, g6⟩, gz⟩ := id G1
  simp only [Nat.zero_add] at g0 g1 g2 g3 g4 g5 g6
  clear G0 G1 hb1 hH hsp
  cases sn with
  | true =>
    go_wp2
    refine wp_region_quiet_lit (by kernel_rfl) (by kernel_rfl) ?_
    repeat (any_goals (first | go_big_quiet_step (fail) | quiet_step (fail) | (refine wpQuiet_step (fun K hK => ?_); go_simp; split <;> (refine hK _ ?_; clear hK K))))
    all_goals (refine wpQuiet_nil ?_; intro _ hw'; obtain ⟨nq, hw''⟩ := hw'; subst hw'')
    all_goals go_wp2
    all_goals go_ret2
    all_goals exact ⟨ret_t2 (by rw [HY.out]; simp_all) (by rw [HN.out]; simp_all), below_drewN B1 _⟩
  | false =>
    by_cases hz : lo = 0 ∧ hi = 0
    · obtain ⟨rfl, rfl⟩ := hz
      go_wp2
      refine wp_region_quiet_lit (by kernel_rfl) (by kernel_rfl) ?_
      repeat (any_goals (first | go_big_quiet_step (fail) | quiet_step (fail) | (refine wpQuiet_step (fun K hK => ?_); go_simp; split <;> (refine hK _ ?_; clear hK K))))
      all_goals (refine wpQuiet_nil ?_; intro _ hw'; obtain ⟨nq, hw''⟩ := hw'; subst hw'')
      all_goals go_wp2
      all_goals go_ret2
      all_goals exact ⟨ret_t2 (by rw [HY.out]; simp_all) (by rw [HN.out]; simp_all), below_drewN B1 _⟩
    · have HZ : Hid (decide (lo = 0 ∧ hi = 0) = false) := by show _ = _; simpa using hz
      have hm : yy = true := by rw [HY.out, HZ.out]; rfl
      subst hm
      clear HY
      by_cases h1 : lo = 0
      · subst h1
        have h2 : (hi == 0) = false := by simp only [beq_eq_false_iff_ne]; intro h; exact hz ⟨rfl, h⟩
        clear hz HZ
        go_wp2
        refine wp_region_quiet_lit (by kernel_rfl) (by kernel_rfl) ?_
        repeat (any_goals (first | go_big_quiet_step (fail) | quiet_step (fail) | (refine wpQuiet_step (fun K hK => ?_); go_simp; split <;> (refine hK _ ?_; clear hK K))))
        all_goals (refine wpQuiet_nil ?_; intro _ hw'; obtain ⟨nq, hw''⟩ := hw'; subst hw'')
        all_goals go_wp2
        all_goals go_ret2
        all_goals exact ⟨ret_t2 rfl (by rw [HN.out]; simp_all), below_drewN B1 _⟩
      · have h2 : (lo == 0) = false := by simpa using h1
        clear hz HZ
        go_wp2
        refine wp_region_quiet_lit (by kernel_rfl) (by kernel_rfl) ?_
        repeat (any_goals (first | go_big_quiet_step (fail) | quiet_step (fail) | (refine wpQuiet_step (fun K hK => ?_); go_simp; split <;> (refine hK _ ?_; clear hK K))))
        all_goals (refine wpQuiet_nil ?_; intro _ hw'; obtain ⟨nq, hw''⟩ := hw'; subst hw'')
        all_goals go_wp2
        all_goals go_ret2
        all_goals exact ⟨ret_t2 rfl (by rw [HN.out]; simp_all), below_drewN B1 _⟩

set_option maxHeartbeats 1000000 in
theorem more_any (x : Int) (q : Nat) (h : Gs) (ss : Option Addr) (gc : Nat) (w : World) (hg : GuAt w q 0 h ss gc) (hs : IntsAt w ss h.s) (hl : h.s.length ≤ 9223372036854775807) :
    Calls Tryz.prog 41 #[.int .i64 x, .pointer (some ⟨q, 0, none⟩)] w fun e w' => e = .returned (.bool (!h.s.contains x)) ∧ Below w.heap.size w w' := by
  obtain ⟨⟨g0, g1, g2, g3, g4, g5, g6⟩, gz⟩ := id hg
  simp only [Nat.zero_add] at g6
  go_enter Tryz.func41, Tryz.ntmps41
  go_wp2_with (go_at_call 42; fail)
  refine (containsI_any x ss gc h.s _ hl hs).mono ?_
  rintro e w1 ⟨rfl, rfl⟩
  go_wp2
  go_ret
  exact ⟨ret_bool (by simp), Below.refl _ _⟩

set_option maxHeartbeats 1000000 in
theorem common_any (x : Int) (q : Nat) (h : Gs) (ss : Option Addr) (gc : Nat) (w : World) (hg : GuAt w q 0 h ss gc) (hs : IntsAt w ss h.s) (hl : h.s.length ≤ 9223372036854775807) :
    Calls Tryz.prog 103 #[.int .i64 x, .pointer (some ⟨q, 0, none⟩)] w fun e w' => e = .returned (.bool (h.s.contains x)) ∧ Below w.heap.size w w' := by
  obtain ⟨⟨g0, g1, g2, g3, g4, g5, g6⟩, gz⟩ := id hg
  simp only [Nat.zero_add] at g6
  go_enter Tryz.func103, Tryz.ntmps103
  go_wp2_with (go_at_call 42; fail)
  refine (containsI_any x ss gc h.s _ hl hs).mono ?_
  rintro e w1 ⟨rfl, rfl⟩
  go_wp2
  go_ret
  exact ⟨ret_bool (by simp), Below.refl _ _⟩
end Go.Proofs.YtmapdpcfanecdaaGreat

namespace Go.Proofs.YtmapdpcfanecdaaGreat
set_option linter.unusedVariables false
set_option linter.unusedSimpArgs false
open Go.RowKit

set_option maxHeartbeats 1000000 in
set_option maxRecDepth 10000 in
theorem indexFunc_more (q : Nat) (p : Int → Bool) (ss : Option Addr) (cap : Nat) (l : List Int) (w : World) (hl : l.length ≤ 9223372036854775807) (hs : IntsAt w ss l)
    (hF : ∀ x wx, Below w.heap.size w wx → Calls Tryz.prog 41 #[.int .i64 x, .pointer (some ⟨q, 0, none⟩)] wx fun e w' => e = .returned (.bool (p x)) ∧ Below wx.heap.size wx w') :
    Calls Tryz.prog 89 #[.slice ss l.length cap, .func (.func 41) #[] #[.pointer (some ⟨q, 0, none⟩)]] w fun e w' => ∃ n : Int, e = .returned (.int .i64 n) ∧ decide (0 ≤ n) = l.any p ∧ Below w.heap.size w w' := by
  have HF := hideH hF
  clear hF
  go_enter Tryz.func89, Tryz.ntmps89
  go_wp2
  go_loopw [8] (fun i wr => ∃ k : Nat, k ≤ l.length ∧ i = .int .i64 k ∧ Below w.heap.size w wr ∧ Hid (l.any p = (l.drop k).any p)) (fun i _ => l.length - (intOf i).toNat)
  case atStart => exact ⟨0, Nat.zero_le _, rfl, Below.refl _ _, rfl⟩
  case round =>
    obtain ⟨k, hk, rfl, hbr, HA⟩ := hrel
    by_cases hlt : k < l.length
    · obtain ⟨b, off, rfl, hb, hc⟩ := hs.get k hlt
      have n0 : (0 : Int) ≤ (k : Int) := by omega
      have n1 : (k : Int) < (l.length : Int) := by omega
      have s0 := hbr.size
      have c0 : wr.cell? ⟨b, off + k, none⟩ = some (.int .i64 l[k]) := by rw [hbr.cell (by simpa using hb)]; exact hc k hlt
      have HN : Hid ((l.drop k).any p = (p l[k] || (l.drop (k + 1)).any p)) := any_drop_stepI l p k hlt
      clear hc hs
      go_wp2_with (go_at_call 41; fail)
      refine (HF.out _ _ hbr).mono ?_
      rintro e w1 ⟨rfl, hb1⟩
      cases hp : p l[k] with
      | true =>
        have HT : Hid (l.any p = true) := by show _ = _; rw [HA.out, HN.out, hp]; rfl
        clear HN HA
        go_wp2
        go_ret
        exact ⟨_, rfl, by rw [HT.out]; simp, hbr.trans (hb1.mono s0)⟩
      | false =>
        have HT : Hid (l.any p = (l.drop (k + 1)).any p) := by show _ = _; rw [HA.out, HN.out, hp]; rfl
        clear HN HA
        go_wp2
        go_roundw
        case rel => exact ⟨k + 1, by omega, by go_num, hbr.trans (hb1.mono s0), HT⟩
        case measure => simp [intOf]; omega
    · go_wp2
      go_ret
      exact ⟨_, rfl, by rw [HA.out, List.drop_eq_nil_of_le (by omega)]; rfl, hbr⟩

set_option maxHeartbeats 1000000 in
theorem containsFunc_more (q : Nat) (p : Int → Bool) (ss : Option Addr) (cap : Nat) (l : List Int) (w : World) (hl : l.length ≤ 9223372036854775807) (hs : IntsAt w ss l)
    (hF : ∀ x wx, Below w.heap.size w wx → Calls Tryz.prog 41 #[.int .i64 x, .pointer (some ⟨q, 0, none⟩)] wx fun e w' => e = .returned (.bool (p x)) ∧ Below wx.heap.size wx w') :
    Calls Tryz.prog 43 #[.slice ss l.length cap, .func (.func 41) #[] #[.pointer (some ⟨q, 0, none⟩)]] w fun e w' => e = .returned (.bool (l.any p)) ∧ Below w.heap.size w w' := by
  have HF := hideH hF
  clear hF
  go_enter Tryz.func43, Tryz.ntmps43
  go_wp2_with (go_at_call 89; fail)
  refine (indexFunc_more q p ss cap l _ hl hs HF.out).mono ?_
  rintro e w1 ⟨n, rfl, hn, hb1⟩
  go_wp2
  go_ret
  exact ⟨rfl, hb1⟩
end Go.Proofs.YtmapdpcfanecdaaGreat

namespace Go.Proofs.YtmapdpcfanecdaaGreat
set_option linter.unusedVariables false
set_option linter.unusedSimpArgs false
open Go.RowKit

set_option maxHeartbeats 1000000 in
set_option maxRecDepth 10000 in
theorem indexFunc_common (q : Nat) (p : Int → Bool) (ss : Option Addr) (cap : Nat) (l : List Int) (w : World) (hl : l.length ≤ 9223372036854775807) (hs : IntsAt w ss l)
    (hF : ∀ x wx, Below w.heap.size w wx → Calls Tryz.prog 103 #[.int .i64 x, .pointer (some ⟨q, 0, none⟩)] wx fun e w' => e = .returned (.bool (p x)) ∧ Below wx.heap.size wx w') :
    Calls Tryz.prog 89 #[.slice ss l.length cap, .func (.func 103) #[] #[.pointer (some ⟨q, 0, none⟩)]] w fun e w' => ∃ n : Int, e = .returned (.int .i64 n) ∧ decide (0 ≤ n) = l.any p ∧ Below w.heap.size w w' := by
  have HF := hideH hF
  clear hF
  go_enter Tryz.func89, Tryz.ntmps89
  go_wp2
  go_loopw [8] (fun i wr => ∃ k : Nat, k ≤ l.length ∧ i = .int .i64 k ∧ Below w.heap.size w wr ∧ Hid (l.any p = (l.drop k).any p)) (fun i _ => l.length - (intOf i).toNat)
  case atStart => exact ⟨0, Nat.zero_le _, rfl, Below.refl _ _, rfl⟩
  case round =>
    obtain ⟨k, hk, rfl, hbr, HA⟩ := hrel
    by_cases hlt : k < l.length
    · obtain ⟨b, off, rfl, hb, hc⟩ := hs.get k hlt
      have n0 : (0 : Int) ≤ (k : Int) := by omega
      have n1 : (k : Int) < (l.length : Int) := by omega
      have s0 := hbr.size
      have c0 : wr.cell? ⟨b, off + k, none⟩ = some (.int .i64 l[k]) := by rw [hbr.cell (by simpa using hb)]; exact hc k hlt
      have HN : Hid ((l.drop k).any p = (p l[k] || (l.drop (k + 1)).any p)) := any_drop_stepI l p k hlt
      clear hc hs
      go_wp2_with (go_at_call 103; fail)
      refine (HF.out _ _ hbr).mono ?_
      rintro e w1 ⟨rfl, hb1⟩
      cases hp : p l[k] with
      | true =>
        have HT : Hid (l.any p = true) := by show _ = _; rw [HA.out, HN.out, hp]; rfl
        clear HN HA
        go_wp2
        go_ret
        exact ⟨_, rfl, by rw [HT.out]; simp, hbr.trans (hb1.mono s0)⟩
      | false =>
        have HT : Hid (l.any p = (l.drop (k + 1)).any p) := by show _ = _; rw [HA.out, HN.out, hp]; rfl
        clear HN HA
        go_wp2
        go_roundw
        case rel => exact ⟨k + 1, by omega, by go_num, hbr.trans (hb1.mono s0), HT⟩
        case measure => simp [intOf]; omega
    · go_wp2
      go_ret
      exact ⟨_, rfl, by rw [HA.out, List.drop_eq_nil_of_le (by omega)]; rfl, hbr⟩

set_option maxHeartbeats 1000000 in
theorem containsFunc_common (q : Nat) (p : Int → Bool) (ss : Option Addr) (cap : Nat) (l : List Int) (w : World) (hl : l.length ≤ 9223372036854775807) (hs : IntsAt w ss l)
    (hF : ∀ x wx, Below w.heap.size w wx → Calls Tryz.prog 103 #[.int .i64 x, .pointer (some ⟨q, 0, none⟩)] wx fun e w' => e = .returned (.bool (p x)) ∧ Below wx.heap.size wx w') :
    Calls Tryz.prog 43 #[.slice ss l.length cap, .func (.func 103) #[] #[.pointer (some ⟨q, 0, none⟩)]] w fun e w' => e = .returned (.bool (l.any p)) ∧ Below w.heap.size w w' := by
  have HF := hideH hF
  clear hF
  go_enter Tryz.func43, Tryz.ntmps43
  go_wp2_with (go_at_call 89; fail)
  refine (indexFunc_common q p ss cap l _ hl hs HF.out).mono ?_
  rintro e w1 ⟨n, rfl, hn, hb1⟩
  go_wp2
  go_ret
  exact ⟨rfl, hb1⟩
end Go.Proofs.YtmapdpcfanecdaaGreat
