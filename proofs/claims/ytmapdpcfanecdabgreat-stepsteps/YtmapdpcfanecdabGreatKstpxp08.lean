/- Walks over the document's own answers: the check of an instruction, kind by kind. -/
import Derived.Test.YtmapdpcfanecdabGreatKstpxp06
import Derived.Test.YtmapdpcfanecdabGreatKstpxp07
import Derived.Deep.RegionHeld
import Derived.WalkKit
import Derived.WalkSpells
import Derived.WalkLawsBesides
import Derived.Handy
import Derived.Deep.DeepCutAuto
import Derived.OwnWalk
import Derived.Deep.DrawnRows
import Derived.Test.YtmapdpcfanecdabGreatKstpxp03
import Derived.Deep.QuietTactic
import Derived.BigQuiet
set_option linter.unusedSimpArgs false
set_option linter.unusedVariables false
namespace Go.Proofs.YtmapdpcfanecdabGreat
section
set_option maxHeartbeats 2000000
set_option maxRecDepth 10000
open Go.RowKit
attribute [local go_sem ↓] Go.wp_at_zero Go.wp_at_succ

theorem next_any (sb : Nat) (at_ : Int) (cs : List Value) (w : World) (h : Cells w sb cs) (h9 : cs[9]? = some (.int .i64 at_)) (h0 : 0 ≤ at_) (h1 : at_ ≤ 1000) :
  Calls Tryz.prog 48 #[.pointer (some ⟨sb, 0, none⟩)] w fun e w' => e = .returned (.int .i64 (at_ + 1)) ∧ w' = w := by
 have c9 := h.1 9 _ h9
 clear h h9
 go_enter Tryz.func48, Tryz.ntmps48
 go_wp2
 go_ret
 exact ⟨ret_int (by go_num), rfl⟩
theorem trueSp_meet {s : Sp} (hs : s.Ok) : trueSp s = (if (if s.lo = 0 then meetSp s ⟨false, 1, 2147483647⟩ else s).hi = 0 then meetSp (if s.lo = 0 then meetSp s ⟨false, 1, 2147483647⟩ else s) ⟨false, -2147483648, -1⟩ else (if s.lo = 0 then meetSp s ⟨false, 1, 2147483647⟩ else s)) := by
 obtain ⟨⟨a1, a2⟩, ⟨a3, a4⟩, a5, a6⟩ := hs
 obtain ⟨n, lo, hi⟩ := s
 simp only at a1 a2 a3 a4 a5 a6
 cases n with
 | true =>
  obtain ⟨rfl, rfl⟩ := a5 rfl
  rfl
 | false =>
  by_cases h1 : lo = 0
  ·subst h1
   by_cases h2 : hi = 0
   ·subst h2; rfl
   ·have e1 : min hi 2147483647 = hi := by omega
    have e2 : max (0 : Int) 1 = 1 := by omega
    have e3 : ¬ hi < 1 := by omega
    simp [trueSp, meetSp, h2, e1, e2, e3]
  ·by_cases h2 : hi = 0
   ·subst h2
    have e1 : min (0 : Int) (-1) = -1 := by omega
    have e2 : max lo (-2147483648) = lo := by omega
    have e3 : ¬ -1 < lo := by omega
    simp [trueSp, meetSp, h1, e1, e2, e3]
   ·have e3 : ¬ hi < lo := by omega
    simp [trueSp, h1, h2, e3]
theorem meet_Ok {s t : Sp} (hs : s.Ok) (ht : t.Ok) : (meetSp s t).Ok := by
 obtain ⟨⟨a1, a2⟩, ⟨a3, a4⟩, a5, a6⟩ := hs
 obtain ⟨⟨b1, b2⟩, ⟨b3, b4⟩, b5, b6⟩ := ht
 unfold meetSp
 split
 ·exact none_Ok
 ·rename_i h
  simp only [Bool.or_eq_true, decide_eq_true_eq, not_or] at h
  exact some_Ok (by omega) (by omega) (by omega)
theorem ckSps_both {s t : Sp} (hs : s.Ok) (ht : t.Ok) : ckSps s t = 0 := ckSps_ok.2 ⟨hs, ht⟩
theorem withoutZero_any (s : Sp) (w : World) (hs : s.Ok) :
  Calls Tryz.prog 84 #[sv s] w fun e w' => e = .returned (sv (trueSp s)) ∧ Below w.heap.size w w' := by
 rw [trueSp_meet hs]
 have HM : Hid (∀ (a b : Sp) wx, a.Ok → b.Ok → Calls Tryz.prog 86 #[sv a, sv b] wx fun e w' => e = .returned (.tuple #[sv (meetSp a b), .int .i64 0]) ∧ Below wx.heap.size wx w') := fun a b wx ha hb => by
  have := meetF_any a b wx
  rw [ckSps_both ha hb] at this
  exact this
 have B0 : Below w.heap.size w ((w.alloc (.cells #[.bool s.n, .int .i64 s.lo, .int .i64 s.hi] 58)).alloc (.cells #[.bool false, .int .i64 0, .int .i64 0] 58)) := by go_grown
 have A0 : Cells ((w.alloc (.cells #[.bool s.n, .int .i64 s.lo, .int .i64 s.hi] 58)).alloc (.cells #[.bool false, .int .i64 0, .int .i64 0] 58)) w.heap.size [.bool s.n, .int .i64 s.lo, .int .i64 s.hi] := (Cells.new w 58 [.bool s.n, .int .i64 s.lo, .int .i64 s.hi]).call (by go_grown)
 have R0 : Cells ((w.alloc (.cells #[.bool s.n, .int .i64 s.lo, .int .i64 s.hi] 58)).alloc (.cells #[.bool false, .int .i64 0, .int .i64 0] 58)) (w.heap.size + 1) [.bool false, .int .i64 0, .int .i64 0] := by
  have := Cells.new (w.alloc (.cells #[.bool s.n, .int .i64 s.lo, .int .i64 s.hi] 58)) 58 [.bool false, .int .i64 0, .int .i64 0]
  rw [World.size_alloc] at this
  exact this
 have HK1 : Hid ((⟨false, 1, 2147483647⟩ : Sp).Ok) := some_Ok (by omega) (by omega) (by omega)
 have HK2 : Hid ((⟨false, -2147483648, -1⟩ : Sp).Ok) := some_Ok (by omega) (by omega) (by omega)
 obtain ⟨m1, hm1⟩ : ∃ q, q = (if s.lo = 0 then meetSp s ⟨false, 1, 2147483647⟩ else s) := ⟨_, rfl⟩
 rw [← hm1]
 have HO1 : Hid (m1.Ok) := by
  show m1.Ok
  rw [hm1]
  split
  ·exact meet_Ok hs HK1.out
  ·exact hs
 have HM1 := hideH hm1
 clear hm1
 obtain ⟨m2, hm2⟩ : ∃ q, q = (if m1.hi = 0 then meetSp m1 ⟨false, -2147483648, -1⟩ else m1) := ⟨_, rfl⟩
 rw [← hm2]
 have HM2 := hideH hm2
 have HS := hideH hs
 clear hm2 hs
 go_enter Tryz.func84, Tryz.ntmps84
 go_upto_if 5 with fail
 generalize ((w.alloc (.cells #[.bool s.n, .int .i64 s.lo, .int .i64 s.hi] 58)).alloc (.cells #[.bool false, .int .i64 0, .int .i64 0] 58)) = w0 at *
 go_cut [] (fun wy => Cells wy w.heap.size [.bool m1.n, .int .i64 m1.lo, .int .i64 m1.hi] ∧ Cells wy (w.heap.size + 1) [.bool false, .int .i64 0, .int .i64 0] ∧ Below w.heap.size w wy)
 case first =>
  have a0 := A0.1 0 _ rfl
  have a1 := A0.1 1 _ rfl
  have a2 := A0.1 2 _ rfl
  by_cases e : s.lo = 0
  ·have e1 := HM1.out
   rw [if_pos e] at e1
   have E1 := hideH e1
   have eb : (s.lo == 0) = true := by simpa using e
   clear e1 e
   have HC := hideH (HM.out s ⟨false, 1, 2147483647⟩ w0 HS.out HK1.out)
   rw [← E1.out] at HC
   go_wp2_with (go_at_call 86; fail)
   refine HC.out.mono ?_
   rintro e w1 ⟨rfl, hb1⟩
   have A1 := A0.call hb1
   have R1 := R0.call hb1
   have B1 := B0.trans (hb1.mono B0.size)
   clear a0 a1 a2 hb1 A0 R0 B0 HC
   have b0 := A1.1 0 _ rfl
   have b1 := A1.1 1 _ rfl
   have b2 := A1.1 2 _ rfl
   have f0 := A1.2.2 0
   have f1 := A1.2.2 1
   have f2 := A1.2.2 2
   go_wp2_with fail
   go_meet
   exact ⟨((A1.put 0 (by simp) _).put 1 (by simp) _).put 2 (by simp) _, ((R1.far (by simp only; omega) _).far (by simp only; omega) _).far (by simp only; omega) _, ((B1.setCell (Nat.le_refl _) _).setCell (Nat.le_refl _) _).setCell (Nat.le_refl _) _⟩
  ·have e1 := HM1.out
   rw [if_neg e] at e1
   have eb : (s.lo == 0) = false := by simpa using e
   clear e
   subst e1
   go_wp2_with fail
   go_meet
   exact ⟨A0, R0, B0⟩
 obtain ⟨A1, R1, B1⟩ := hcut
 clear A0 R0 B0
 generalize wc = w1 at *
 clear wc
 have a0 := A1.1 0 _ rfl
 have a1 := A1.1 1 _ rfl
 have a2 := A1.1 2 _ rfl
 go_upto_if 14 with fail
 go_cut [] (fun wy => Cells wy w.heap.size [.bool m2.n, .int .i64 m2.lo, .int .i64 m2.hi] ∧ Cells wy (w.heap.size + 1) [.bool false, .int .i64 0, .int .i64 0] ∧ Below w.heap.size w wy)
 case first =>
  by_cases e : m1.hi = 0
  ·have e1 := HM2.out
   rw [if_pos e] at e1
   have E1 := hideH e1
   have eb : (m1.hi == 0) = true := by simpa using e
   clear e1 e
   have HC := hideH (HM.out m1 ⟨false, -2147483648, -1⟩ w1 HO1.out HK2.out)
   rw [← E1.out] at HC
   go_wp2_with (go_at_call 86; fail)
   refine HC.out.mono ?_
   rintro e w2 ⟨rfl, hb2⟩
   have A2 := A1.call hb2
   have R2 := R1.call hb2
   have B2 := B1.trans (hb2.mono B1.size)
   clear a0 a1 a2 hb2 A1 R1 B1 HC
   have b0 := A2.1 0 _ rfl
   have b1 := A2.1 1 _ rfl
   have b2 := A2.1 2 _ rfl
   have f0 := A2.2.2 0
   have f1 := A2.2.2 1
   have f2 := A2.2.2 2
   go_wp2_with fail
   go_meet
   exact ⟨((A2.put 0 (by simp) _).put 1 (by simp) _).put 2 (by simp) _, ((R2.far (by simp only; omega) _).far (by simp only; omega) _).far (by simp only; omega) _, ((B2.setCell (Nat.le_refl _) _).setCell (Nat.le_refl _) _).setCell (Nat.le_refl _) _⟩
  ·have e1 := HM2.out
   rw [if_neg e] at e1
   have eb : (m1.hi == 0) = false := by simpa using e
   clear e
   subst e1
   go_wp2_with fail
   go_meet
   exact ⟨A1, R1, B1⟩
 obtain ⟨A2, R2, B2⟩ := hcut
 clear A1 R1 B1 a0 a1 a2
 generalize wc = w2 at *
 clear wc
 have b0 := A2.1 0 _ rfl
 have b1 := A2.1 1 _ rfl
 have b2 := A2.1 2 _ rfl
 have d0 := R2.1 0 _ rfl
 have d1 := R2.1 1 _ rfl
 have d2 := R2.1 2 _ rfl
 have f0 := R2.2.2 0
 have f1 := R2.2.2 1
 have f2 := R2.2.2 2
 go_wp2
 refine bodyPost_ret (v := sv m2) (by simp [results, Tryz.results84, go_sem, d0, d1, d2]) rfl ⟨rfl, ?_⟩
 exact ((B2.setCell (by simp only; omega) _).setCell (by simp only; omega) _).setCell (by simp only; omega) _
end
section
open Go
/-- A goal goes on in fewer signs. -/
theorem sm {p q : Prop} (h : q) (e : q → p := by (intro h; (try simp only [Act.put, List.getElem_toArray, List.getElem_cons_zero, List.getElem_cons_succ, List.setIfInBounds_toArray, List.set_cons_zero, List.set_cons_succ]); exact h)) : p := e h
section
variable {P : Program} {ops : Array Oper} {Q : Exit → Act → World → Prop} {md : Region.Mode} {S : World → Prop} {zs : List Nat}
theorem tZ (i : Nat) {oi : Oper} (v : Value) {fuel : Nat} {listed : Array Bool} {a : Act} {w : World}
  (h : wpAnyZ P md ops Q S zs fuel (listed.setIfInBounds i true) (a.put oi.dst v) w) (hi : ops[i]? = some oi := by rfl) (hy : ∀ w, S w → (execOp a.eval oi).run P w = .ok (.value v) w := by (intro w hSw; (try dsimp only at hSw); first | (go_simp; done) | (go_simp; with_reducible rfl)))
  (hs : Region.noSelect ops = true := by kernel_rfl) (hf : (Region.free md ops listed i && zOk md ops listed i zs) = true := by kernel_rfl) (hr : (Region.ready md ops listed).contains i = true := by kernel_rfl)
  (hQ : ∀ c a w, Q (.panic c) (a.put oi.dst v) w → Q (.panic c) a w := by exact fun _ _ _ h => h) (hw : Region.wanted oi (yielded ops a.tmps) = true := by rfl) (hS : S w := by assumption) : wpAnyZ P md ops Q S zs (fuel + 1) listed a w :=
 wpAnyZ_take hi hs hf hr hQ (.inl ⟨hw, hy⟩) hS h
theorem tH (i : Nat) {oi : Oper} (v : Value) {fuel : Nat} {listed : Array Bool} {a : Act} {w : World}
  (h : wpAnyH P md ops Q S fuel (listed.setIfInBounds i true) (a.put oi.dst v) w) (hi : ops[i]? = some oi := by rfl) (hy : ∀ w, S w → (execOp a.eval oi).run P w = .ok (.value v) w := by (intro w hSw; (try dsimp only at hSw); first | (go_simp; done) | (go_simp; with_reducible rfl)))
  (hs : Region.noSelect ops = true := by kernel_rfl) (hf : Region.free md ops listed i = true := by kernel_rfl) (hr : (Region.ready md ops listed).contains i = true := by kernel_rfl)
  (hQ : ∀ c a w, Q (.panic c) (a.put oi.dst v) w → Q (.panic c) a w := by exact fun _ _ _ h => h) (hw : Region.wanted oi (yielded ops a.tmps) = true := by rfl) (hS : S w := by assumption) : wpAnyH P md ops Q S (fuel + 1) listed a w :=
 wpAnyH_take hi hs hf hr hQ (.inl ⟨hw, hy⟩) hS h
theorem uH (i : Nat) {oi : Oper} {fuel : Nat} {listed : Array Bool} {a : Act} {w : World}
  (h : wpAnyH P md ops Q S fuel (listed.setIfInBounds i true) (a.put oi.dst undef) w) (hi : ops[i]? = some oi := by rfl)
  (hs : Region.noSelect ops = true := by kernel_rfl) (hf : Region.free md ops listed i = true := by kernel_rfl) (hr : (Region.ready md ops listed).contains i = true := by kernel_rfl)
  (hQ : ∀ c a w, Q (.panic c) (a.put oi.dst undef) w → Q (.panic c) a w := by exact fun _ _ _ h => h) (hw : Region.wanted oi (yielded ops a.tmps) = false := by rfl) (hS : S w := by assumption) : wpAnyH P md ops Q S (fuel + 1) listed a w :=
 wpAnyH_take hi hs hf hr hQ (.inr ⟨hw, rfl⟩) hS h
end
end
section
set_option maxHeartbeats 1000000
open Go.RowKit

theorem any_drop_stepI (l : List Int) (p : Int → Bool) (k : Nat) (h : k < l.length) : (l.drop k).any p = (p l[k] || (l.drop (k + 1)).any p) := by
 rw [List.drop_eq_getElem_cons h]; rfl

theorem indexI_le (l : List Int) (x : Int) (k : Nat) (h : k < l.length) : x ∈ l.drop k ↔ (x = l[k] ∨ x ∈ l.drop (k + 1)) := by
 rw [List.drop_eq_getElem_cons h, List.mem_cons]

theorem indexI_any (x : Int) (ss : Option Addr) (cap : Nat) (l : List Int) (w : World) (hl : l.length ≤ 9223372036854775807) (hs : IntsAt w ss l) :
  Calls Tryz.prog 143 #[.slice ss l.length cap, .int .i64 x] w fun e w' => ∃ n : Int, e = .returned (.int .i64 n) ∧ (0 ≤ n ↔ x ∈ l) ∧ w' = w := by
 go_enter Tryz.func143, Tryz.ntmps143
 go_wp2
 go_loop [8] (fun i => ∃ k : Nat, k ≤ l.length ∧ i = .int .i64 k ∧ Hid (x ∈ l ↔ x ∈ l.drop k)) (fun i => l.length - (intOf i).toNat)
 case atStart => exact ⟨0, Nat.zero_le _, rfl, Iff.rfl⟩
 case round =>
  obtain ⟨k, hk, rfl, HA⟩ := hrel
  by_cases hlt : k < l.length
  ·obtain ⟨b, off, rfl, hb, hc⟩ := hs.get k hlt
   have n0 : (0 : Int) ≤ (k : Int) := by omega
   have n1 : (k : Int) < (l.length : Int) := by omega
   have c0 := hc k hlt
   have HN : Hid (x ∈ l.drop k ↔ (x = l[k] ∨ x ∈ l.drop (k + 1))) := indexI_le l x k hlt
   clear hc hs
   by_cases hp : l[k] = x
   ·have HT : Hid (x ∈ l) := HA.out.2 (HN.out.2 (.inl hp.symm))
    clear HN HA
    have hp' : (x == l[k]) = true := by simp [hp]
    go_wp2
    go_ret
    exact ⟨_, rfl, ⟨fun _ => HT.out, fun _ => by omega⟩, rfl⟩
   ·have HT : Hid (x ∈ l ↔ x ∈ l.drop (k + 1)) := HA.out.trans (HN.out.trans ⟨fun h => h.resolve_left fun e => hp e.symm, .inr⟩)
    have hp' : (x == l[k]) = false := by simp; exact fun h => hp h.symm
    clear HN HA
    go_wp2
    go_round
    case rel => exact ⟨k + 1, by omega, by go_num, HT⟩
    case measure => simp [intOf]; omega
  ·go_wp2
   go_ret
   exact ⟨_, rfl, ⟨fun h => absurd h (by omega), fun h => by have := HA.out.1 h; rw [List.drop_eq_nil_of_le (by omega)] at this; cases this⟩, rfl⟩

theorem containsI_any (x : Int) (ss : Option Addr) (cap : Nat) (l : List Int) (w : World) (hl : l.length ≤ 9223372036854775807) (hs : IntsAt w ss l) :
  Calls Tryz.prog 117 #[.slice ss l.length cap, .int .i64 x] w fun e w' => e = .returned (.bool (l.contains x)) ∧ w' = w := by
 go_enter Tryz.func117, Tryz.ntmps117
 go_wp2_with fail
 refine (indexI_any x ss cap l _ hl hs).mono ?_
 rintro e w1 ⟨n, rfl, hn, rfl⟩
 go_wp2
 go_ret
 exact ⟨ret_bool (by simp), rfl⟩
end
section
set_option maxHeartbeats 1000000
set_option maxRecDepth 10000
open Go.RowKit

theorem indexFunc_home (q : Nat) (p : Int → Bool) (ss : Option Addr) (cap : Nat) (l : List Int) (w : World) (hl : l.length ≤ 9223372036854775807) (hs : IntsAt w ss l)
  (hF : ∀ x wx, Below w.heap.size w wx → Calls Tryz.prog 162 #[.int .i64 x, .pointer (some ⟨q, 0, none⟩)] wx fun e w' => e = .returned (.bool (p x)) ∧ Below wx.heap.size wx w') :
  Calls Tryz.prog 144 #[.slice ss l.length cap, .func (.func 162) #[] #[.pointer (some ⟨q, 0, none⟩)]] w fun e w' => ∃ n : Int, e = .returned (.int .i64 n) ∧ decide (0 ≤ n) = l.any p ∧ Below w.heap.size w w' := by
 have HF := hideH hF
 clear hF
 go_enter Tryz.func144, Tryz.ntmps144
 go_wp2
 go_loopw [8] (fun i wr => ∃ k : Nat, k ≤ l.length ∧ i = .int .i64 k ∧ Below w.heap.size w wr ∧ Hid (l.any p = (l.drop k).any p)) (fun i _ => l.length - (intOf i).toNat)
 case atStart => exact ⟨0, Nat.zero_le _, rfl, Below.refl _ _, rfl⟩
 case round =>
  obtain ⟨k, hk, rfl, hbr, HA⟩ := hrel
  by_cases hlt : k < l.length
  ·obtain ⟨b, off, rfl, hb, hc⟩ := hs.get k hlt
   have n0 : (0 : Int) ≤ (k : Int) := by omega
   have n1 : (k : Int) < (l.length : Int) := by omega
   have s0 := hbr.size
   have c0 : wr.cell? ⟨b, off + k, none⟩ = some (.int .i64 l[k]) := by rw [hbr.cell (by simpa using hb)]; exact hc k hlt
   have HN : Hid ((l.drop k).any p = (p l[k] || (l.drop (k + 1)).any p)) := any_drop_stepI l p k hlt
   clear hc hs
   go_wp2_with (go_at_call 162; fail)
   refine (HF.out _ _ hbr).mono ?_
   rintro e w1 ⟨rfl, hb1⟩
   cases hp : p l[k] with
   | true =>
    have HT : Hid (l.any p = true) := by show _ = _; rw [HA.out, HN.out, hp]; rfl
    clear HN HA
    go_wp2
    go_ret
    exact ⟨_, rfl, by rw [HT.out]; simp, hbr.trans (hb1.mono s0)⟩
   | false =>
    have HT : Hid (l.any p = (l.drop (k + 1)).any p) := by show _ = _; rw [HA.out, HN.out, hp]; rfl
    clear HN HA
    go_wp2
    go_roundw
    case rel => exact ⟨k + 1, by omega, by go_num, hbr.trans (hb1.mono s0), HT⟩
    case measure => simp [intOf]; omega
  ·go_wp2
   go_ret
   exact ⟨_, rfl, by rw [HA.out, List.drop_eq_nil_of_le (by omega)]; rfl, hbr⟩

theorem containsFunc_home (q : Nat) (p : Int → Bool) (ss : Option Addr) (cap : Nat) (l : List Int) (w : World) (hl : l.length ≤ 9223372036854775807) (hs : IntsAt w ss l)
  (hF : ∀ x wx, Below w.heap.size w wx → Calls Tryz.prog 162 #[.int .i64 x, .pointer (some ⟨q, 0, none⟩)] wx fun e w' => e = .returned (.bool (p x)) ∧ Below wx.heap.size wx w') :
  Calls Tryz.prog 118 #[.slice ss l.length cap, .func (.func 162) #[] #[.pointer (some ⟨q, 0, none⟩)]] w fun e w' => e = .returned (.bool (l.any p)) ∧ Below w.heap.size w w' := by
 have HF := hideH hF
 clear hF
 go_enter Tryz.func118, Tryz.ntmps118
 go_wp2_with (go_at_call 144; fail)
 refine (indexFunc_home q p ss cap l _ hl hs HF.out).mono ?_
 rintro e w1 ⟨n, rfl, hn, hb1⟩
 go_wp2
 go_ret
 exact ⟨rfl, hb1⟩
end
section
set_option maxHeartbeats 2000000
set_option maxRecDepth 10000
open Go.RowKit

theorem homeless_any (x : Int) (q : Nat) (V F : Int) (s : Option Addr) (c : List Ins) (cap : Nat) (w : World) (hp : PrAt w q V F s c cap) (hc : CodeAt w s c) (hl : c.length ≤ 60) :
  Calls Tryz.prog 162 #[.int .i64 x, .pointer (some ⟨q, 0, none⟩)] w fun e w' => e = .returned (.bool (!isSite c x)) ∧ Below w.heap.size w w' := by
 obtain ⟨⟨p0, p1, p2⟩, p3⟩ := hp
 have hl' : (c.length : Int) ≤ 60 := by omega
 by_cases h0 : x < 0
 ·have HR : Hid (isSite c x = false) := by show _ = _; unfold isSite; rw [decide_eq_false (by omega)]; rfl
  go_enter Tryz.func162, Tryz.ntmps162
  go_wp2
  go_ret
  exact ⟨ret_bool (by rw [HR.out]; rfl), Below.refl _ _⟩
 by_cases h1 : x < (c.length : Int)
 ·obtain ⟨k, rfl⟩ := Int.eq_ofNat_of_zero_le (show 0 ≤ x by omega)
  have hk : k < c.length := by omega
  obtain ⟨b, off, rfl, hb, hi⟩ := hc.get k hk
  obtain ⟨i0, -, -, -, -, -⟩ := hi k hk
  have HR : Hid (isSite c k = decide (c[k].k = 11)) := by
   show _ = _
   unfold isSite
   rw [decide_eq_true (show (0 : Int) ≤ (k : Int) by omega), decide_eq_true h1, Int.toNat_natCast, show c.getD k ⟨0, 0, 0, 0, 0, 0⟩ = c[k] by simp [List.getD, List.getElem?_eq_getElem hk]]
   simp
  clear hi hc
  by_cases h11 : c[k].k = 11
  ·have e11 : (c[k].k != 11) = false := by simp [h11]
   have n0 : (0 : Int) ≤ (k : Int) := by omega
   go_enter Tryz.func162, Tryz.ntmps162
   go_wp2
   go_ret
   exact ⟨ret_bool (by rw [HR.out]; simp [h11, hk]), Below.refl _ _⟩
  ·have e11 : (c[k].k != 11) = true := by simpa using h11
   have n0 : (0 : Int) ≤ (k : Int) := by omega
   go_enter Tryz.func162, Tryz.ntmps162
   go_wp2
   go_ret
   exact ⟨ret_bool (by rw [HR.out]; simp [h11, hk]), Below.refl _ _⟩
 ·have HR : Hid (isSite c x = false) := by show _ = _; unfold isSite; rw [decide_eq_false h1]; simp
  go_enter Tryz.func162, Tryz.ntmps162
  go_wp2
  go_ret
  exact ⟨ret_bool (by rw [HR.out]; rfl), Below.refl _ _⟩

theorem any_not_all (l : List Int) (p : Int → Bool) : (l.any fun x => !p x) = !l.all p := by
 induction l with
 | nil => rfl
 | cons a r ih => simp only [List.any_cons, List.all_cons, ih, Bool.not_and]

/-- They rise up to place k. -/
theorem rising_iff (l : List Int) : rising l = true ↔ ∀ k (h : k + 1 < l.length), l[k] < l[k + 1] := by
 induction l with
 | nil => simp [rising]
 | cons a r ih =>
  cases r with
  | nil => simp [rising]
  | cons b t =>
   simp only [rising, Bool.and_eq_true, decide_eq_true_eq, ih]
   constructor
   ·rintro ⟨h1, h2⟩ k hk
    cases k with
    | zero => exact h1
    | succ k => exact h2 k (by simpa using hk)
   ·intro h
    exact ⟨h 0 (by simp), fun k hk => h (k + 1) (by simpa using hk)⟩

/-- The two boxes of checkParts. -/
abbrev pgW (w : World) (V F : Int) (s : Option Addr) (c : List Ins) (cap : Nat) (g : Gs) (ss : Option Addr) (gc : Nat) : World :=
 (w.alloc (.cells #[.int .i64 V, .int .i64 F, .slice s c.length cap] 24)).alloc (.cells #[.bool g.n, .bool g.sp.n, .int .i64 g.sp.lo, .int .i64 g.sp.hi, .bool g.t, .bool g.f, .slice ss g.s.length gc] 61)

theorem checkParts_any (V F : Int) (s : Option Addr) (c : List Ins) (cap : Nat) (g : Gs) (ss : Option Addr) (gc : Nat) (w : World) (hc : CodeAt w s c) (hl : c.length ≤ 60) (hs : IntsAt w ss g.s) (hgl : g.s.length ≤ 9223372036854775807) :
  Calls Tryz.prog 141 #[pv V F s c cap, gv g ss gc] w fun e w' => e = .returned (.int .i64 (ckGs c g)) ∧ Below w.heap.size w w' := by
 have P0 : PrAt (pgW w V F s c cap g ss gc) w.heap.size V F s c cap := (PrAt.new w V F s c cap).alloc _
 have G0 : GuAt (pgW w V F s c cap g ss gc) (w.heap.size + 1) 0 g ss gc := by
  have := GuAt.new (w.alloc (.cells #[.int .i64 V, .int .i64 F, .slice s c.length cap] 24)) g ss gc
  simpa using this
 have C0 : CodeAt (pgW w V F s c cap g ss gc) s c := (hc.alloc _).alloc _
 have I0 : IntsAt (pgW w V F s c cap g ss gc) ss g.s := (hs.alloc _).alloc _
 have B0 : Below w.heap.size w (pgW w V F s c cap g ss gc) := by go_grown
 have HR : Hid (ckGs c g = if ckSp g.sp ≠ 0 then ckSp g.sp else if g.s.all (isSite c) = false then 5 else if rising g.s = false then 4 else 0) := rfl
 go_enter Tryz.func141, Tryz.ntmps141
 go_wp2_with (go_at_call 161; fail)
 refine (check_any g.sp _).mono ?_
 rintro e w1 ⟨rfl, hb1⟩
 have P1 := P0.call hb1
 have G1 := G0.call hb1
 have C1 := C0.call hb1
 have I1 := I0.call hb1
 have B1 : Below w.heap.size w w1 := B0.trans (hb1.mono (by simp; omega))
 clear hb1 P0 G0 C0 I0 B0 hc hs
 by_cases hsp : ckSp g.sp = 0
 ·obtain ⟨⟨g0, g1, g2, g3, g4, g5, g6⟩, gz⟩ := id G1
  rw [hsp]
  go_wp2_with (go_at_call 118; fail)
  refine (containsFunc_home w.heap.size (fun x => !isSite c x) ss gc g.s _ hgl I1 fun x wx hbx => homeless_any x w.heap.size V F s c cap wx (P1.call hbx) (C1.call hbx) hl).mono ?_
  rintro e w2 ⟨rfl, hb2⟩
  rw [any_not_all]
  have G2 := G1.call hb2
  have I2 := I1.call hb2
  have B2 : Below w.heap.size w w2 := B1.trans (hb2.mono B1.size)
  clear hb2 P1 G1 C1 I1 B1 g0 g1 g2 g3 g4 g5 g6 gz
  obtain ⟨⟨g0, g1, g2, g3, g4, g5, g6⟩, gz⟩ := id G2
  cases hA : g.s.all (isSite c) with
  | false =>
   have HF : Hid (ckGs c g = 5) := by show _ = _; rw [HR.out, if_neg (by simpa using hsp), if_pos hA]
   clear HR
   go_wp2
   go_ret
   exact ⟨ret_int HF.out.symm, B2⟩
  | true =>
   have HF : Hid (ckGs c g = if rising g.s = false then 4 else 0) := by show _ = _; rw [HR.out, if_neg (by simpa using hsp), if_neg (by simp [hA])]
   have HQ := hideH (rising_iff g.s)
   clear HR
   go_wp2
   go_loopw [7] (fun i wr => ∃ k : Nat, 1 ≤ k ∧ i = .int .i64 k ∧ k ≤ g.s.length + 1 ∧ wr.cell? ⟨w.heap.size + 1, 6, none⟩ = some (.slice ss g.s.length gc) ∧ IntsAt wr ss g.s ∧ Below w.heap.size w wr ∧ Hid (∀ j (h : j + 1 < g.s.length), j + 1 < k → g.s[j] < g.s[j + 1])) (fun i _ => g.s.length + 1 - (intOf i).toNat)
   case atStart => exact ⟨1, Nat.le_refl _, rfl, by omega, g6, I2, B2, fun j h h' => by omega⟩
   case round =>
    obtain ⟨k, hk1, rfl, hk2, r6, IR, BR, HK⟩ := hrel
    by_cases hlt : k < g.s.length
    ·obtain ⟨b, off, rfl, hb, hcell⟩ := IR.get k hlt
     have c0 := hcell (k - 1) (by omega)
     have c1 := hcell k hlt
     have t1 : ((k : Int) - 1).toNat = k - 1 := by omega
     have n0 : (0 : Int) ≤ (k : Int) - 1 := by omega
     have n1 : (k : Int) - 1 < (g.s.length : Int) := by omega
     have n2 : (0 : Int) ≤ (k : Int) := by omega
     have n3 : (k : Int) < (g.s.length : Int) := by omega
     clear hcell
     by_cases hr : g.s[k - 1] < g.s[k]
     ·go_wp2
      go_quiet (fail)
      go_wp2
      go_roundw
      case rel =>
       refine ⟨k + 1, by omega, by go_num, by omega, ?_, IR.drewN _, below_drewN BR _, fun j h h' => ?_⟩
       ·rw [← r6]; exact (below_drewN (Below.refl (wr.heap.size + (w.heap.size + 2)) wr) _).cell (by simp; omega)
       ·by_cases e : j + 1 = k
        ·subst e; exact hr
        ·exact HK.out j h (by omega)
      case measure => simp [intOf]; omega
     ·have HG : Hid (rising g.s = false) := by
       show _ = _
       rw [Bool.eq_false_iff]
       intro hx
       have := HQ.out.1 hx (k - 1) (by omega)
       have e : k - 1 + 1 = k := by omega
       simp only [e] at this
       exact hr this
      clear HQ
      go_wp2
      go_quiet (fail)
      go_wp2
      go_ret
      exact ⟨ret_int (by rw [HF.out, if_pos HG.out]), below_drewN BR _⟩
    ·go_wp2
     go_ret
     refine ⟨ret_int ?_, BR⟩
     rw [HF.out, if_neg]
     have : rising g.s = true := HQ.out.2 fun j h => HK.out j h (by omega)
     simp [this]
 ·have HF : Hid (ckGs c g = ckSp g.sp) := by show _ = _; rw [HR.out, if_pos hsp]
  have hne : (ckSp g.sp != 0) = true := by simpa using hsp
  clear HR
  go_wp2
  go_ret
  exact ⟨ret_int HF.out.symm, B1⟩
end
section
set_option maxHeartbeats 2000000
set_option maxRecDepth 100000
open Go.RowKit

theorem prf_933d6b {p : Prop} (h : p := by
 go_enter Tryz.func39, Tryz.ntmps39
 go_wp2_with (first
  | (go_at_call 38; refine (between_any _ _ _ _).mono ?_; rintro e w' ⟨rfl, rfl⟩)
  | (go_at_call 74; refine (namesTo_any _ _).mono ?_; rintro e w' ⟨rfl, rfl⟩)
  | (go_at_call 22; refine (namesA_any _ _).mono ?_; rintro e w' ⟨rfl, rfl⟩)
  | (go_at_call 23; refine (namesB_any _ _).mono ?_; rintro e w' ⟨rfl, rfl⟩)
  | (go_at_call 76; refine (namesN_any _ _).mono ?_; rintro e w' ⟨rfl, rfl⟩)
  | (go_at_call 75; refine (namesGoto_any _ _).mono ?_; rintro e w' ⟨rfl, rfl⟩)
  | (go_at_call 73; refine (word_any _ _).mono ?_; rintro e w1 ⟨rfl, hb1⟩; obtain ⟨hc1, hf1⟩ := bcell hb1))
 all_goals clear hc1 hf1
 all_goals go_ret
 all_goals exact ⟨ret_int (by simp_all [ckOne, btw19]), Below.trans (by go_grown) (hb1.mono (by go_size))⟩) : p := h
theorem checkOne_1 (V F : Int) (s : Option Addr) (len cap : Nat) (tto a b n g : Int) (w : World) (_hV : 1 ≤ V) (_hV' : V ≤ 8) (_hF : 0 ≤ F) (_hF' : F ≤ 3) (_hL : len ≤ 60) :
  Calls Tryz.prog 39 #[.agg #[.int .i64 V, .int .i64 F, .slice s len cap], .agg #[.int .i64 1, .int .i64 tto, .int .i64 a, .int .i64 b, .int .i64 n, .int .i64 g]] w fun e w' => e = .returned (.int .i64 (ckOne V F len ⟨1, tto, a, b, n, g⟩)) ∧ Below w.heap.size w w' := by
 have t0 : (wordB 1).toList.isEmpty = false := by rw [ByteArray.toList_eq]; rfl
 have t1 : nTo 1 = true := rfl
 have t2 : nA 1 = false := rfl
 have t3 : nB 1 = false := rfl
 have t4 : nN 1 = true := rfl
 have t5 : nG 1 = false := rfl
 exact prf_933d6b

theorem checkOne_2 (V F : Int) (s : Option Addr) (len cap : Nat) (tto a b n g : Int) (w : World) (_hV : 1 ≤ V) (_hV' : V ≤ 8) (_hF : 0 ≤ F) (_hF' : F ≤ 3) (_hL : len ≤ 60) :
  Calls Tryz.prog 39 #[.agg #[.int .i64 V, .int .i64 F, .slice s len cap], .agg #[.int .i64 2, .int .i64 tto, .int .i64 a, .int .i64 b, .int .i64 n, .int .i64 g]] w fun e w' => e = .returned (.int .i64 (ckOne V F len ⟨2, tto, a, b, n, g⟩)) ∧ Below w.heap.size w w' := by
 have t0 : (wordB 2).toList.isEmpty = false := by rw [ByteArray.toList_eq]; rfl
 have t1 : nTo 2 = true := rfl
 have t2 : nA 2 = false := rfl
 have t3 : nB 2 = false := rfl
 have t4 : nN 2 = true := rfl
 have t5 : nG 2 = false := rfl
 exact prf_933d6b

theorem checkOne_3 (V F : Int) (s : Option Addr) (len cap : Nat) (tto a b n g : Int) (w : World) (_hV : 1 ≤ V) (_hV' : V ≤ 8) (_hF : 0 ≤ F) (_hF' : F ≤ 3) (_hL : len ≤ 60) :
  Calls Tryz.prog 39 #[.agg #[.int .i64 V, .int .i64 F, .slice s len cap], .agg #[.int .i64 3, .int .i64 tto, .int .i64 a, .int .i64 b, .int .i64 n, .int .i64 g]] w fun e w' => e = .returned (.int .i64 (ckOne V F len ⟨3, tto, a, b, n, g⟩)) ∧ Below w.heap.size w w' := by
 have t0 : (wordB 3).toList.isEmpty = false := by rw [ByteArray.toList_eq]; rfl
 have t1 : nTo 3 = true := rfl
 have t2 : nA 3 = false := rfl
 have t3 : nB 3 = false := rfl
 have t4 : nN 3 = false := rfl
 have t5 : nG 3 = false := rfl
 exact prf_933d6b

theorem checkOne_4 (V F : Int) (s : Option Addr) (len cap : Nat) (tto a b n g : Int) (w : World) (_hV : 1 ≤ V) (_hV' : V ≤ 8) (_hF : 0 ≤ F) (_hF' : F ≤ 3) (_hL : len ≤ 60) :
  Calls Tryz.prog 39 #[.agg #[.int .i64 V, .int .i64 F, .slice s len cap], .agg #[.int .i64 4, .int .i64 tto, .int .i64 a, .int .i64 b, .int .i64 n, .int .i64 g]] w fun e w' => e = .returned (.int .i64 (ckOne V F len ⟨4, tto, a, b, n, g⟩)) ∧ Below w.heap.size w w' := by
 have t0 : (wordB 4).toList.isEmpty = false := by rw [ByteArray.toList_eq]; rfl
 have t1 : nTo 4 = true := rfl
 have t2 : nA 4 = true := rfl
 have t3 : nB 4 = false := rfl
 have t4 : nN 4 = false := rfl
 have t5 : nG 4 = false := rfl
 exact prf_933d6b

theorem checkOne_19 (V F : Int) (s : Option Addr) (len cap : Nat) (tto a b n g : Int) (w : World) (_hV : 1 ≤ V) (_hV' : V ≤ 8) (_hF : 0 ≤ F) (_hF' : F ≤ 3) (_hL : len ≤ 60) :
  Calls Tryz.prog 39 #[.agg #[.int .i64 V, .int .i64 F, .slice s len cap], .agg #[.int .i64 19, .int .i64 tto, .int .i64 a, .int .i64 b, .int .i64 n, .int .i64 g]] w fun e w' => e = .returned (.int .i64 (ckOne V F len ⟨19, tto, a, b, n, g⟩)) ∧ Below w.heap.size w w' := by
 have t0 : (wordB 19).toList.isEmpty = false := by rw [ByteArray.toList_eq]; rfl
 have t1 : nTo 19 = false := rfl
 have t2 : nA 19 = false := rfl
 have t3 : nB 19 = false := rfl
 have t4 : nN 19 = false := rfl
 have t5 : nG 19 = false := rfl
 exact prf_933d6b
end
end Go.Proofs.YtmapdpcfanecdabGreat
