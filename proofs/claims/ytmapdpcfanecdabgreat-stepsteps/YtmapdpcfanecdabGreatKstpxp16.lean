/- Walks over package span: what is reckoned: mul. -/
import Derived.Test.YtmapdpcfanecdabGreatKstpxp11
import Derived.Test.YtmapdpcfanecdabGreatKstpxp15
import Derived.Test.YtmapdpcfanecdabGreatKstpxp09
import Derived.Deep.RegionHeld3
import Derived.Deep.DrawnRows
import Derived.Test.YtmapdpcfanecdabGreatKstpxp01
import Derived.Deep.QuietTactic
import Derived.BigQuiet
import Derived.Test.YtmapdpcfanecdabGreatKstpxp07
import Derived.Lib.MinMax
set_option linter.unusedSimpArgs false
set_option linter.unusedVariables false
namespace Go.Proofs.YtmapdpcfanecdabGreat
section
set_option maxHeartbeats 1000000
open Go.RowKit

theorem isSite_any (V F : Int) (s : Option Addr) (c : List Ins) (cap : Nat) (x : Int) (w : World) (hc : CodeAt w s c) (hl : c.length ≤ 60) :
  Calls Tryz.prog 56 #[pv V F s c cap, .int .i64 x] w fun e w' => e = .returned (.bool (isSite c x)) ∧ Below w.heap.size w w' := by
 have hl' : (c.length : Int) ≤ 60 := by omega
 by_cases hx : 0 ≤ x ∧ x ≤ (c.length : Int) - 1
 ·have hb := btw_true hx.1 hx.2
  obtain ⟨k, rfl⟩ := Int.eq_ofNat_of_zero_le hx.1
  have hk : k < c.length := by omega
  have CA := hc.alloc (.cells #[.int .i64 V, .int .i64 F, .slice s c.length cap] 24)
  obtain ⟨b, off, rfl, hbl, hi⟩ := CA.get k hk
  obtain ⟨i0, -, -, -, -, -⟩ := hi k hk
  have HR : Hid (isSite c k = decide (c[k].k = 11)) := by
   show _ = _
   unfold isSite
   rw [decide_eq_true (show (0 : Int) ≤ (k : Int) by omega), decide_eq_true (show (k : Int) < (c.length : Int) by omega), Int.toNat_natCast, show c.getD k ⟨0, 0, 0, 0, 0, 0⟩ = c[k] by simp [List.getD, List.getElem?_eq_getElem hk]]
   simp
  have n0 : (0 : Int) ≤ (k : Int) := by omega
  have n1 : (k : Int) < (c.length : Int) := by omega
  clear hi hc CA hx
  go_enter Tryz.func56, Tryz.ntmps56
  go_wp2_with (go_at_call 38; fail)
  refine (between_any _ _ _ _).mono ?_
  rintro e w1 ⟨rfl, rfl⟩
  rw [hb]
  go_wp2
  go_ret
  exact ⟨ret_bool (by rw [HR.out]; first | rfl | (simp; done) | exact (Bool.beq_eq_decide_eq _ _)), by go_grown⟩
 ·have hb : btw x 0 ((c.length : Int) - 1) = false := by simp [btw]; omega
  have HR : Hid (isSite c x = false) := by
   show _ = _
   unfold isSite
   by_cases h0 : 0 ≤ x
   ·rw [decide_eq_false (show ¬ x < (c.length : Int) by omega)]; simp
   ·rw [decide_eq_false h0]; rfl
  clear hc hx
  go_enter Tryz.func56, Tryz.ntmps56
  go_wp2_with (go_at_call 38; fail)
  refine (between_any _ _ _ _).mono ?_
  rintro e w1 ⟨rfl, rfl⟩
  rw [hb]
  go_wp2
  go_ret
  exact ⟨ret_bool (by rw [HR.out]), by go_grown⟩

theorem hasR_any (x : Int) (ss : Option Addr) (cap : Nat) (l : List Int) (w : World) (hl : l.length ≤ 9223372036854775807) (hs : IntsAt w ss l) :
  Calls Tryz.prog 59 #[.slice ss l.length cap, .int .i64 x] w fun e w' => e = .returned (.bool (l.contains x)) ∧ w' = w := by
 have HX : Hid (l.contains x = decide (x ∈ l)) := by show _ = _; simp
 generalize l.contains x = r at *
 go_enter Tryz.func59, Tryz.ntmps59
 go_wp2
 go_loop [5] (fun i => ∃ k : Nat, k ≤ l.length ∧ i = .int .i64 k ∧ Hid (x ∈ l ↔ x ∈ l.drop k)) (fun i => l.length - (intOf i).toNat)
 case atStart => exact ⟨0, Nat.zero_le _, rfl, Iff.rfl⟩
 case round =>
  obtain ⟨k, hk, rfl, HA⟩ := hrel
  by_cases hlt : k < l.length
  ·obtain ⟨b, off, rfl, hb, hc⟩ := hs.get k hlt
   have n0 : (0 : Int) ≤ (k : Int) := by omega
   have n1 : (k : Int) < (l.length : Int) := by omega
   have c0 := hc k hlt
   have HN : Hid (x ∈ l.drop k ↔ (x = l[k] ∨ x ∈ l.drop (k + 1))) := indexI_le l x k hlt
   clear hc hs
   by_cases hp : l[k] = x
   ·have HT : Hid (x ∈ l) := HA.out.2 (HN.out.2 (.inl hp.symm))
    clear HN HA
    have hp' : (l[k] == x) = true := by simp [hp]
    go_wp2
    go_ret
    exact ⟨ret_bool (by rw [HX.out]; exact (decide_eq_true HT.out).symm), rfl⟩
   ·have HT : Hid (x ∈ l ↔ x ∈ l.drop (k + 1)) := HA.out.trans (HN.out.trans ⟨fun h => h.resolve_left fun e => hp e.symm, .inr⟩)
    have hp' : (l[k] == x) = false := by simpa using hp
    clear HN HA
    go_wp2
    go_round
    case rel => exact ⟨k + 1, by omega, by go_num, HT⟩
    case measure => simp [intOf]; omega
  ·go_wp2
   go_ret
   exact ⟨ret_bool (by rw [HX.out]; exact (decide_eq_false fun h => by have := HA.out.1 h; rw [List.drop_eq_nil_of_le (by omega)] at this; cases this).symm), rfl⟩
end
section
set_option maxHeartbeats 4000000
set_option maxRecDepth 10000
open Go.RowKit

theorem checkGuess_any (V F : Int) (s : Option Addr) (c : List Ins) (cap : Nat) (g : Gs) (ss : Option Addr) (gc : Nat) (w : World) (hc : CodeAt w s c) (hl : c.length ≤ 60) (hs : IntsAt w ss g.s) (hgl : g.s.length ≤ 9223372036854775807) :
  Calls Tryz.prog 55 #[pv V F s c cap, gv g ss gc] w fun e w' => e = .returned (.int .i64 (ckGs c g)) ∧ Below w.heap.size w w' := by
 have P0 : PrAt (pgW w V F s c cap g ss gc) w.heap.size V F s c cap := (PrAt.new w V F s c cap).alloc _
 have G0 : GuAt (pgW w V F s c cap g ss gc) (w.heap.size + 1) 0 g ss gc := by
  have := GuAt.new (w.alloc (.cells #[.int .i64 V, .int .i64 F, .slice s c.length cap] 24)) g ss gc
  simpa using this
 have C0 : CodeAt (pgW w V F s c cap g ss gc) s c := (hc.alloc _).alloc _
 have I0 : IntsAt (pgW w V F s c cap g ss gc) ss g.s := (hs.alloc _).alloc _
 have B0 : Below w.heap.size w (pgW w V F s c cap g ss gc) := by go_grown
 have HR : Hid (ckGs c g = if ckSp g.sp ≠ 0 then ckSp g.sp else if g.s.all (isSite c) = false then 5 else if rising g.s = false then 4 else 0) := rfl
 go_enter Tryz.func55, Tryz.ntmps55
 go_wp2_with (go_at_call 93; fail)
 refine (checkSpan_any g.sp _).mono ?_
 rintro e w1 ⟨rfl, hb1⟩
 have P1 := P0.call hb1
 have G1 := G0.call hb1
 have C1 := C0.call hb1
 have I1 := I0.call hb1
 have B1 : Below w.heap.size w w1 := B0.trans (hb1.mono (by simp; omega))
 clear hb1 P0 G0 C0 I0 B0 hc hs
 by_cases hsp : ckSp g.sp = 0
 ·have HF0 : Hid (ckGs c g = if g.s.all (isSite c) = false then 5 else if rising g.s = false then 4 else 0) := by show _ = _; rw [HR.out, if_neg (by simpa using hsp)]
  rw [hsp]
  clear HR
  go_wp2
  go_loopw [6] (fun i wr => ∃ k : Nat, k ≤ g.s.length ∧ i = .int .i64 k ∧ PrAt wr w.heap.size V F s c cap ∧ GuAt wr (w.heap.size + 1) 0 g ss gc ∧ CodeAt wr s c ∧ IntsAt wr ss g.s ∧ Below w.heap.size w wr ∧ Hid (∀ j (h : j < g.s.length), j < k → isSite c g.s[j] = true)) (fun i _ => g.s.length - (intOf i).toNat)
  case atStart => exact ⟨0, Nat.zero_le _, rfl, P1, G1, C1, I1, B1, fun j h h' => by omega⟩
  case round =>
   obtain ⟨k, hk, rfl, PR, GR, CR, IR, BR, HK⟩ := hrel
   clear P1 G1 C1 I1 B1
   obtain ⟨⟨p0, p1, p2⟩, p3⟩ := id PR
   obtain ⟨⟨g0, g1, g2, g3, g4, g5, g6⟩, gz⟩ := id GR
   simp only [Nat.zero_add] at g0 g1 g2 g3 g4 g5 g6
   by_cases hlt : k < g.s.length
   ·obtain ⟨b, off, rfl, hb, hcell⟩ := IR.get k hlt
    have c0 := hcell k hlt
    have n0 : (0 : Int) ≤ (k : Int) := by omega
    have n1 : (k : Int) < (g.s.length : Int) := by omega
    have KS : ∀ wx, Below wr.heap.size wr wx → (wx.cell? ⟨w.heap.size, 0, none⟩ = some (.int .i64 V) ∧ wx.cell? ⟨w.heap.size, 1, none⟩ = some (.int .i64 F) ∧ wx.cell? ⟨w.heap.size, 2, none⟩ = some (.slice s c.length cap)) ∧ wx.cell? ⟨w.heap.size + 1, 6, none⟩ = some (.slice (some ⟨b, off, none⟩) g.s.length gc) ∧ wx.cell? ⟨b, off + k, none⟩ = some (.int .i64 g.s[k]) := by
     intro wx hbx
     rw [hbx.cell (by simpa using p3), hbx.cell (by simpa using p3), hbx.cell (by simpa using p3), hbx.cell (by simpa using gz), hbx.cell (by simpa using hb)]
     exact ⟨⟨p0, p1, p2⟩, g6, c0⟩
    clear hcell
    go_wp2
    go_region_held3 (fun wx => (wx.cell? ⟨w.heap.size, 0, none⟩ = some (.int .i64 V) ∧ wx.cell? ⟨w.heap.size, 1, none⟩ = some (.int .i64 F) ∧ wx.cell? ⟨w.heap.size, 2, none⟩ = some (.slice s c.length cap)) ∧ wx.cell? ⟨w.heap.size + 1, 6, none⟩ = some (.slice (some ⟨b, off, none⟩) g.s.length gc) ∧ wx.cell? ⟨b, off + k, none⟩ = some (.int .i64 g.s[k]))
     (first | with_reducible exact KS _ (Below.refl _ _).drew | with_reducible exact KS _ HB)
     ((go_at_call 56; refine (isSite_any V F s c cap g.s[k] _ (CR.call (Below.refl _ _).drew) hl).mono ?_; rintro e w2 ⟨rfl, hb2⟩; have HB : Below wr.heap.size wr w2 := (Below.refl _ _).drew.trans (hb2.mono (Nat.le_refl _))))
    have P2 := PR.call HB
    have G2 := GR.call HB
    have C2 := CR.call HB
    have I2 := IR.call HB
    have B2 := BR.trans (HB.mono BR.size)
    clear hb2 PR GR CR IR BR HB KS p0 p1 p2 g0 g1 g2 g3 g4 g5 g6
    cases hS : isSite c g.s[k] with
    | true =>
     go_wp2
     go_roundw
     case rel =>
      refine ⟨k + 1, by omega, by go_num, P2, G2, C2, I2, B2, fun j h h' => ?_⟩
      by_cases e : j = k
      ·subst e; exact hS
      ·exact HK.out j h (by omega)
     case measure => simp [intOf]; omega
    | false =>
     have HF : Hid (ckGs c g = 5) := by
      show _ = _
      rw [HF0.out, if_pos]
      rw [Bool.eq_false_iff]
      intro hx
      have := List.all_eq_true.1 hx g.s[k] (List.getElem_mem _)
      rw [hS] at this
      cases this
     go_wp2
     go_ret
     exact ⟨ret_int HF.out.symm, B2⟩
   ·have hall : g.s.all (isSite c) = true := by
     rw [List.all_eq_true]
     intro x hx
     obtain ⟨j, hj, rfl⟩ := List.getElem_of_mem hx
     exact HK.out j hj (by omega)
    have HF : Hid (ckGs c g = if rising g.s = false then 4 else 0) := by show _ = _; rw [HF0.out, if_neg (by simp [hall])]
    have HQ := hideH (rising_iff g.s)
    clear HF0 hall HK
    go_wp2
    go_loopw [7] (fun i wx => ∃ k : Nat, 1 ≤ k ∧ i = .int .i64 k ∧ k ≤ g.s.length + 1 ∧ wx.cell? ⟨w.heap.size + 1, 6, none⟩ = some (.slice ss g.s.length gc) ∧ w.heap.size + 1 < wx.heap.size ∧ IntsAt wx ss g.s ∧ Below w.heap.size w wx ∧ Hid (∀ j (h : j + 1 < g.s.length), j + 1 < k → g.s[j] < g.s[j + 1])) (fun i _ => g.s.length + 1 - (intOf i).toNat)
    case atStart => exact ⟨1, Nat.le_refl _, rfl, by omega, g6, gz, IR, BR, fun j h h' => by omega⟩
    case round =>
     obtain ⟨q, hk1, rfl, hk2, r6, rz, IX, BX, HX⟩ := hrel
     clear PR GR CR IR BR p0 p1 p2 g0 g1 g2 g3 g4 g5 g6
     by_cases hlq : q < g.s.length
     ·obtain ⟨b, off, rfl, hb, hcell⟩ := IX.get q hlq
      have c0 := hcell (q - 1) (by omega)
      have c1 := hcell q hlq
      have t1 : ((q : Int) - 1).toNat = q - 1 := by omega
      have n0 : (0 : Int) ≤ (q : Int) - 1 := by omega
      have n1 : (q : Int) - 1 < (g.s.length : Int) := by omega
      have n2 : (0 : Int) ≤ (q : Int) := by omega
      have n3 : (q : Int) < (g.s.length : Int) := by omega
      clear hcell
      by_cases hr : g.s[q - 1] < g.s[q]
      ·go_wp2
       go_quiet (fail)
       go_wp2
       go_roundw
       case rel =>
        refine ⟨q + 1, by omega, by go_num, by omega, ?_, ?_, IX.drewN _, below_drewN BX _, fun j h h' => ?_⟩
        ·rw [← r6]; exact (below_drewN (Below.refl (w.heap.size + 2) _) _).cell (by simp)
        ·exact Nat.lt_of_lt_of_le rz (below_drewN (Below.refl (w.heap.size + 2) _) _).size
        ·by_cases e : j + 1 = q
         ·subst e; exact hr
         ·exact HX.out j h (by omega)
       case measure => simp [intOf]; omega
      ·have HG : Hid (rising g.s = false) := by
        show _ = _
        rw [Bool.eq_false_iff]
        intro hx
        have := HQ.out.1 hx (q - 1) (by omega)
        have e : q - 1 + 1 = q := by omega
        simp only [e] at this
        exact hr this
       clear HQ
       go_wp2
       go_quiet (fail)
       go_wp2
       go_ret
       exact ⟨ret_int (by rw [HF.out, if_pos HG.out]), below_drewN BX _⟩
     ·go_wp2
      go_ret
      refine ⟨ret_int ?_, BX⟩
      rw [HF.out, if_neg]
      have : rising g.s = true := HQ.out.2 fun j h => HX.out j h (by omega)
      simp [this]
 ·have HF : Hid (ckGs c g = ckSp g.sp) := by show _ = _; rw [HR.out, if_pos hsp]
  have hne : (ckSp g.sp != 0) = true := by simpa using hsp
  clear HR
  go_wp2
  go_ret
  exact ⟨ret_int HF.out.symm, B1⟩
end
section
set_option maxHeartbeats 1000000
open Go.RowKit

theorem sameInts_loop (b1 o1 c1 b2 o2 c2 : Nat) (l : List Int) (w : World) (h63 : l.length ≤ maxLen) (b1lt : b1 < w.heap.size) (b2lt : b2 < w.heap.size)
  (h1 : ∀ k (h : k < l.length), w.cell? ⟨b1, o1 + k, none⟩ = some (.int .i64 l[k])) (h2 : ∀ k (h : k < l.length), w.cell? ⟨b2, o2 + k, none⟩ = some (.int .i64 l[k])) :
  Calls Tryz.prog 129 #[.slice (some ⟨b1, o1, none⟩) l.length c1, .slice (some ⟨b2, o2, none⟩) l.length c2] w fun e w' => e = .returned (.bool true) ∧ Below w.heap.size w w' := by
 unfold maxLen at h63
 go_enter Tryz.func129, Tryz.ntmps129
 go_wp2
 go_loopw [5] (fun i wr => ∃ k : Nat, k ≤ l.length ∧ i = .int .i64 k ∧ Below w.heap.size w wr) (fun i _ => l.length - (intOf i).toNat)
 case atStart => exact ⟨0, Nat.zero_le _, rfl, Below.refl _ _⟩
 case round =>
  obtain ⟨k, hk, rfl, hb⟩ := hrel
  by_cases hlt : k < l.length
  ·have n0 : (0 : Int) ≤ (k : Int) := by omega
   have n1 : (k : Int) < (l.length : Int) := by omega
   have q0 : wr.cell? ⟨b1, o1 + k, none⟩ = some (.int .i64 l[k]) := by rw [hb.cell (p := ⟨b1, _, none⟩) b1lt]; exact h1 k hlt
   have r0 : wr.cell? ⟨b2, o2 + k, none⟩ = some (.int .i64 l[k]) := by rw [hb.cell (p := ⟨b2, _, none⟩) b2lt]; exact h2 k hlt
   clear h1 h2
   go_wp2
   go_quiet (fail)
   go_wp2
   go_roundw
   case rel => exact ⟨k + 1, by omega, by go_num, below_drewN hb _⟩
   case measure => simp [intOf]; omega
  ·go_wp2
   go_ret
   exact ⟨rfl, hb⟩

theorem sameInts_nil (s1 s2 : Option Addr) (c1 c2 : Nat) (w : World) :
  Calls Tryz.prog 129 #[.slice s1 0 c1, .slice s2 0 c2] w fun e w' => e = .returned (.bool true) ∧ Below w.heap.size w w' := by
 go_enter Tryz.func129, Tryz.ntmps129
 go_wp2
 go_rounds 1
 go_ret
 exact ⟨rfl, Below.refl _ _⟩

theorem sameInts_any (s1 s2 : Option Addr) (c1 c2 : Nat) (l : List Int) (w : World) (h63 : l.length ≤ maxLen) (h1 : IntsAt w s1 l) (h2 : IntsAt w s2 l) :
  Calls Tryz.prog 129 #[.slice s1 l.length c1, .slice s2 l.length c2] w fun e w' => e = .returned (.bool true) ∧ Below w.heap.size w w' := by
 rcases h1 with rfl | ⟨b1, o1, rfl, hb1, h1⟩
 ·exact sameInts_nil s1 s2 c1 c2 w
 ·rcases h2 with rfl | ⟨b2, o2, rfl, hb2, h2⟩
  ·exact sameInts_nil _ s2 c1 c2 w
  ·exact sameInts_loop b1 o1 c1 b2 o2 c2 l w h63 hb1 hb2 h1 h2
end
section
set_option maxHeartbeats 1000000
open Go.RowKit

theorem joinSpan_n (s t : Sp) (b : Bool) (w : World) (h : (s.n || t.n) = true) :
  Calls Tryz.prog 58 #[sv s, sv t, .bool b] w fun e w' => e = .returned (sv (joinSp s t)) ∧ Below w.heap.size w w' := by
 obtain ⟨n, lo, hi⟩ := s
 obtain ⟨n', lo', hi'⟩ := t
 cases n with
 | true =>
  go_enter Tryz.func58, Tryz.ntmps58
  go_wp2
  go_returns
  exact ⟨rfl, by go_grown⟩
 | false =>
  cases n' with
  | true =>
   go_enter Tryz.func58, Tryz.ntmps58
   go_wp2
   go_returns
   exact ⟨rfl, by go_grown⟩
  | false => exact absurd h (by simp)
end
section
set_option maxHeartbeats 1000000
open Go.RowKit

@[go_sem] theorem run_min4 {P : Program} (w : World) (ts : Array TypeId) (t : TypeId) (a b c d : Int) :
  (Builtin.min_ ts t #[.int .i64 a, .int .i64 b, .int .i64 c, .int .i64 d]).run P w = .ok (.int .i64 (min4 a b c d)) w := by
 have e : ∀ x y : Int, (if y < x then y else x) = min x y := fun x y => by split <;> omega
 simp [Builtin.min_, Builtin.min2, e, min4]

@[go_sem] theorem run_max4 {P : Program} (w : World) (ts : Array TypeId) (t : TypeId) (a b c d : Int) :
  (Builtin.max_ ts t #[.int .i64 a, .int .i64 b, .int .i64 c, .int .i64 d]).run P w = .ok (.int .i64 (max4 a b c d)) w := by
 have e : ∀ x y : Int, (if x < y then y else x) = max x y := fun x y => by split <;> omega
 simp [Builtin.max_, Builtin.max2, e, max4]

theorem reckon_none (F : Nat) (s t : Sp) (w : World) (h : (s.n || t.n) = true) :
  Calls Tryz.prog 145 #[sv s, sv t, .func (.func F) #[] #[]] w fun e w' => e = .returned (sv ⟨true, 0, 0⟩) ∧ Below w.heap.size w w' := by
 obtain ⟨n, lo, hi⟩ := s
 obtain ⟨n', lo', hi'⟩ := t
 cases n with
 | true =>
  go_enter Tryz.func145, Tryz.ntmps145
  go_wp2_with (go_at_call 139; refine (none_eq _).mono ?_; rintro e w1 ⟨rfl, rfl⟩)
  go_returns
  exact ⟨rfl, by go_grown⟩
 | false =>
  cases n' with
  | true =>
   go_enter Tryz.func145, Tryz.ntmps145
   go_wp2_with (go_at_call 139; refine (none_eq _).mono ?_; rintro e w1 ⟨rfl, rfl⟩)
   go_returns
   exact ⟨rfl, by go_grown⟩
  | false => simp at h

theorem hull_in {a b c d : Int} (h1 : inNum (min4 a b c d)) (h2 : inNum (max4 a b c d)) : hull a b c d = ⟨false, min4 a b c d, max4 a b c d⟩ := if_pos ⟨h1, h2⟩
theorem hull_lo {a b c d : Int} (h1 : ¬ inNum (min4 a b c d)) : hull a b c d = ⟨false, -2147483648, 2147483647⟩ := if_neg (fun h => h1 h.1)
theorem hull_hi {a b c d : Int} (h1 : ¬ inNum (max4 a b c d)) : hull a b c d = ⟨false, -2147483648, 2147483647⟩ := if_neg (fun h => h1 h.2)
end
section
set_option maxHeartbeats 2000000
set_option maxRecDepth 100000
open Go.RowKit

theorem prf_af8970 {p : Prop} (h : p := by
 clear h1 h2 h3 h4
 go_enter Tryz.func145, Tryz.ntmps145
 go_wp2
 go_quiet (first | exact Calls.quiet_of (k1 _) | exact Calls.quiet_of (k2 _) | exact Calls.quiet_of (k3 _) | exact Calls.quiet_of (k4 _))
 clear k1 k2 k3 k4
 by_cases h1 : inNum (min4 a b c d)
 ·have e1 : decide (inNum (min4 a b c d)) = true := decide_eq_true h1
  by_cases h2 : inNum (max4 a b c d)
  ·have e2 : decide (inNum (max4 a b c d)) = true := decide_eq_true h2
   go_wp2_with (go_at_call 163; refine (beyond_any _ _).mono ?_; rintro e w' ⟨rfl, rfl⟩)
   go_returns
   exact ⟨ret_sp (hull_in h1 h2), by go_grown; exact below_drewN (by go_grown) _⟩
  ·have e2 : decide (inNum (max4 a b c d)) = false := decide_eq_false h2
   go_wp2_with (first | (go_at_call 163; refine (beyond_any _ _).mono ?_; rintro e w' ⟨rfl, rfl⟩) | (go_at_call 164; refine (all_eq _).mono ?_; rintro e w' ⟨rfl, rfl⟩))
   go_returns
   exact ⟨ret_sp (hull_hi h2), by go_grown; exact below_drewN (by go_grown) _⟩
 ·have e1 : decide (inNum (min4 a b c d)) = false := decide_eq_false h1
  go_wp2_with (first | (go_at_call 163; refine (beyond_any _ _).mono ?_; rintro e w' ⟨rfl, rfl⟩) | (go_at_call 164; refine (all_eq _).mono ?_; rintro e w' ⟨rfl, rfl⟩))
  go_returns
  exact ⟨ret_sp (hull_lo h1), by go_grown; exact below_drewN (by go_grown) _⟩) : p := h
theorem reckon_add (lo hi lo' hi' : Int) (w : World) (h1 : wrap64 (lo + lo') = lo + lo') (h2 : wrap64 (lo + hi') = lo + hi') (h3 : wrap64 (hi + lo') = hi + lo') (h4 : wrap64 (hi + hi') = hi + hi') :
  Calls Tryz.prog 145 #[sv ⟨false, lo, hi⟩, sv ⟨false, lo', hi'⟩, .func (.func 146) #[] #[]] w fun e w' => e = .returned (sv (hull (lo + lo') (lo + hi') (hi + lo') (hi + hi'))) ∧ Below w.heap.size w w' := by
 have k1 : ∀ w : World, Calls Tryz.prog 146 #[.int .i64 lo, .int .i64 lo'] w fun e w' => e = .returned (.int .i64 (lo + lo')) ∧ ∃ n, w' = w.drewN n := fun w => (add_any lo lo' w h1).mono (by rintro e w' ⟨rfl, rfl⟩; exact ⟨rfl, 0, rfl⟩)
 have k2 : ∀ w : World, Calls Tryz.prog 146 #[.int .i64 lo, .int .i64 hi'] w fun e w' => e = .returned (.int .i64 (lo + hi')) ∧ ∃ n, w' = w.drewN n := fun w => (add_any lo hi' w h2).mono (by rintro e w' ⟨rfl, rfl⟩; exact ⟨rfl, 0, rfl⟩)
 have k3 : ∀ w : World, Calls Tryz.prog 146 #[.int .i64 hi, .int .i64 lo'] w fun e w' => e = .returned (.int .i64 (hi + lo')) ∧ ∃ n, w' = w.drewN n := fun w => (add_any hi lo' w h3).mono (by rintro e w' ⟨rfl, rfl⟩; exact ⟨rfl, 0, rfl⟩)
 have k4 : ∀ w : World, Calls Tryz.prog 146 #[.int .i64 hi, .int .i64 hi'] w fun e w' => e = .returned (.int .i64 (hi + hi')) ∧ ∃ n, w' = w.drewN n := fun w => (add_any hi hi' w h4).mono (by rintro e w' ⟨rfl, rfl⟩; exact ⟨rfl, 0, rfl⟩)
 generalize lo + lo' = a at k1 ⊢
 generalize lo + hi' = b at k2 ⊢
 generalize hi + lo' = c at k3 ⊢
 generalize hi + hi' = d at k4 ⊢
 exact prf_af8970
end
section
set_option maxHeartbeats 2000000
set_option maxRecDepth 100000
open Go.RowKit

theorem reckon_sub (lo hi lo' hi' : Int) (w : World) (h1 : wrap64 (lo - lo') = lo - lo') (h2 : wrap64 (lo - hi') = lo - hi') (h3 : wrap64 (hi - lo') = hi - lo') (h4 : wrap64 (hi - hi') = hi - hi') :
  Calls Tryz.prog 145 #[sv ⟨false, lo, hi⟩, sv ⟨false, lo', hi'⟩, .func (.func 147) #[] #[]] w fun e w' => e = .returned (sv (hull (lo - lo') (lo - hi') (hi - lo') (hi - hi'))) ∧ Below w.heap.size w w' := by
 have k1 : ∀ w : World, Calls Tryz.prog 147 #[.int .i64 lo, .int .i64 lo'] w fun e w' => e = .returned (.int .i64 (lo - lo')) ∧ ∃ n, w' = w.drewN n := fun w => (sub_any lo lo' w h1).mono (by rintro e w' ⟨rfl, rfl⟩; exact ⟨rfl, 0, rfl⟩)
 have k2 : ∀ w : World, Calls Tryz.prog 147 #[.int .i64 lo, .int .i64 hi'] w fun e w' => e = .returned (.int .i64 (lo - hi')) ∧ ∃ n, w' = w.drewN n := fun w => (sub_any lo hi' w h2).mono (by rintro e w' ⟨rfl, rfl⟩; exact ⟨rfl, 0, rfl⟩)
 have k3 : ∀ w : World, Calls Tryz.prog 147 #[.int .i64 hi, .int .i64 lo'] w fun e w' => e = .returned (.int .i64 (hi - lo')) ∧ ∃ n, w' = w.drewN n := fun w => (sub_any hi lo' w h3).mono (by rintro e w' ⟨rfl, rfl⟩; exact ⟨rfl, 0, rfl⟩)
 have k4 : ∀ w : World, Calls Tryz.prog 147 #[.int .i64 hi, .int .i64 hi'] w fun e w' => e = .returned (.int .i64 (hi - hi')) ∧ ∃ n, w' = w.drewN n := fun w => (sub_any hi hi' w h4).mono (by rintro e w' ⟨rfl, rfl⟩; exact ⟨rfl, 0, rfl⟩)
 generalize lo - lo' = a at k1 ⊢
 generalize lo - hi' = b at k2 ⊢
 generalize hi - lo' = c at k3 ⊢
 generalize hi - hi' = d at k4 ⊢
 exact prf_af8970
end
section
set_option maxHeartbeats 2000000
set_option maxRecDepth 100000
open Go.RowKit

theorem reckon_mul (lo hi lo' hi' : Int) (w : World) (h1 : wrap64 (lo * lo') = lo * lo') (h2 : wrap64 (lo * hi') = lo * hi') (h3 : wrap64 (hi * lo') = hi * lo') (h4 : wrap64 (hi * hi') = hi * hi') :
  Calls Tryz.prog 145 #[sv ⟨false, lo, hi⟩, sv ⟨false, lo', hi'⟩, .func (.func 148) #[] #[]] w fun e w' => e = .returned (sv (hull (lo * lo') (lo * hi') (hi * lo') (hi * hi'))) ∧ Below w.heap.size w w' := by
 have k1 : ∀ w : World, Calls Tryz.prog 148 #[.int .i64 lo, .int .i64 lo'] w fun e w' => e = .returned (.int .i64 (lo * lo')) ∧ ∃ n, w' = w.drewN n := fun w => (mul_any lo lo' w h1).mono (by rintro e w' ⟨rfl, rfl⟩; exact ⟨rfl, 0, rfl⟩)
 have k2 : ∀ w : World, Calls Tryz.prog 148 #[.int .i64 lo, .int .i64 hi'] w fun e w' => e = .returned (.int .i64 (lo * hi')) ∧ ∃ n, w' = w.drewN n := fun w => (mul_any lo hi' w h2).mono (by rintro e w' ⟨rfl, rfl⟩; exact ⟨rfl, 0, rfl⟩)
 have k3 : ∀ w : World, Calls Tryz.prog 148 #[.int .i64 hi, .int .i64 lo'] w fun e w' => e = .returned (.int .i64 (hi * lo')) ∧ ∃ n, w' = w.drewN n := fun w => (mul_any hi lo' w h3).mono (by rintro e w' ⟨rfl, rfl⟩; exact ⟨rfl, 0, rfl⟩)
 have k4 : ∀ w : World, Calls Tryz.prog 148 #[.int .i64 hi, .int .i64 hi'] w fun e w' => e = .returned (.int .i64 (hi * hi')) ∧ ∃ n, w' = w.drewN n := fun w => (mul_any hi hi' w h4).mono (by rintro e w' ⟨rfl, rfl⟩; exact ⟨rfl, 0, rfl⟩)
 generalize lo * lo' = a at k1 ⊢
 generalize lo * hi' = b at k2 ⊢
 generalize hi * lo' = c at k3 ⊢
 generalize hi * hi' = d at k4 ⊢
 exact prf_af8970
end
end Go.Proofs.YtmapdpcfanecdabGreat
