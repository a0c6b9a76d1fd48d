/- Walks over the document's own answers: the check of a guess. -/
import Derived.Test.YtmapdpcfanecdaaGreatKpicxp02
import Derived.Test.YtmapdpcfanecdaaGreatKpicxp15
import Derived.Test.YtmapdpcfanecdaaGreatKpicxp10
import Derived.Deep.RegionHeld3
import Derived.Deep.DrawnRows
namespace Go.Proofs.YtmapdpcfanecdaaGreat
set_option linter.unusedVariables false
set_option linter.unusedSimpArgs false
open Go.RowKit

set_option maxHeartbeats 1000000 in
theorem checkSpan_any (s : Sp) (w : World) :
    Calls Tryz.prog 92 #[sv s] w fun e w' => e = .returned (.int .i64 (ckSp s)) ∧ Below w.heap.size w w' := by
  obtain ⟨n, lo, hi⟩ := s
  have e0 : ckSp ⟨n, lo, hi⟩ = if ¬ (inNum lo ∧ inNum hi) then 3 else if n = true ∧ ¬ (lo = 0 ∧ hi = 0) then 1 else if hi < lo then 4 else 0 := rfl
  rw [e0]
  clear e0
  by_cases h : inNum lo
  · have b1 : btw lo (-2147483648) 2147483647 = true := decide_eq_true h
    by_cases h' : inNum hi
    · have b2 : btw hi (-2147483648) 2147483647 = true := decide_eq_true h'
      rw [if_neg (by simp [h, h'])]
      clear h h'
      cases n with
      | true =>
        by_cases hz : lo = 0
        · subst hz
          by_cases hz' : hi = 0
          · subst hz'
            rw [if_neg (by simp), if_neg (by simp)]
            go_enter Tryz.func92, Tryz.ntmps92
            go_wp2_with (go_at_call 73; refine (between_any _ _ _ _).mono ?_; rintro e w' ⟨rfl, rfl⟩)
            go_ret
            exact ⟨rfl, by go_grown⟩
          · have q : (hi == 0) = false := by simpa using hz'
            rw [if_pos (by simp [hz'])]
            go_enter Tryz.func92, Tryz.ntmps92
            go_wp2_with (go_at_call 73; refine (between_any _ _ _ _).mono ?_; rintro e w' ⟨rfl, rfl⟩)
            go_ret
            exact ⟨rfl, by go_grown⟩
        · have q : (lo == 0) = false := by simpa using hz
          rw [if_pos (by simp [hz])]
          go_enter Tryz.func92, Tryz.ntmps92
          go_wp2_with (go_at_call 73; refine (between_any _ _ _ _).mono ?_; rintro e w' ⟨rfl, rfl⟩)
          go_ret
          exact ⟨rfl, by go_grown⟩
      | false =>
        rw [if_neg (by simp)]
        by_cases hz : hi < lo
        · rw [if_pos hz]
          go_enter Tryz.func92, Tryz.ntmps92
          go_wp2_with (go_at_call 73; refine (between_any _ _ _ _).mono ?_; rintro e w' ⟨rfl, rfl⟩)
          go_ret
          exact ⟨rfl, by go_grown⟩
        · rw [if_neg hz]
          go_enter Tryz.func92, Tryz.ntmps92
          go_wp2_with (go_at_call 73; refine (between_any _ _ _ _).mono ?_; rintro e w' ⟨rfl, rfl⟩)
          go_ret
          exact ⟨rfl, by go_grown⟩
    · have b2 : btw hi (-2147483648) 2147483647 = false := decide_eq_false h'
      rw [if_pos (by simp [h'])]
      clear h h'
      go_enter Tryz.func92, Tryz.ntmps92
      go_wp2_with (go_at_call 73; refine (between_any _ _ _ _).mono ?_; rintro e w' ⟨rfl, rfl⟩)
      go_ret
      exact ⟨rfl, by go_grown⟩
  · have b1 : btw lo (-2147483648) 2147483647 = false := decide_eq_false h
    rw [if_pos (by simp [h])]
    clear h
    go_enter Tryz.func92, Tryz.ntmps92
    go_wp2_with (go_at_call 73; refine (between_any _ _ _ _).mono ?_; rintro e w' ⟨rfl, rfl⟩)
    go_ret
    exact ⟨rfl, by go_grown⟩

set_option maxHeartbeats 1000000 in
theorem inSpan_any (s : Sp) (x : Int) (w : World) :
    Calls Tryz.prog 51 #[sv s, .int .i64 x] w fun e w' => e = .returned (.bool (s.has x)) ∧ Below w.heap.size w w' := by
  obtain ⟨n, lo, hi⟩ := s
  have e0 : btw x lo hi = (decide (lo ≤ x) && decide (x ≤ hi)) := by unfold btw; exact Bool.decide_and _ _
  have e1 : Sp.has ⟨n, lo, hi⟩ x = (!n && btw x lo hi) := by rw [e0]; rfl
  rw [e1]
  cases n with
  | true =>
    go_enter Tryz.func51, Tryz.ntmps51
    go_wp2
    go_ret
    exact ⟨rfl, by go_grown⟩
  | false =>
    clear e0 e1
    generalize hB : btw x lo hi = B
    go_enter Tryz.func51, Tryz.ntmps51
    go_wp2_with (go_at_call 73; refine (between_any _ _ _ _).mono ?_; rintro e w' ⟨rfl, rfl⟩)
    go_ret
    exact ⟨ret_bool (by simp [hB]), by go_grown⟩

set_option maxHeartbeats 1000000 in
theorem spanIn_any (s t : Sp) (w : World) :
    Calls Tryz.prog 50 #[sv s, sv t] w fun e w' => e = .returned (.bool (spIn s t)) ∧ Below w.heap.size w w' := by
  have e0 : spIn s t = (s.n || (t.has s.lo && t.has s.hi)) := rfl
  rw [e0]
  clear e0
  have k1 := fun w => inSpan_any t s.lo w
  have k2 := fun w => inSpan_any t s.hi w
  generalize t.has s.lo = A at k1 ⊢
  generalize t.has s.hi = B at k2 ⊢
  obtain ⟨n, lo, hi⟩ := s
  obtain ⟨n', lo', hi'⟩ := t
  cases n with
  | true =>
    go_enter Tryz.func50, Tryz.ntmps50
    go_wp2
    go_ret
    exact ⟨rfl, by go_grown⟩
  | false =>
    go_enter Tryz.func50, Tryz.ntmps50
    go_wp2_with (go_at_call 51; fail)
    refine (k1 _).mono ?_
    rintro e w1 ⟨rfl, hb1⟩
    obtain ⟨c0, c1, c2, d0, d1, d2⟩ := sp_cells2 hb1 (by simp)
    have H1 : Below w.heap.size w w1 := Below.trans (by go_grown) (hb1.mono (by simp; omega))
    have z0 : w.heap.size ≤ w1.heap.size := H1.size
    clear hb1 k1
    cases A with
    | false =>
      go_wp2
      go_ret
      exact ⟨rfl, H1⟩
    | true =>
      go_wp2_with (go_at_call 51; fail)
      refine (k2 _).mono ?_
      rintro e w2 ⟨rfl, hb2⟩
      go_wp2
      go_ret
      exact ⟨rfl, H1.trans (hb2.mono z0)⟩

set_option maxHeartbeats 1000000 in
theorem least2 (g c : Nat) (x y : Int) (w : World) (h0 : w.cell? ⟨g, 0, none⟩ = some (.int .i64 x)) (h1 : w.cell? ⟨g, 1, none⟩ = some (.int .i64 y)) :
    Calls Tryz.prog 93 #[.slice (some ⟨g, 0, none⟩) 2 c] w fun e w' => e = .returned (.int .i64 (min x y)) ∧ w' = w := by
  go_enter Tryz.func93, Tryz.ntmps93
  go_wp2
  go_rounds 2
  all_goals go_ret
  all_goals exact ⟨ret_int (by omega), rfl⟩

set_option maxHeartbeats 1000000 in
theorem most2 (g c : Nat) (x y : Int) (w : World) (h0 : w.cell? ⟨g, 0, none⟩ = some (.int .i64 x)) (h1 : w.cell? ⟨g, 1, none⟩ = some (.int .i64 y)) :
    Calls Tryz.prog 94 #[.slice (some ⟨g, 0, none⟩) 2 c] w fun e w' => e = .returned (.int .i64 (max x y)) ∧ w' = w := by
  go_enter Tryz.func94, Tryz.ntmps94
  go_wp2
  go_rounds 2
  all_goals go_ret
  all_goals exact ⟨ret_int (by omega), rfl⟩

end Go.Proofs.YtmapdpcfanecdaaGreat

namespace Go.Proofs.YtmapdpcfanecdaaGreat
set_option linter.unusedVariables false
set_option linter.unusedSimpArgs false
open Go.RowKit

set_option maxHeartbeats 1000000 in
theorem isSite_any (V F : Int) (s : Option Addr) (c : List Ins) (cap : Nat) (x : Int) (w : World) (hc : CodeAt w s c) (hl : c.length ≤ 60) :
    Calls Tryz.prog 80 #[pv V F s c cap, .int .i64 x] w fun e w' => e = .returned (.bool (isSite c x)) ∧ Below w.heap.size w w' := by
  have hl' : (c.length : Int) ≤ 60 := by omega
  by_cases hx : 0 ≤ x ∧ x ≤ (c.length : Int) - 1
  · have hb := btw_true hx.1 hx.2
    obtain ⟨k, rfl⟩ := Int.eq_ofNat_of_zero_le hx.1
    have hk : k < c.length := by omega
    have CA := hc.alloc (.cells #[.int .i64 V, .int .i64 F, .slice s c.length cap] 24)
    obtain ⟨b, off, rfl, hbl, hi⟩ := CA.get k hk
    obtain ⟨i0, -, -, -, -, -⟩ := hi k hk
    have HR : Hid (isSite c k = decide (c[k].k = 11)) := by
      show _ = _
      unfold isSite
      rw [decide_eq_true (show (0 : Int) ≤ (k : Int) by omega), decide_eq_true (show (k : Int) < (c.length : Int) by omega), Int.toNat_natCast, show c.getD k ⟨0, 0, 0, 0, 0, 0⟩ = c[k] by simp [List.getD, List.getElem?_eq_getElem hk]]
      simp
    have n0 : (0 : Int) ≤ (k : Int) := by omega
    have n1 : (k : Int) < (c.length : Int) := by omega
    clear hi hc CA hx
    go_enter Tryz.func80, Tryz.ntmps80
    go_wp2_with (go_at_call 73; fail)
    refine (between_any _ _ _ _).mono ?_
    rintro e w1 ⟨rfl, rfl⟩
    rw [hb]
    go_wp2
    go_ret
    exact ⟨ret_bool (by rw [HR.out]; first | rfl | (simp; done) | exact (Bool.beq_eq_decide_eq _ _)), by go_grown⟩
  · have hb : btw x 0 ((c.length : Int) - 1) = false := by simp [btw]; omega
    have HR : Hid (isSite c x = false) := by
      show _ = _
      unfold isSite
      by_cases h0 : 0 ≤ x
      · rw [decide_eq_false (show ¬ x < (c.length : Int) by omega)]; simp
      · rw [decide_eq_false h0]; rfl
    clear hc hx
    go_enter Tryz.func80, Tryz.ntmps80
    go_wp2_with (go_at_call 73; fail)
    refine (between_any _ _ _ _).mono ?_
    rintro e w1 ⟨rfl, rfl⟩
    rw [hb]
    go_wp2
    go_ret
    exact ⟨ret_bool (by rw [HR.out]), by go_grown⟩

set_option maxHeartbeats 1000000 in
theorem hasR_any (x : Int) (ss : Option Addr) (cap : Nat) (l : List Int) (w : World) (hl : l.length ≤ 9223372036854775807) (hs : IntsAt w ss l) :
    Calls Tryz.prog 49 #[.slice ss l.length cap, .int .i64 x] w fun e w' => e = .returned (.bool (l.contains x)) ∧ w' = w := by
  have HX : Hid (l.contains x = decide (x ∈ l)) := by show _ = _; simp
  generalize l.contains x = r at *
  go_enter Tryz.func49, Tryz.ntmps49
  go_wp2
  go_loop [5] (fun i => ∃ k : Nat, k ≤ l.length ∧ i = .int .i64 k ∧ Hid (x ∈ l ↔ x ∈ l.drop k)) (fun i => l.length - (intOf i).toNat)
  case atStart => exact ⟨0, Nat.zero_le _, rfl, Iff.rfl⟩
  case round =>
    obtain ⟨k, hk, rfl, HA⟩ := hrel
    by_cases hlt : k < l.length
    · obtain ⟨b, off, rfl, hb, hc⟩ := hs.get k hlt
      have n0 : (0 : Int) ≤ (k : Int) := by omega
      have n1 : (k : Int) < (l.length : Int) := by omega
      have c0 := hc k hlt
      have HN : Hid (x ∈ l.drop k ↔ (x = l[k] ∨ x ∈ l.drop (k + 1))) := indexI_le l x k hlt
      clear hc hs
      by_cases hp : l[k] = x
      · have HT : Hid (x ∈ l) := HA.out.2 (HN.out.2 (.inl hp.symm))
        clear HN HA
        have hp' : (l[k] == x) = true := by simp [hp]
        go_wp2
        go_ret
        exact ⟨ret_bool (by rw [HX.out]; exact (decide_eq_true HT.out).symm), rfl⟩
      · have HT : Hid (x ∈ l ↔ x ∈ l.drop (k + 1)) := HA.out.trans (HN.out.trans ⟨fun h => h.resolve_left fun e => hp e.symm, .inr⟩)
        have hp' : (l[k] == x) = false := by simpa using hp
        clear HN HA
        go_wp2
        go_round
        case rel => exact ⟨k + 1, by omega, by go_num, HT⟩
        case measure => simp [intOf]; omega
    · go_wp2
      go_ret
      exact ⟨ret_bool (by rw [HX.out]; exact (decide_eq_false fun h => by have := HA.out.1 h; rw [List.drop_eq_nil_of_le (by omega)] at this; cases this).symm), rfl⟩
end Go.Proofs.YtmapdpcfanecdaaGreat

namespace Go.Proofs.YtmapdpcfanecdaaGreat
set_option linter.unusedVariables false
set_option linter.unusedSimpArgs false
open Go.RowKit

set_option maxHeartbeats 4000000 in
set_option maxRecDepth 10000 in
theorem checkGuess_any (V F : Int) (s : Option Addr) (c : List Ins) (cap : Nat) (g : Gs) (ss : Option Addr) (gc : Nat) (w : World) (hc : CodeAt w s c) (hl : c.length ≤ 60) (hs : IntsAt w ss g.s) (hgl : g.s.length ≤ 9223372036854775807) :
    Calls Tryz.prog 47 #[pv V F s c cap, gv g ss gc] w fun e w' => e = .returned (.int .i64 (ckGs c g)) ∧ Below w.heap.size w w' := by
  have P0 : PrAt (pgW w V F s c cap g ss gc) w.heap.size V F s c cap := (PrAt.new w V F s c cap).alloc _
  have G0 : GuAt (pgW w V F s c cap g ss gc) (w.heap.size + 1) 0 g ss gc := by
    have := GuAt.new (w.alloc (.cells #[.int .i64 V, .int .i64 F, .slice s c.length cap] 24)) g ss gc
    simpa using this
  have C0 : CodeAt (pgW w V F s c cap g ss gc) s c := (hc.alloc _).alloc _
  have I0 : IntsAt (pgW w V F s c cap g ss gc) ss g.s := (hs.alloc _).alloc _
  have B0 : Below w.heap.size w (pgW w V F s c cap g ss gc) := by go_grown
  have HR : Hid (ckGs c g = if ckSp g.sp ≠ 0 then ckSp g.sp else if g.s.all (isSite c) = false then 5 else if rising g.s = false then 4 else 0) := rfl
  go_enter Tryz.func47, Tryz.ntmps47
  go_wp2_with (go_at_call 92; fail)
  refine (checkSpan_any g.sp _).mono ?_
  rintro e w1 ⟨rfl, hb1⟩
  have P1 := P0.call hb1
  have G1 := G0.call hb1
  have C1 := C0.call hb1
  have I1 := I0.call hb1
  have B1 : Below w.heap.size w w1 := B0.trans (hb1.mono (by simp; omega))
  clear hb1 P0 G0 C0 I0 B0 hc hs
  by_cases hsp : ckSp g.sp = 0
  · have HF0 : Hid (ckGs c g = if g.s.all (isSite c) = false then 5 else if rising g.s = false then 4 else 0) := by show _ = _; rw [HR.out, if_neg (by simpa using hsp)]
    rw [hsp]
    clear HR
    go_wp2
    go_loopw [6] (fun i wr => ∃ k : Nat, k ≤ g.s.length ∧ i = .int .i64 k ∧ PrAt wr w.heap.size V F s c cap ∧ GuAt wr (w.heap.size + 1) 0 g ss gc ∧ CodeAt wr s c ∧ IntsAt wr ss g.s ∧ Below w.heap.size w wr ∧ Hid (∀ j (h : j < g.s.length), j < k → isSite c g.s[j] = true)) (fun i _ => g.s.length - (intOf i).toNat)
    case atStart => exact ⟨0, Nat.zero_le _, rfl, P1, G1, C1, I1, B1, fun j h h' => by omega⟩
    case round =>
      obtain ⟨k, hk, rfl, PR, GR, CR, IR, BR, HK⟩ := hrel
      clear P1 G1 C1 I1 B1
      obtain ⟨⟨p0, p1, p2⟩, p3⟩ := id PR
      obtain ⟨⟨g0, g1, g2, g3, g4, g5, g6⟩, gz⟩ := id GR
      simp only [Nat.zero_add] at g0 g1 g2 g3 g4 g5 g6
      by_cases hlt : k < g.s.length
      · obtain ⟨b, off, rfl, hb, hcell⟩ := IR.get k hlt
        have c0 := hcell k hlt
        have n0 : (0 : Int) ≤ (k : Int) := by omega
        have n1 : (k : Int) < (g.s.length : Int) := by omega
        have KS : ∀ wx, Below wr.heap.size wr wx → (wx.cell? ⟨w.heap.size, 0, none⟩ = some (.int .i64 V) ∧ wx.cell? ⟨w.heap.size, 1, none⟩ = some (.int .i64 F) ∧ wx.cell? ⟨w.heap.size, 2, none⟩ = some (.slice s c.length cap)) ∧ wx.cell? ⟨w.heap.size + 1, 6, none⟩ = some (.slice (some ⟨b, off, none⟩) g.s.length gc) ∧ wx.cell? ⟨b, off + k, none⟩ = some (.int .i64 g.s[k]) := by
          intro wx hbx
          rw [hbx.cell (by simpa using p3), hbx.cell (by simpa using p3), hbx.cell (by simpa using p3), hbx.cell (by simpa using gz), hbx.cell (by simpa using hb)]
          exact ⟨⟨p0, p1, p2⟩, g6, c0⟩
        clear hcell
        go_wp2
        go_region_held3 (fun wx => (wx.cell? ⟨w.heap.size, 0, none⟩ = some (.int .i64 V) ∧ wx.cell? ⟨w.heap.size, 1, none⟩ = some (.int .i64 F) ∧ wx.cell? ⟨w.heap.size, 2, none⟩ = some (.slice s c.length cap)) ∧ wx.cell? ⟨w.heap.size + 1, 6, none⟩ = some (.slice (some ⟨b, off, none⟩) g.s.length gc) ∧ wx.cell? ⟨b, off + k, none⟩ = some (.int .i64 g.s[k]))
          (first | with_reducible exact KS _ (Below.refl _ _).drew | with_reducible exact KS _ HB)
          ((go_at_call 80; refine (isSite_any V F s c cap g.s[k] _ (CR.call (Below.refl _ _).drew) hl).mono ?_; rintro e w2 ⟨rfl, hb2⟩; have HB : Below wr.heap.size wr w2 := (Below.refl _ _).drew.trans (hb2.mono (Nat.le_refl _))))
        have P2 := PR.call HB
        have G2 := GR.call HB
        have C2 := CR.call HB
        have I2 := IR.call HB
        have B2 := BR.trans (HB.mono BR.size)
        clear hb2 PR GR CR IR BR HB KS p0 p1 p2 g0 g1 g2 g3 g4 g5 g6
        cases hS : isSite c g.s[k] with
        | true =>
          go_wp2
          go_roundw
          case rel =>
            refine ⟨k + 1, by omega, by go_num, P2, G2, C2, I2, B2, fun j h h' => ?_⟩
            by_cases e : j = k
            · subst e; exact hS
            · exact HK.out j h (by omega)
          case measure => simp [intOf]; omega
        | false =>
          have HF : Hid (ckGs c g = 5) := by
            show _ = _
            rw [HF0.out, if_pos]
            rw [Bool.eq_false_iff]
            intro hx
            have := List.all_eq_true.1 hx g.s[k] (List.getElem_mem _)
            rw [hS] at this
            cases this
          go_wp2
          go_ret
          exact ⟨ret_int HF.out.symm, B2⟩
      · have hall : g.s.all (isSite c) = true := by
          rw [List.all_eq_true]
          intro x hx
          obtain ⟨j, hj, rfl⟩ := List.getElem_of_mem hx
          exact HK.out j hj (by omega)
        have HF : Hid (ckGs c g = if rising g.s = false then 4 else 0) := by show _ = _; rw [HF0.out, if_neg (by simp [hall])]
        have HQ := hideH (rising_iff g.s)
        clear HF0 hall HK
        go_wp2
        go_loopw [7] (fun i wx => ∃ k : Nat, 1 ≤ k ∧ i = .int .i64 k ∧ k ≤ g.s.length + 1 ∧ wx.cell? ⟨w.heap.size + 1, 6, none⟩ = some (.slice ss g.s.length gc) ∧ w.heap.size + 1 < wx.heap.size ∧ IntsAt wx ss g.s ∧ Below w.heap.size w wx ∧ Hid (∀ j (h : j + 1 < g.s.length), j + 1 < k → g.s[j] < g.s[j + 1])) (fun i _ => g.s.length + 1 - (intOf i).toNat)
        case atStart => exact ⟨1, Nat.le_refl _, rfl, by omega, g6, gz, IR, BR, fun j h h' => by omega⟩
        case round =>
          obtain ⟨q, hk1, rfl, hk2, r6, rz, IX, BX, HX⟩ := hrel
          clear PR GR CR IR BR p0 p1 p2 g0 g1 g2 g3 g4 g5 g6
          by_cases hlq : q < g.s.length
          · obtain ⟨b, off, rfl, hb, hcell⟩ := IX.get q hlq
            have c0 := hcell (q - 1) (by omega)
            have c1 := hcell q hlq
            have t1 : ((q : Int) - 1).toNat = q - 1 := by omega
            have n0 : (0 : Int) ≤ (q : Int) - 1 := by omega
            have n1 : (q : Int) - 1 < (g.s.length : Int) := by omega
            have n2 : (0 : Int) ≤ (q : Int) := by omega
            have n3 : (q : Int) < (g.s.length : Int) := by omega
            clear hcell
            by_cases hr : g.s[q - 1] < g.s[q]
            · go_wp2
              go_quiet (fail)
              go_wp2
              go_roundw
              case rel =>
                refine ⟨q + 1, by omega, by go_num, by omega, ?_, ?_, IX.drewN _, below_drewN BX _, fun j h h' => ?_⟩
                · rw [← r6]; exact (below_drewN (Below.refl (w.heap.size + 2) _) _).cell (by simp)
                · exact Nat.lt_of_lt_of_le rz (below_drewN (Below.refl (w.heap.size + 2) _) _).size
                · by_cases e : j + 1 = q
                  · subst e; exact hr
                  · exact HX.out j h (by omega)
              case measure => simp [intOf]; omega
            · have HG : Hid (rising g.s = false) := by
                show _ = _
                rw [Bool.eq_false_iff]
                intro hx
                have := HQ.out.1 hx (q - 1) (by omega)
                have e : q - 1 + 1 = q := by omega
                simp only [e] at this
                exact hr this
              clear HQ
              go_wp2
              go_quiet (fail)
              go_wp2
              go_ret
              exact ⟨ret_int (by rw [HF.out, if_pos HG.out]), below_drewN BX _⟩
          · go_wp2
            go_ret
            refine ⟨ret_int ?_, BX⟩
            rw [HF.out, if_neg]
            have : rising g.s = true := HQ.out.2 fun j h => HX.out j h (by omega)
            simp [this]
  · have HF : Hid (ckGs c g = ckSp g.sp) := by show _ = _; rw [HR.out, if_pos hsp]
    have hne : (ckSp g.sp != 0) = true := by simpa using hsp
    clear HR
    go_wp2
    go_ret
    exact ⟨ret_int HF.out.symm, B1⟩

end Go.Proofs.YtmapdpcfanecdaaGreat
