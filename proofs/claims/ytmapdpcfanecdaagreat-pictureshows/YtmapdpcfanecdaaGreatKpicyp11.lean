/- Walks over package guess: the check of a guess. -/
import Derived.Test.YtmapdpcfanecdaaGreatKpicyp03
import Derived.Deep.QuietTactic
import Derived.BigQuiet
namespace Go.Proofs.YtmapdpcfanecdaaGreat
set_option linter.unusedVariables false
set_option linter.unusedSimpArgs false
open Go.RowKit

theorem any_drop_stepI (l : List Int) (p : Int → Bool) (k : Nat) (h : k < l.length) : (l.drop k).any p = (p l[k] || (l.drop (k + 1)).any p) := by
  rw [List.drop_eq_getElem_cons h]; rfl

theorem indexI_le (l : List Int) (x : Int) (k : Nat) (h : k < l.length) : x ∈ l.drop k ↔ (x = l[k] ∨ x ∈ l.drop (k + 1)) := by
  rw [List.drop_eq_getElem_cons h, List.mem_cons]

set_option maxHeartbeats 1000000 in
theorem indexI_any (x : Int) (ss : Option Addr) (cap : Nat) (l : List Int) (w : World) (hl : l.length ≤ 9223372036854775807) (hs : IntsAt w ss l) :
    Calls Tryz.prog 88 #[.slice ss l.length cap, .int .i64 x] w fun e w' => ∃ n : Int, e = .returned (.int .i64 n) ∧ (0 ≤ n ↔ x ∈ l) ∧ w' = w := by
  go_enter Tryz.func88, Tryz.ntmps88
  go_wp2
  go_loop [8] (fun i => ∃ k : Nat, k ≤ l.length ∧ i = .int .i64 k ∧ Hid (x ∈ l ↔ x ∈ l.drop k)) (fun i => l.length - (intOf i).toNat)
  case atStart => exact ⟨0, Nat.zero_le _, rfl, Iff.rfl⟩
  case round =>
    obtain ⟨k, hk, rfl, HA⟩ := hrel
    by_cases hlt : k < l.length
    · obtain ⟨b, off, rfl, hb, hc⟩ := hs.get k hlt
      have n0 : (0 : Int) ≤ (k : Int) := by omega
      have n1 : (k : Int) < (l.length : Int) := by omega
      have c0 := hc k hlt
      have HN : Hid (x ∈ l.drop k ↔ (x = l[k] ∨ x ∈ l.drop (k + 1))) := indexI_le l x k hlt
      clear hc hs
      by_cases hp : l[k] = x
      · have HT : Hid (x ∈ l) := HA.out.2 (HN.out.2 (.inl hp.symm))
        clear HN HA
        have hp' : (x == l[k]) = true := by simp [hp]
        go_wp2
        go_ret
        exact ⟨_, rfl, ⟨fun _ => HT.out, fun _ => by omega⟩, rfl⟩
      · have HT : Hid (x ∈ l ↔ x ∈ l.drop (k + 1)) := HA.out.trans (HN.out.trans ⟨fun h => h.resolve_left fun e => hp e.symm, .inr⟩)
        have hp' : (x == l[k]) = false := by simp; exact fun h => hp h.symm
        clear HN HA
        go_wp2
        go_round
        case rel => exact ⟨k + 1, by omega, by go_num, HT⟩
        case measure => simp [intOf]; omega
    · go_wp2
      go_ret
      exact ⟨_, rfl, ⟨fun h => absurd h (by omega), fun h => by have := HA.out.1 h; rw [List.drop_eq_nil_of_le (by omega)] at this; cases this⟩, rfl⟩

set_option maxHeartbeats 1000000 in
theorem containsI_any (x : Int) (ss : Option Addr) (cap : Nat) (l : List Int) (w : World) (hl : l.length ≤ 9223372036854775807) (hs : IntsAt w ss l) :
    Calls Tryz.prog 42 #[.slice ss l.length cap, .int .i64 x] w fun e w' => e = .returned (.bool (l.contains x)) ∧ w' = w := by
  go_enter Tryz.func42, Tryz.ntmps42
  go_wp2_with fail
  refine (indexI_any x ss cap l _ hl hs).mono ?_
  rintro e w1 ⟨n, rfl, hn, rfl⟩
  go_wp2
  go_ret
  exact ⟨ret_bool (by simp), rfl⟩
end Go.Proofs.YtmapdpcfanecdaaGreat

namespace Go.Proofs.YtmapdpcfanecdaaGreat
set_option linter.unusedVariables false
set_option linter.unusedSimpArgs false
open Go.RowKit

set_option maxHeartbeats 1000000 in
set_option maxRecDepth 10000 in
theorem indexFunc_home (q : Nat) (p : Int → Bool) (ss : Option Addr) (cap : Nat) (l : List Int) (w : World) (hl : l.length ≤ 9223372036854775807) (hs : IntsAt w ss l)
    (hF : ∀ x wx, Below w.heap.size w wx → Calls Tryz.prog 123 #[.int .i64 x, .pointer (some ⟨q, 0, none⟩)] wx fun e w' => e = .returned (.bool (p x)) ∧ Below wx.heap.size wx w') :
    Calls Tryz.prog 89 #[.slice ss l.length cap, .func (.func 123) #[] #[.pointer (some ⟨q, 0, none⟩)]] w fun e w' => ∃ n : Int, e = .returned (.int .i64 n) ∧ decide (0 ≤ n) = l.any p ∧ Below w.heap.size w w' := by
  have HF := hideH hF
  clear hF
  go_enter Tryz.func89, Tryz.ntmps89
  go_wp2
  go_loopw [8] (fun i wr => ∃ k : Nat, k ≤ l.length ∧ i = .int .i64 k ∧ Below w.heap.size w wr ∧ Hid (l.any p = (l.drop k).any p)) (fun i _ => l.length - (intOf i).toNat)
  case atStart => exact ⟨0, Nat.zero_le _, rfl, Below.refl _ _, rfl⟩
  case round =>
    obtain ⟨k, hk, rfl, hbr, HA⟩ := hrel
    by_cases hlt : k < l.length
    · obtain ⟨b, off, rfl, hb, hc⟩ := hs.get k hlt
      have n0 : (0 : Int) ≤ (k : Int) := by omega
      have n1 : (k : Int) < (l.length : Int) := by omega
      have s0 := hbr.size
      have c0 : wr.cell? ⟨b, off + k, none⟩ = some (.int .i64 l[k]) := by rw [hbr.cell (by simpa using hb)]; exact hc k hlt
      have HN : Hid ((l.drop k).any p = (p l[k] || (l.drop (k + 1)).any p)) := any_drop_stepI l p k hlt
      clear hc hs
      go_wp2_with (go_at_call 123; fail)
      refine (HF.out _ _ hbr).mono ?_
      rintro e w1 ⟨rfl, hb1⟩
      cases hp : p l[k] with
      | true =>
        have HT : Hid (l.any p = true) := by show _ = _; rw [HA.out, HN.out, hp]; rfl
        clear HN HA
        go_wp2
        go_ret
        exact ⟨_, rfl, by rw [HT.out]; simp, hbr.trans (hb1.mono s0)⟩
      | false =>
        have HT : Hid (l.any p = (l.drop (k + 1)).any p) := by show _ = _; rw [HA.out, HN.out, hp]; rfl
        clear HN HA
        go_wp2
        go_roundw
        case rel => exact ⟨k + 1, by omega, by go_num, hbr.trans (hb1.mono s0), HT⟩
        case measure => simp [intOf]; omega
    · go_wp2
      go_ret
      exact ⟨_, rfl, by rw [HA.out, List.drop_eq_nil_of_le (by omega)]; rfl, hbr⟩

set_option maxHeartbeats 1000000 in
theorem containsFunc_home (q : Nat) (p : Int → Bool) (ss : Option Addr) (cap : Nat) (l : List Int) (w : World) (hl : l.length ≤ 9223372036854775807) (hs : IntsAt w ss l)
    (hF : ∀ x wx, Below w.heap.size w wx → Calls Tryz.prog 123 #[.int .i64 x, .pointer (some ⟨q, 0, none⟩)] wx fun e w' => e = .returned (.bool (p x)) ∧ Below wx.heap.size wx w') :
    Calls Tryz.prog 43 #[.slice ss l.length cap, .func (.func 123) #[] #[.pointer (some ⟨q, 0, none⟩)]] w fun e w' => e = .returned (.bool (l.any p)) ∧ Below w.heap.size w w' := by
  have HF := hideH hF
  clear hF
  go_enter Tryz.func43, Tryz.ntmps43
  go_wp2_with (go_at_call 89; fail)
  refine (indexFunc_home q p ss cap l _ hl hs HF.out).mono ?_
  rintro e w1 ⟨n, rfl, hn, hb1⟩
  go_wp2
  go_ret
  exact ⟨rfl, hb1⟩
end Go.Proofs.YtmapdpcfanecdaaGreat

namespace Go.Proofs.YtmapdpcfanecdaaGreat
set_option linter.unusedVariables false
set_option linter.unusedSimpArgs false
open Go.RowKit

set_option maxHeartbeats 1000000 in
theorem homeless_any (x : Int) (q : Nat) (V F : Int) (s : Option Addr) (c : List Ins) (cap : Nat) (w : World) (hp : PrAt w q V F s c cap) (hc : CodeAt w s c) (hl : c.length ≤ 60) :
    Calls Tryz.prog 123 #[.int .i64 x, .pointer (some ⟨q, 0, none⟩)] w fun e w' => e = .returned (.bool (!isSite c x)) ∧ Below w.heap.size w w' := by
  obtain ⟨⟨p0, p1, p2⟩, p3⟩ := hp
  have hl' : (c.length : Int) ≤ 60 := by omega
  by_cases h0 : x < 0
  · have HR : Hid (isSite c x = false) := by show _ = _; unfold isSite; rw [decide_eq_false (by omega)]; rfl
    go_enter Tryz.func123, Tryz.ntmps123
    go_wp2
    go_ret
    exact ⟨ret_bool (by rw [HR.out]; rfl), Below.refl _ _⟩
  by_cases h1 : x < (c.length : Int)
  · obtain ⟨k, rfl⟩ := Int.eq_ofNat_of_zero_le (show 0 ≤ x by omega)
    have hk : k < c.length := by omega
    obtain ⟨b, off, rfl, hb, hi⟩ := hc.get k hk
    obtain ⟨i0, -, -, -, -, -⟩ := hi k hk
    have HR : Hid (isSite c k = decide (c[k].k = 11)) := by
      show _ = _
      unfold isSite
      rw [decide_eq_true (show (0 : Int) ≤ (k : Int) by omega), decide_eq_true h1, Int.toNat_natCast, show c.getD k ⟨0, 0, 0, 0, 0, 0⟩ = c[k] by simp [List.getD, List.getElem?_eq_getElem hk]]
      simp
    clear hi hc
    by_cases h11 : c[k].k = 11
    · have e11 : (c[k].k != 11) = false := by simp [h11]
      have n0 : (0 : Int) ≤ (k : Int) := by omega
      go_enter Tryz.func123, Tryz.ntmps123
      go_wp2
      go_ret
      exact ⟨ret_bool (by rw [HR.out]; simp [h11, hk]), Below.refl _ _⟩
    · have e11 : (c[k].k != 11) = true := by simpa using h11
      have n0 : (0 : Int) ≤ (k : Int) := by omega
      go_enter Tryz.func123, Tryz.ntmps123
      go_wp2
      go_ret
      exact ⟨ret_bool (by rw [HR.out]; simp [h11, hk]), Below.refl _ _⟩
  · have HR : Hid (isSite c x = false) := by show _ = _; unfold isSite; rw [decide_eq_false h1]; simp
    go_enter Tryz.func123, Tryz.ntmps123
    go_wp2
    go_ret
    exact ⟨ret_bool (by rw [HR.out]; rfl), Below.refl _ _⟩

theorem any_not_all (l : List Int) (p : Int → Bool) : (l.any fun x => !p x) = !l.all p := by
  induction l with
  | nil => rfl
  | cons a r ih => simp only [List.any_cons, List.all_cons, ih, Bool.not_and]

/-- They rise up to place k. -/
theorem rising_iff (l : List Int) : rising l = true ↔ ∀ k (h : k + 1 < l.length), l[k] < l[k + 1] := by
  induction l with
  | nil => simp [rising]
  | cons a r ih =>
    cases r with
    | nil => simp [rising]
    | cons b t =>
      simp only [rising, Bool.and_eq_true, decide_eq_true_eq, ih]
      constructor
      · rintro ⟨h1, h2⟩ k hk
        cases k with
        | zero => exact h1
        | succ k => exact h2 k (by simpa using hk)
      · intro h
        exact ⟨h 0 (by simp), fun k hk => h (k + 1) (by simpa using hk)⟩

/-- The two boxes of checkParts. -/
abbrev pgW (w : World) (V F : Int) (s : Option Addr) (c : List Ins) (cap : Nat) (g : Gs) (ss : Option Addr) (gc : Nat) : World :=
  (w.alloc (.cells #[.int .i64 V, .int .i64 F, .slice s c.length cap] 24)).alloc (.cells #[.bool g.n, .bool g.sp.n, .int .i64 g.sp.lo, .int .i64 g.sp.hi, .bool g.t, .bool g.f, .slice ss g.s.length gc] 29)

set_option maxHeartbeats 2000000 in
set_option maxRecDepth 10000 in
theorem checkParts_any (V F : Int) (s : Option Addr) (c : List Ins) (cap : Nat) (g : Gs) (ss : Option Addr) (gc : Nat) (w : World) (hc : CodeAt w s c) (hl : c.length ≤ 60) (hs : IntsAt w ss g.s) (hgl : g.s.length ≤ 9223372036854775807) :
    Calls Tryz.prog 87 #[pv V F s c cap, gv g ss gc] w fun e w' => e = .returned (.int .i64 (ckGs c g)) ∧ Below w.heap.size w w' := by
  have P0 : PrAt (pgW w V F s c cap g ss gc) w.heap.size V F s c cap := (PrAt.new w V F s c cap).alloc _
  have G0 : GuAt (pgW w V F s c cap g ss gc) (w.heap.size + 1) 0 g ss gc := by
    have := GuAt.new (w.alloc (.cells #[.int .i64 V, .int .i64 F, .slice s c.length cap] 24)) g ss gc
    simpa using this
  have C0 : CodeAt (pgW w V F s c cap g ss gc) s c := (hc.alloc _).alloc _
  have I0 : IntsAt (pgW w V F s c cap g ss gc) ss g.s := (hs.alloc _).alloc _
  have B0 : Below w.heap.size w (pgW w V F s c cap g ss gc) := by go_grown
  have HR : Hid (ckGs c g = if ckSp g.sp ≠ 0 then ckSp g.sp else if g.s.all (isSite c) = false then 5 else if rising g.s = false then 4 else 0) := rfl
  go_enter Tryz.func87, Tryz.ntmps87
  go_wp2_with (go_at_call 91; fail)
  refine (check_any g.sp _).mono ?_
  rintro e w1 ⟨rfl, hb1⟩
  have P1 := P0.call hb1
  have G1 := G0.call hb1
  have C1 := C0.call hb1
  have I1 := I0.call hb1
  have B1 : Below w.heap.size w w1 := B0.trans (hb1.mono (by simp; omega))
  clear hb1 P0 G0 C0 I0 B0 hc hs
  by_cases hsp : ckSp g.sp = 0
  · obtain ⟨⟨g0, g1, g2, g3, g4, g5, g6⟩, gz⟩ := id G1
    rw [hsp]
    go_wp2_with (go_at_call 43; fail)
    refine (containsFunc_home w.heap.size (fun x => !isSite c x) ss gc g.s _ hgl I1 fun x wx hbx => homeless_any x w.heap.size V F s c cap wx (P1.call hbx) (C1.call hbx) hl).mono ?_
    rintro e w2 ⟨rfl, hb2⟩
    rw [any_not_all]
    have G2 := G1.call hb2
    have I2 := I1.call hb2
    have B2 : Below w.heap.size w w2 := B1.trans (hb2.mono B1.size)
    clear hb2 P1 G1 C1 I1 B1 g0 g1 g2 g3 g4 g5 g6 gz
    obtain ⟨⟨g0, g1, g2, g3, g4, g5, g6⟩, gz⟩ := id G2
    cases hA : g.s.all (isSite c) with
    | false =>
      have HF : Hid (ckGs c g = 5) := by show _ = _; rw [HR.out, if_neg (by simpa using hsp), if_pos hA]
      clear HR
      go_wp2
      go_ret
      exact ⟨ret_int HF.out.symm, B2⟩
    | true =>
      have HF : Hid (ckGs c g = if rising g.s = false then 4 else 0) := by show _ = _; rw [HR.out, if_neg (by simpa using hsp), if_neg (by simp [hA])]
      have HQ := hideH (rising_iff g.s)
      clear HR
      go_wp2
      go_loopw [7] (fun i wr => ∃ k : Nat, 1 ≤ k ∧ i = .int .i64 k ∧ k ≤ g.s.length + 1 ∧ wr.cell? ⟨w.heap.size + 1, 6, none⟩ = some (.slice ss g.s.length gc) ∧ IntsAt wr ss g.s ∧ Below w.heap.size w wr ∧ Hid (∀ j (h : j + 1 < g.s.length), j + 1 < k → g.s[j] < g.s[j + 1])) (fun i _ => g.s.length + 1 - (intOf i).toNat)
      case atStart => exact ⟨1, Nat.le_refl _, rfl, by omega, g6, I2, B2, fun j h h' => by omega⟩
      case round =>
        obtain ⟨k, hk1, rfl, hk2, r6, IR, BR, HK⟩ := hrel
        by_cases hlt : k < g.s.length
        · obtain ⟨b, off, rfl, hb, hcell⟩ := IR.get k hlt
          have c0 := hcell (k - 1) (by omega)
          have c1 := hcell k hlt
          have t1 : ((k : Int) - 1).toNat = k - 1 := by omega
          have n0 : (0 : Int) ≤ (k : Int) - 1 := by omega
          have n1 : (k : Int) - 1 < (g.s.length : Int) := by omega
          have n2 : (0 : Int) ≤ (k : Int) := by omega
          have n3 : (k : Int) < (g.s.length : Int) := by omega
          clear hcell
          by_cases hr : g.s[k - 1] < g.s[k]
          · go_wp2
            go_quiet (fail)
            go_wp2
            go_roundw
            case rel =>
              refine ⟨k + 1, by omega, by go_num, by omega, ?_, IR.drewN _, below_drewN BR _, fun j h h' => ?_⟩
              · rw [← r6]; exact (below_drewN (Below.refl (wr.heap.size + (w.heap.size + 2)) wr) _).cell (by simp; omega)
              · by_cases e : j + 1 = k
                · subst e; exact hr
                · exact HK.out j h (by omega)
            case measure => simp [intOf]; omega
          · have HG : Hid (rising g.s = false) := by
              show _ = _
              rw [Bool.eq_false_iff]
              intro hx
              have := HQ.out.1 hx (k - 1) (by omega)
              have e : k - 1 + 1 = k := by omega
              simp only [e] at this
              exact hr this
            clear HQ
            go_wp2
            go_quiet (fail)
            go_wp2
            go_ret
            exact ⟨ret_int (by rw [HF.out, if_pos HG.out]), below_drewN BR _⟩
        · go_wp2
          go_ret
          refine ⟨ret_int ?_, BR⟩
          rw [HF.out, if_neg]
          have : rising g.s = true := HQ.out.2 fun j h => HK.out j h (by omega)
          simp [this]
  · have HF : Hid (ckGs c g = ckSp g.sp) := by show _ = _; rw [HR.out, if_pos hsp]
    have hne : (ckSp g.sp != 0) = true := by simpa using hsp
    clear HR
    go_wp2
    go_ret
    exact ⟨ret_int HF.out.symm, B1⟩
end Go.Proofs.YtmapdpcfanecdaaGreat
