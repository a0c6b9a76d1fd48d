/- Walks over package code: a number's word, the kind that a line has, the slot of a part, whatever is handed in. -/
import Derived.Test.YtmapdpcfanecdaaDoorKlawpbp34
import Derived.Test.YtmapdpcfanecdaaDoorKlawpbp35
namespace Go.Proofs.YtmapdpcfanecdaaDoor
set_option linter.unusedVariables false
set_option linter.unusedSimpArgs false
open Go.RowKit

/-- The library's error lies in its variable, whatever it is. -/
def ErrS (w : World) : Prop := ∃ ev, w.cell? ⟨2, 0, none⟩ = some ev ∧ (ev = .nilIface ∨ ∃ te pe, ev = .iface te pe)
theorem ErrS.below {w w' : World} (h : ErrS w) (hb : Below w.heap.size w w') : ErrS w' := by
  obtain ⟨m, hm, hi⟩ := h
  exact ⟨m, by rw [hb.cell (World.block_lt_of_cell? w _ hm)]; exact hm, hi⟩

theorem hideN {p : Prop} (h : p) : Hid p := h
theorem size_len (s : ByteArray) : s.data.toList.length = s.size := by show s.data.toList.length = s.data.size; exact Array.length_toList
theorem itoaB_list (v : Int) : (itoaB v).data.toList = Lib.itoa v := by simp [itoaB]

set_option maxHeartbeats 1000000 in
set_option maxRecDepth 20000 in
theorem parseNumber_any (s : ByteArray) (w : World) (ht : Tab w) (hE : ErrS w) :
    Calls Tryd.prog 92 #[.string s] w fun e w' => ∃ v, e = .returned (.tuple #[.int .i64 v, .bool (numOf s.data.toList).isSome]) ∧ (∀ n, numOf s.data.toList = some n → v = n) ∧ Below w.heap.size w w' := by
  by_cases hl : s.size ≤ 11
  · have n1 : ¬ (11 : Int) < (s.size : Int) := by omega
    have hat := Lib.atoiAll_short s.data.toList (by rw [size_len]; omega)
    cases ha : Lib.atoi s.data.toList with
    | none =>
      rw [ha] at hat
      have hno : numOf s.data.toList = none := by unfold numOf; rw [ha]; simp
      rw [hno]
      obtain ⟨ev, hev, hev2⟩ := hE
      have hA := Tryd.strconv_Atoi_syntax s (by omega) hat ev w hev hev2
      clear hat ha
      go_enter Tryd.func92, Tryd.ntmps92
      go_wp2_with (go_at_call 109; fail)
      refine hA.mono ?_
      rintro e w1 ⟨M, rfl, -, -, hb1⟩
      clear hA
      go_wp2
      go_ret2
      exact ⟨0, rfl, fun n h => (by cases h), hb1⟩
    | some v =>
      rw [ha] at hat
      have hf : fits v := Lib.atoiAll_bounds hat
      by_cases hi : Lib.itoa v = s.data.toList
      · have hi' : itoaB v = s := by
          apply ByteArray.ext
          apply Array.toList_inj.1
          rw [itoaB_list]; exact hi
        have hno : numOf s.data.toList = some v := by unfold numOf; rw [if_pos (by rw [size_len]; exact hl), ha]; simp [hi]
        rw [hno]
        refine (parseNumber_ok s v w hat hf hi' hl ht).mono ?_
        rintro e w' ⟨rfl, hb⟩
        exact ⟨v, rfl, fun n h => (by cases h; rfl), hb⟩
      · have hno : numOf s.data.toList = none := by unfold numOf; rw [if_pos (by rw [size_len]; exact hl), ha]; simp [hi]
        rw [hno]
        have hne : ((itoaB v).toList == s.toList) = false := by
          rw [beq_eq_false_iff_ne, ByteArray.toList_eq, ByteArray.toList_eq, itoaB_list]
          exact hi
        have hA : ∀ w, Calls Tryd.prog 109 #[.string s] w fun e w' => e = .returned (.tuple #[.int .i64 v, .nilIface]) ∧ Below w.heap.size w w' := by
          intro w
          refine (Tryd.strconv_Atoi_ok s (by omega) v hat w).mono ?_
          rintro e w' ⟨rfl, rfl | ⟨t, rfl⟩⟩
          · exact ⟨rfl, Below.refl _ _⟩
          · exact ⟨rfl, Lib.bytesWorld_below _ _ _⟩
        clear hat ha hi hno
        go_enter Tryd.func92, Tryd.ntmps92
        go_wp2_with (first
          | (go_at_call 109; refine (hA _).mono ?_; rintro e w1 ⟨rfl, hb1⟩)
          | (go_at_call 62; refine (itoa_any v _ hf (ht.below hb1)).mono ?_; rintro e w2 ⟨rfl, hb2⟩))
        go_ret2
        exact ⟨v, rfl, fun n h => (by cases h), hb1.trans (hb2.mono hb1.size)⟩
  · have n1 : (11 : Int) < (s.size : Int) := by omega
    have hno : numOf s.data.toList = none := by unfold numOf; rw [if_neg (by rw [size_len]; exact hl)]
    rw [hno]
    go_enter Tryd.func92, Tryd.ntmps92
    go_wp2
    go_ret2
    exact ⟨0, rfl, fun n h => (by cases h), Below.refl _ _⟩

set_option maxHeartbeats 1000000 in
set_option maxRecDepth 20000 in
theorem wanted_few (x : ByteArray) (sa : Option Addr) (np p g n c : Nat) (w : World) (h0 : 0 < n) (hn : n ≤ 5000) (hp : p < w.heap.size) (hg : g < w.heap.size) (hc : w.cell? ⟨p, 0, none⟩ = some (.slice (some ⟨g, 0, none⟩) n c)) (hx : w.cell? ⟨g, 0, none⟩ = some (.string x)) (he : np + 1 ≠ n) :
    Calls Tryd.prog 94 #[.agg #[.string x, .slice sa np np], .pointer (some ⟨p, 0, none⟩)] w fun e w' => e = .returned (.bool false) ∧ Below w.heap.size w w' := by
  have n0 : (0 : Int) < (n : Int) := by omega
  have e1 : ((np : Int) == (n : Int) - 1) = false := by simp; omega
  have z1 : p < w.heap.size + 1 := by omega
  have z2 : g < w.heap.size + 1 := by omega
  clear he
  go_enter Tryd.func94, Tryd.ntmps94
  go_wp2
  go_quiet (fail)
  go_wp2
  go_ret
  exact ⟨rfl, below_drewN (by go_grown) _⟩
set_option maxHeartbeats 1000000 in
set_option maxRecDepth 20000 in
theorem wanted_just (x : ByteArray) (sa : Option Addr) (np p g n c : Nat) (w : World) (h0 : 0 < n) (hn : n ≤ 5000) (hp : p < w.heap.size) (hg : g < w.heap.size) (hc : w.cell? ⟨p, 0, none⟩ = some (.slice (some ⟨g, 0, none⟩) n c)) (hx : w.cell? ⟨g, 0, none⟩ = some (.string x)) (he : np + 1 = n) :
    Calls Tryd.prog 94 #[.agg #[.string x, .slice sa np np], .pointer (some ⟨p, 0, none⟩)] w fun e w' => e = .returned (.bool true) ∧ Below w.heap.size w w' := by
  have n0 : (0 : Int) < (n : Int) := by omega
  have e1 : ((np : Int) == (n : Int) - 1) = true := by simp; omega
  have z1 : p < w.heap.size + 1 := by omega
  have z2 : g < w.heap.size + 1 := by omega
  clear he
  go_enter Tryd.func94, Tryd.ntmps94
  go_wp2
  go_quiet (fail)
  go_wp2
  go_ret
  exact ⟨rfl, below_drewN (by go_grown) _⟩
set_option maxHeartbeats 1000000 in
set_option maxRecDepth 20000 in
theorem wanted_else (x y : ByteArray) (sa : Option Addr) (np p g n c : Nat) (w : World) (h0 : 0 < n) (hn : n ≤ 5000) (hp : p < w.heap.size) (hg : g < w.heap.size) (hc : w.cell? ⟨p, 0, none⟩ = some (.slice (some ⟨g, 0, none⟩) n c)) (hx : w.cell? ⟨g, 0, none⟩ = some (.string x)) (hne : (y.toList == x.toList) = false) :
    Calls Tryd.prog 94 #[.agg #[.string y, .slice sa np np], .pointer (some ⟨p, 0, none⟩)] w fun e w' => e = .returned (.bool false) ∧ Below w.heap.size w w' := by
  have n0 : (0 : Int) < (n : Int) := by omega
  have z1 : p < w.heap.size + 1 := by omega
  have z2 : g < w.heap.size + 1 := by omega
  go_enter Tryd.func94, Tryd.ntmps94
  go_wp2
  go_quiet (fail)
  go_wp2
  go_ret
  exact ⟨rfl, below_drewN (by go_grown) _⟩
theorem wanted_any (x y : ByteArray) (sa : Option Addr) (np p g n c : Nat) (w : World) (h0 : 0 < n) (hn : n ≤ 5000) (hp : p < w.heap.size) (hg : g < w.heap.size) (hc : w.cell? ⟨p, 0, none⟩ = some (.slice (some ⟨g, 0, none⟩) n c)) (hx : w.cell? ⟨g, 0, none⟩ = some (.string x)) :
    Calls Tryd.prog 94 #[.agg #[.string y, .slice sa np np], .pointer (some ⟨p, 0, none⟩)] w fun e w' => e = .returned (.bool (y.data.toList == x.data.toList && np == n - 1)) ∧ Below w.heap.size w w' := by
  cases hb : (y.data.toList == x.data.toList)
  · rw [Bool.false_and]
    exact wanted_else x y sa np p g n c w h0 hn hp hg hc hx (by rw [ByteArray.toList_eq, ByteArray.toList_eq]; exact hb)
  · have hyx : y = x := by
      apply ByteArray.ext
      apply Array.toList_inj.1
      exact beq_iff_eq.1 hb
    subst hyx
    rw [Bool.true_and]
    by_cases he : np + 1 = n
    · have : (np == n - 1) = true := by rw [beq_iff_eq]; omega
      rw [this]
      exact wanted_just y sa np p g n c w h0 hn hp hg hc hx he
    · have : (np == n - 1) = false := by rw [beq_eq_false_iff_ne]; omega
      rw [this]
      exact wanted_few y sa np p g n c w h0 hn hp hg hc hx he

theorem npt_prt {k : Nat} (h1 : 1 ≤ k) (h : k ≤ 19) : npt k = (prt k).length := by
  rcases nat_cases h1 h with rfl | rfl | rfl | rfl | rfl | rfl | rfl | rfl | rfl | rfl | rfl | rfl | rfl | rfl | rfl | rfl | rfl | rfl | rfl <;> rfl
theorem kindOf_none {x : List UInt8} {n : Nat} (h : ∀ j, 1 ≤ j → j < 20 → isKind x n j = false) : kindOf x n = none := by
  unfold kindOf
  rw [List.find?_eq_none]
  intro j hj
  simp at hj
  rw [h j (by omega) (by omega)]
  simp
theorem kindOf_some {x : List UInt8} {n k : Nat} (h : ∀ j, 1 ≤ j → j < k → isKind x n j = false) (h1 : 1 ≤ k) (h19 : k ≤ 19) (hk : isKind x n k = true) : kindOf x n = some k := by
  unfold kindOf
  have hs : [1, 2, 3, 4, 5, 6, 7, 8, 9, 10, 11, 12, 13, 14, 15, 16, 17, 18, 19] = List.range' 1 (k - 1) ++ List.range' k (20 - k) := by
    rcases nat_cases h1 h19 with rfl | rfl | rfl | rfl | rfl | rfl | rfl | rfl | rfl | rfl | rfl | rfl | rfl | rfl | rfl | rfl | rfl | rfl | rfl <;> rfl
  rw [hs, List.find?_append]
  have hn : (List.range' 1 (k - 1)).find? (isKind x n) = none := by
    rw [List.find?_eq_none]
    intro j hj
    rw [List.mem_range'_1] at hj
    rw [h j (by omega) (by omega)]
    simp
  rw [hn, show 20 - k = (19 - k) + 1 by omega, List.range'_succ, List.find?_cons, hk]
  rfl

/-- What find answers. -/
def findV (o : Option Nat) : Value := match o with
  | some k => .tuple #[.int .i64 k, .bool true]
  | none => .tuple #[.int .i64 0, .bool false]

set_option maxHeartbeats 1000000 in
set_option maxRecDepth 20000 in
theorem find_any (x : ByteArray) (N p g n c : Nat) (w : World) (h0 : 0 < n) (hs : ShpAt N shps w) (hn : n ≤ 5000) (hp : p < w.heap.size) (hg : g < w.heap.size) (hc : w.cell? ⟨p, 0, none⟩ = some (.slice (some ⟨g, 0, none⟩) n c)) (hx : w.cell? ⟨g, 0, none⟩ = some (.string x)) :
    Calls Tryd.prog 93 #[.map (some N), .func (.func 94) #[] #[.pointer (some ⟨p, 0, none⟩)]] w fun e w' => e = .returned (findV (kindOf x.data.toList (n - 1))) ∧ Below w.heap.size w w' := by
  generalize hans : kindOf x.data.toList (n - 1) = ans
  have Hans := hideN hans
  clear hans
  go_enter Tryd.func93, Tryd.ntmps93
  go_wp2
  go_loopw [6] (fun i wr => ∃ k : Nat, 1 ≤ k ∧ k ≤ 20 ∧ i = .int .i64 k ∧ Hid (∀ j, 1 ≤ j → j < k → isKind x.data.toList (n - 1) j = false) ∧ Below w.heap.size w wr) (fun i _ => 20 - (intOf i).toNat)
  case atStart => exact ⟨1, Nat.le_refl _, by omega, rfl, (by intro j h1 h2; omega), Below.refl _ _⟩
  case round =>
    obtain ⟨k, hk1, hk, rfl, hno, hbr⟩ := hrel
    by_cases h20 : k = 20
    · subst h20
      have e0 : kindOf x.data.toList (n - 1) = none := kindOf_none hno.out
      obtain rfl : none = ans := e0.symm.trans Hans.out
      clear hno e0 hc hx hs Hans
      go_wp2
      go_ret2
      exact ⟨rfl, hbr⟩
    · have hk19 : k ≤ 19 := by omega
      obtain ⟨sa, hl⟩ := look_gen (hs.below hbr (Nat.le_refl _)) k hk1 hk19
      have hc' : wr.cell? ⟨p, 0, none⟩ = some (.slice (some ⟨g, 0, none⟩) n c) := by rw [hbr.cell hp]; exact hc
      have hx' : wr.cell? ⟨g, 0, none⟩ = some (.string x) := by rw [hbr.cell hg]; exact hx
      have s0 := hbr.size
      have m1 : (k : Int) ≤ 19 := by omega
      have hW := wanted_any x (wordB k) sa (npt k) p g n c wr h0 hn (by omega) (by omega) hc' hx'
      have hik : ((wordB k).data.toList == x.data.toList && npt k == n - 1) = isKind x.data.toList (n - 1) k := by unfold isKind; rw [npt_prt hk1 hk19]
      rw [hik] at hW
      cases hb : isKind x.data.toList (n - 1) k with
      | true =>
        have e0 := kindOf_some hno.out hk1 hk19 hb
        obtain rfl : some k = ans := e0.symm.trans Hans.out
        rw [hb] at hW
        clear hc' hx' hc hx hs hno e0 hik hb Hans
        go_wp2_with (go_at_call 94; refine hW.mono ?_; rintro e w1 ⟨rfl, hb1⟩)
        go_ret2
        exact ⟨rfl, hbr.trans (hb1.mono s0)⟩
      | false =>
        rw [hb] at hW
        have hno' : Hid (∀ j, 1 ≤ j → j < k + 1 → isKind x.data.toList (n - 1) j = false) := by
          intro j h1 h2
          by_cases hj : j = k
          · rw [hj]; exact hb
          · exact hno.out j h1 (by omega)
        clear hc' hx' hc hx hs hno hik hb
        go_wp2_with (go_at_call 94; refine hW.mono ?_; rintro e w1 ⟨rfl, hb1⟩)
        go_roundw
        case rel => exact ⟨k + 1, by omega, by omega, by go_num, hno', hbr.trans (hb1.mono s0)⟩
        case measure => simp [intOf]; omega

/-- Where a part lies in an instruction. -/
def posP (q : Nat) : Nat := match q with
  | 0 => 1 | 1 => 2 | 2 => 3 | 3 => 5 | _ => 4
set_option maxHeartbeats 1000000 in
set_option maxRecDepth 20000 in
theorem slot_any (b q : Nat) (w : World) :
    Calls Tryd.prog 63 #[.pointer (some ⟨b, 0, none⟩), .int .i64 q] w fun e w' => e = .returned (.pointer (some ⟨b, posP q, none⟩)) ∧ w' = w := by
  by_cases h0 : q = 0
  · subst h0
    go_enter Tryd.func63, Tryd.ntmps63
    go_wp2
    go_ret
    exact ⟨rfl, rfl⟩
  by_cases h1 : q = 1
  · subst h1
    go_enter Tryd.func63, Tryd.ntmps63
    go_wp2
    go_ret
    exact ⟨rfl, rfl⟩
  by_cases h2 : q = 2
  · subst h2
    go_enter Tryd.func63, Tryd.ntmps63
    go_wp2
    go_ret
    exact ⟨rfl, rfl⟩
  by_cases h3 : q = 3
  · subst h3
    go_enter Tryd.func63, Tryd.ntmps63
    go_wp2
    go_ret
    exact ⟨rfl, rfl⟩
  have e0 : ((q : Int) == 0) = false := by simp; omega
  have e1 : ((q : Int) == 1) = false := by simp; omega
  have e2 : ((q : Int) == 2) = false := by simp; omega
  have e3 : ((q : Int) == 3) = false := by simp; omega
  have ep : posP q = 4 := by
    unfold posP
    split <;> first | rfl | omega
  rw [ep]
  go_enter Tryd.func63, Tryd.ntmps63
  go_wp2
  go_ret
  exact ⟨rfl, rfl⟩

theorem look_parts {N : Nat} {w : World} (h : ShpAt N shps w) (k : Nat) (h1 : 1 ≤ k) (h19 : k ≤ 19) : ∃ sa, (Instr.lookup 60 (.map (some N)) (.int .i64 (k : Int)) false).run Tryd.prog w = .ok (.agg #[.string (wordB k), .slice sa (prt k).length (prt k).length]) w ∧ ∀ j (hj : j < (prt k).length), sa = some ⟨N + k, 0, none⟩ ∧ w.cell? ⟨N + k, j, none⟩ = some (.int .i64 ((prt k)[j] : Nat)) ∧ N + k < w.heap.size := by
  rcases nat_cases h1 h19 with rfl | rfl | rfl | rfl | rfl | rfl | rfl | rfl | rfl | rfl | rfl | rfl | rfl | rfl | rfl | rfl | rfl | rfl | rfl
  · refine ⟨_, look_val h 1 0 _ rfl, fun j hj => ?_⟩
    match j, hj with
    | 0, _ => exact ⟨rfl, part_cell h 0 0 (by decide) (by decide) (.int .i64 0) rfl⟩
    | 1, _ => exact ⟨rfl, part_cell h 0 1 (by decide) (by decide) (.int .i64 4) rfl⟩
  · refine ⟨_, look_val h 2 1 _ rfl, fun j hj => ?_⟩
    match j, hj with
    | 0, _ => exact ⟨rfl, part_cell h 1 0 (by decide) (by decide) (.int .i64 0) rfl⟩
    | 1, _ => exact ⟨rfl, part_cell h 1 1 (by decide) (by decide) (.int .i64 5) rfl⟩
  · refine ⟨_, look_val h 3 2 _ rfl, fun j hj => ?_⟩
    match j, hj with
    | 0, _ => exact ⟨rfl, part_cell h 2 0 (by decide) (by decide) (.int .i64 0) rfl⟩
  · refine ⟨_, look_val h 4 3 _ rfl, fun j hj => ?_⟩
    match j, hj with
    | 0, _ => exact ⟨rfl, part_cell h 3 0 (by decide) (by decide) (.int .i64 0) rfl⟩
    | 1, _ => exact ⟨rfl, part_cell h 3 1 (by decide) (by decide) (.int .i64 1) rfl⟩
  · refine ⟨_, look_val h 5 4 _ rfl, fun j hj => ?_⟩
    match j, hj with
    | 0, _ => exact ⟨rfl, part_cell h 4 0 (by decide) (by decide) (.int .i64 0) rfl⟩
    | 1, _ => exact ⟨rfl, part_cell h 4 1 (by decide) (by decide) (.int .i64 1) rfl⟩
    | 2, _ => exact ⟨rfl, part_cell h 4 2 (by decide) (by decide) (.int .i64 2) rfl⟩
  · refine ⟨_, look_val h 6 5 _ rfl, fun j hj => ?_⟩
    match j, hj with
    | 0, _ => exact ⟨rfl, part_cell h 5 0 (by decide) (by decide) (.int .i64 0) rfl⟩
    | 1, _ => exact ⟨rfl, part_cell h 5 1 (by decide) (by decide) (.int .i64 1) rfl⟩
    | 2, _ => exact ⟨rfl, part_cell h 5 2 (by decide) (by decide) (.int .i64 2) rfl⟩
  · refine ⟨_, look_val h 7 6 _ rfl, fun j hj => ?_⟩
    match j, hj with
    | 0, _ => exact ⟨rfl, part_cell h 6 0 (by decide) (by decide) (.int .i64 0) rfl⟩
    | 1, _ => exact ⟨rfl, part_cell h 6 1 (by decide) (by decide) (.int .i64 1) rfl⟩
    | 2, _ => exact ⟨rfl, part_cell h 6 2 (by decide) (by decide) (.int .i64 2) rfl⟩
  · refine ⟨_, look_val h 8 7 _ rfl, fun j hj => ?_⟩
    match j, hj with
    | 0, _ => exact ⟨rfl, part_cell h 7 0 (by decide) (by decide) (.int .i64 0) rfl⟩
    | 1, _ => exact ⟨rfl, part_cell h 7 1 (by decide) (by decide) (.int .i64 1) rfl⟩
    | 2, _ => exact ⟨rfl, part_cell h 7 2 (by decide) (by decide) (.int .i64 2) rfl⟩
  · refine ⟨_, look_val h 9 8 _ rfl, fun j hj => ?_⟩
    match j, hj with
    | 0, _ => exact ⟨rfl, part_cell h 8 0 (by decide) (by decide) (.int .i64 0) rfl⟩
    | 1, _ => exact ⟨rfl, part_cell h 8 1 (by decide) (by decide) (.int .i64 1) rfl⟩
    | 2, _ => exact ⟨rfl, part_cell h 8 2 (by decide) (by decide) (.int .i64 2) rfl⟩
  · refine ⟨_, look_val h 10 9 _ rfl, fun j hj => ?_⟩
    match j, hj with
    | 0, _ => exact ⟨rfl, part_cell h 9 0 (by decide) (by decide) (.int .i64 0) rfl⟩
    | 1, _ => exact ⟨rfl, part_cell h 9 1 (by decide) (by decide) (.int .i64 1) rfl⟩
  · refine ⟨_, look_val h 11 10 _ rfl, fun j hj => ?_⟩
    match j, hj with
    | 0, _ => exact ⟨rfl, part_cell h 10 0 (by decide) (by decide) (.int .i64 0) rfl⟩
  · refine ⟨_, look_val h 12 11 _ rfl, fun j hj => ?_⟩
    match j, hj with
    | 0, _ => exact ⟨rfl, part_cell h 11 0 (by decide) (by decide) (.int .i64 0) rfl⟩
    | 1, _ => exact ⟨rfl, part_cell h 11 1 (by decide) (by decide) (.int .i64 1) rfl⟩
    | 2, _ => exact ⟨rfl, part_cell h 11 2 (by decide) (by decide) (.int .i64 7) rfl⟩
  · refine ⟨_, look_val h 13 12 _ rfl, fun j hj => ?_⟩
    match j, hj with
    | 0, _ => exact ⟨rfl, part_cell h 12 0 (by decide) (by decide) (.int .i64 1) rfl⟩
    | 1, _ => exact ⟨rfl, part_cell h 12 1 (by decide) (by decide) (.int .i64 7) rfl⟩
    | 2, _ => exact ⟨rfl, part_cell h 12 2 (by decide) (by decide) (.int .i64 2) rfl⟩
  · refine ⟨_, look_val h 14 13 _ rfl, fun j hj => ?_⟩
    match j, hj with
    | 0, _ => exact ⟨rfl, part_cell h 13 0 (by decide) (by decide) (.int .i64 0) rfl⟩
    | 1, _ => exact ⟨rfl, part_cell h 13 1 (by decide) (by decide) (.int .i64 6) rfl⟩
  · refine ⟨_, look_val h 15 14 _ rfl, fun j hj => ?_⟩
    match j, hj with
    | 0, _ => exact ⟨rfl, part_cell h 14 0 (by decide) (by decide) (.int .i64 1) rfl⟩
    | 1, _ => exact ⟨rfl, part_cell h 14 1 (by decide) (by decide) (.int .i64 3) rfl⟩
  · refine ⟨_, look_val h 16 15 _ rfl, fun j hj => ?_⟩
    match j, hj with
    | 0, _ => exact ⟨rfl, part_cell h 15 0 (by decide) (by decide) (.int .i64 3) rfl⟩
  · refine ⟨_, look_val h 17 16 _ rfl, fun j hj => ?_⟩
    match j, hj with
    | 0, _ => exact ⟨rfl, part_cell h 16 0 (by decide) (by decide) (.int .i64 1) rfl⟩
  · refine ⟨_, look_val h 18 17 _ rfl, fun j hj => ?_⟩
    match j, hj with
    | 0, _ => exact ⟨rfl, part_cell h 17 0 (by decide) (by decide) (.int .i64 1) rfl⟩
  · refine ⟨_, look_val h 19 18 _ rfl, fun j hj => ?_⟩
    exact absurd hj (by simp [prt])
end Go.Proofs.YtmapdpcfanecdaaDoor
