/- Walks over package run: what the machine does, kind by kind. -/
import Derived.Test.YtmapdpcfanecdaaGreatKpicyp43
namespace Go.Proofs.YtmapdpcfanecdaaGreat
set_option linter.unusedVariables false
set_option linter.unusedSimpArgs false
open Go.RowKit
attribute [local go_sem ↓] Go.wp_at_zero Go.wp_at_succ

theorem any_drop_stepR {α : Type} (l : List α) (p : α → Bool) (k : Nat) (h : k < l.length) : (l.drop k).any p = (p l[k] || (l.drop (k + 1)).any p) := by
  rw [List.drop_eq_getElem_cons h]
  rfl
/-- A program lies in a block. -/
def P3 (w : World) (b : Nat) (V F : Int) (s : Option Addr) (n cap : Nat) : Prop := (w.cell? ⟨b, 0, none⟩ = some (.int .i64 V) ∧ w.cell? ⟨b, 1, none⟩ = some (.int .i64 F) ∧ w.cell? ⟨b, 2, none⟩ = some (.slice s n cap)) ∧ b < w.heap.size
theorem P3.new (w : World) (V F : Int) (s : Option Addr) (n cap : Nat) : P3 (w.alloc (.cells #[.int .i64 V, .int .i64 F, .slice s n cap] 24)) w.heap.size V F s n cap := by
  refine ⟨⟨?_, ?_, ?_⟩, ?_⟩ <;> simp [go_sem]
theorem P3.below {w w' : World} {B b : Nat} {V F : Int} {s : Option Addr} {n cap : Nat} (h : P3 w b V F s n cap) (hb : Below B w w') (hB : b < B) : P3 w' b V F s n cap := by
  obtain ⟨⟨h0, h1, h2⟩, hz⟩ := h
  exact ⟨⟨by rw [hb.cell hB]; exact h0, by rw [hb.cell hB]; exact h1, by rw [hb.cell hB]; exact h2⟩, Nat.lt_of_lt_of_le hz hb.size⟩
theorem P3.call {w w' : World} {b : Nat} {V F : Int} {s : Option Addr} {n cap : Nat} (h : P3 w b V F s n cap) (hb : Below w.heap.size w w') : P3 w' b V F s n cap := h.below hb h.2

set_option maxHeartbeats 1000000 in
set_option maxRecDepth 10000 in
theorem indexFunc_bad (q : Nat) (p : Val → Bool) (ss : Option Addr) (cap : Nat) (l : List Val) (w : World) (hl : l.length ≤ 9223372036854775807) (hs : ValsAt w ss l) (hF : ∀ (x : Val) (wx : World), Below w.heap.size w wx → Calls Tryz.prog 141 #[.agg #[.int .i64 x.k, .int .i64 x.n], .pointer (some ⟨q, 0, none⟩)] wx fun e w' => e = .returned (.bool (p x)) ∧ Below wx.heap.size wx w') :
    Calls Tryz.prog 154 #[.slice ss l.length cap, .func (.func 141) #[] #[.pointer (some ⟨q, 0, none⟩)]] w fun e w' => ∃ n : Int, e = .returned (.int .i64 n) ∧ decide (0 ≤ n) = l.any p ∧ Below w.heap.size w w' := by
  have HF := hideK hF
  clear hF
  go_enter Tryz.func154, Tryz.ntmps154
  go_wp2
  go_loopw [8] (fun i wr => ∃ k : Nat, k ≤ l.length ∧ i = .int .i64 k ∧ Below w.heap.size w wr ∧ Hid (l.any p = (l.drop k).any p)) (fun i _ => l.length - (intOf i).toNat)
  case atStart => exact ⟨0, Nat.zero_le _, rfl, Below.refl _ _, rfl⟩
  case round =>
    obtain ⟨k, hk, rfl, hbr, HA⟩ := hrel
    by_cases hlt : k < l.length
    · rcases hs with hs | ⟨b, off, rfl, hb, hc⟩
      · rw [hs] at hlt; simp at hlt
      have n0 : (0 : Int) ≤ (k : Int) := by omega
      have n1 : (k : Int) < (l.length : Int) := by omega
      have s0 := hbr.size
      obtain ⟨c0, c1⟩ := hc k hlt
      have c0 : wr.cell? ⟨b, off + k * 2, none⟩ = some (.int .i64 l[k].k) := by rw [hbr.cell (by simpa using hb)]; exact c0
      have c1 : wr.cell? ⟨b, off + k * 2 + 1, none⟩ = some (.int .i64 l[k].n) := by rw [hbr.cell (by simpa using hb)]; exact c1
      have HN : Hid ((l.drop k).any p = (p l[k] || (l.drop (k + 1)).any p)) := any_drop_stepR l p k hlt
      clear hc
      go_wp2_with (go_at_call 141; fail)
      refine (HF.out _ _ hbr).mono ?_
      rintro e w1 ⟨rfl, hb1⟩
      cases hp : p l[k] with
      | true =>
        have HT : Hid (l.any p = true) := by show _ = _; rw [HA.out, HN.out, hp]; rfl
        clear HN HA
        go_wp2
        go_ret
        exact ⟨_, rfl, by rw [HT.out]; simp, hbr.trans (hb1.mono s0)⟩
      | false =>
        have HT : Hid (l.any p = (l.drop (k + 1)).any p) := by show _ = _; rw [HA.out, HN.out, hp]; rfl
        clear HN HA
        go_wp2
        go_roundw
        case rel => exact ⟨k + 1, by omega, by go_num, hbr.trans (hb1.mono s0), HT⟩
        case measure => simp [intOf]; omega
    · go_wp2
      go_ret
      exact ⟨_, rfl, by rw [HA.out, List.drop_eq_nil_of_le (by omega)]; rfl, hbr⟩

set_option maxHeartbeats 1000000 in
theorem containsFunc_bad (q : Nat) (p : Val → Bool) (ss : Option Addr) (cap : Nat) (l : List Val) (w : World) (hl : l.length ≤ 9223372036854775807) (hs : ValsAt w ss l) (hF : ∀ (x : Val) (wx : World), Below w.heap.size w wx → Calls Tryz.prog 141 #[.agg #[.int .i64 x.k, .int .i64 x.n], .pointer (some ⟨q, 0, none⟩)] wx fun e w' => e = .returned (.bool (p x)) ∧ Below wx.heap.size wx w') :
    Calls Tryz.prog 144 #[.slice ss l.length cap, .func (.func 141) #[] #[.pointer (some ⟨q, 0, none⟩)]] w fun e w' => e = .returned (.bool (l.any p)) ∧ Below w.heap.size w w' := by
  have HF := hideK hF
  clear hF
  go_enter Tryz.func144, Tryz.ntmps144
  go_wp2_with (go_at_call 154; fail)
  refine (indexFunc_bad q p ss cap l _ hl hs HF.out).mono ?_
  rintro e w1 ⟨n, rfl, hn, hb1⟩
  go_wp2
  go_ret
  exact ⟨ret_bool (by rw [← hn]), hb1⟩

set_option maxHeartbeats 1000000 in
set_option maxRecDepth 10000 in
theorem indexFunc_homeless (q : Nat) (p : Thg → Bool) (ss : Option Addr) (cap : Nat) (l : List Thg) (w : World) (hl : l.length ≤ 9223372036854775807) (hs : ThgsAt w ss l) (hF : ∀ (x : Thg) (f : Option Addr) (fc : Nat) (wx : World), x ∈ l → Below w.heap.size w wx → ValsAt wx f x.fs → Calls Tryz.prog 139 #[.agg #[.int .i64 x.site, .slice f x.fs.length fc], .pointer (some ⟨q, 0, none⟩)] wx fun e w' => e = .returned (.bool (p x)) ∧ Below wx.heap.size wx w') :
    Calls Tryz.prog 155 #[.slice ss l.length cap, .func (.func 139) #[] #[.pointer (some ⟨q, 0, none⟩)]] w fun e w' => ∃ n : Int, e = .returned (.int .i64 n) ∧ decide (0 ≤ n) = l.any p ∧ Below w.heap.size w w' := by
  have HF := hideK hF
  clear hF
  go_enter Tryz.func155, Tryz.ntmps155
  go_wp2
  go_loopw [8] (fun i wr => ∃ k : Nat, k ≤ l.length ∧ i = .int .i64 k ∧ Below w.heap.size w wr ∧ Hid (l.any p = (l.drop k).any p)) (fun i _ => l.length - (intOf i).toNat)
  case atStart => exact ⟨0, Nat.zero_le _, rfl, Below.refl _ _, rfl⟩
  case round =>
    obtain ⟨k, hk, rfl, hbr, HA⟩ := hrel
    by_cases hlt : k < l.length
    · rcases hs with hs | ⟨b, off, rfl, hb, hc⟩
      · rw [hs] at hlt; simp at hlt
      have n0 : (0 : Int) ≤ (k : Int) := by omega
      have n1 : (k : Int) < (l.length : Int) := by omega
      have s0 := hbr.size
      obtain ⟨c0, f, fc, c1, hv⟩ := hc k hlt
      have c0 : wr.cell? ⟨b, off + k * 2, none⟩ = some (.int .i64 l[k].site) := by rw [hbr.cell (by simpa using hb)]; exact c0
      have c1 : wr.cell? ⟨b, off + k * 2 + 1, none⟩ = some (.slice f l[k].fs.length fc) := by rw [hbr.cell (by simpa using hb)]; exact c1
      have hv' := hv.below hbr (Nat.le_refl _)
      have HN : Hid ((l.drop k).any p = (p l[k] || (l.drop (k + 1)).any p)) := any_drop_stepR l p k hlt
      clear hc
      go_wp2_with (go_at_call 139; fail)
      refine (HF.out _ _ _ _ (List.getElem_mem hlt) hbr hv').mono ?_
      rintro e w1 ⟨rfl, hb1⟩
      cases hp : p l[k] with
      | true =>
        have HT : Hid (l.any p = true) := by show _ = _; rw [HA.out, HN.out, hp]; rfl
        clear HN HA
        go_wp2
        go_ret
        exact ⟨_, rfl, by rw [HT.out]; simp, hbr.trans (hb1.mono s0)⟩
      | false =>
        have HT : Hid (l.any p = (l.drop (k + 1)).any p) := by show _ = _; rw [HA.out, HN.out, hp]; rfl
        clear HN HA
        go_wp2
        go_roundw
        case rel => exact ⟨k + 1, by omega, by go_num, hbr.trans (hb1.mono s0), HT⟩
        case measure => simp [intOf]; omega
    · go_wp2
      go_ret
      exact ⟨_, rfl, by rw [HA.out, List.drop_eq_nil_of_le (by omega)]; rfl, hbr⟩

set_option maxHeartbeats 1000000 in
theorem containsFunc_homeless (q : Nat) (p : Thg → Bool) (ss : Option Addr) (cap : Nat) (l : List Thg) (w : World) (hl : l.length ≤ 9223372036854775807) (hs : ThgsAt w ss l) (hF : ∀ (x : Thg) (f : Option Addr) (fc : Nat) (wx : World), x ∈ l → Below w.heap.size w wx → ValsAt wx f x.fs → Calls Tryz.prog 139 #[.agg #[.int .i64 x.site, .slice f x.fs.length fc], .pointer (some ⟨q, 0, none⟩)] wx fun e w' => e = .returned (.bool (p x)) ∧ Below wx.heap.size wx w') :
    Calls Tryz.prog 145 #[.slice ss l.length cap, .func (.func 139) #[] #[.pointer (some ⟨q, 0, none⟩)]] w fun e w' => e = .returned (.bool (l.any p)) ∧ Below w.heap.size w w' := by
  have HF := hideK hF
  clear hF
  go_enter Tryz.func145, Tryz.ntmps145
  go_wp2_with (go_at_call 155; fail)
  refine (indexFunc_homeless q p ss cap l _ hl hs HF.out).mono ?_
  rintro e w1 ⟨n, rfl, hn, hb1⟩
  go_wp2
  go_ret
  exact ⟨ret_bool (by rw [← hn]), hb1⟩

set_option maxHeartbeats 1000000 in
set_option maxRecDepth 10000 in
theorem indexFunc_misshapen (q : Nat) (p : Thg → Bool) (ss : Option Addr) (cap : Nat) (l : List Thg) (w : World) (hl : l.length ≤ 9223372036854775807) (hs : ThgsAt w ss l) (hF : ∀ (x : Thg) (f : Option Addr) (fc : Nat) (wx : World), x ∈ l → Below w.heap.size w wx → ValsAt wx f x.fs → Calls Tryz.prog 140 #[.agg #[.int .i64 x.site, .slice f x.fs.length fc], .pointer (some ⟨q, 0, none⟩)] wx fun e w' => e = .returned (.bool (p x)) ∧ Below wx.heap.size wx w') :
    Calls Tryz.prog 155 #[.slice ss l.length cap, .func (.func 140) #[] #[.pointer (some ⟨q, 0, none⟩)]] w fun e w' => ∃ n : Int, e = .returned (.int .i64 n) ∧ decide (0 ≤ n) = l.any p ∧ Below w.heap.size w w' := by
  have HF := hideK hF
  clear hF
  go_enter Tryz.func155, Tryz.ntmps155
  go_wp2
  go_loopw [8] (fun i wr => ∃ k : Nat, k ≤ l.length ∧ i = .int .i64 k ∧ Below w.heap.size w wr ∧ Hid (l.any p = (l.drop k).any p)) (fun i _ => l.length - (intOf i).toNat)
  case atStart => exact ⟨0, Nat.zero_le _, rfl, Below.refl _ _, rfl⟩
  case round =>
    obtain ⟨k, hk, rfl, hbr, HA⟩ := hrel
    by_cases hlt : k < l.length
    · rcases hs with hs | ⟨b, off, rfl, hb, hc⟩
      · rw [hs] at hlt; simp at hlt
      have n0 : (0 : Int) ≤ (k : Int) := by omega
      have n1 : (k : Int) < (l.length : Int) := by omega
      have s0 := hbr.size
      obtain ⟨c0, f, fc, c1, hv⟩ := hc k hlt
      have c0 : wr.cell? ⟨b, off + k * 2, none⟩ = some (.int .i64 l[k].site) := by rw [hbr.cell (by simpa using hb)]; exact c0
      have c1 : wr.cell? ⟨b, off + k * 2 + 1, none⟩ = some (.slice f l[k].fs.length fc) := by rw [hbr.cell (by simpa using hb)]; exact c1
      have hv' := hv.below hbr (Nat.le_refl _)
      have HN : Hid ((l.drop k).any p = (p l[k] || (l.drop (k + 1)).any p)) := any_drop_stepR l p k hlt
      clear hc
      go_wp2_with (go_at_call 140; fail)
      refine (HF.out _ _ _ _ (List.getElem_mem hlt) hbr hv').mono ?_
      rintro e w1 ⟨rfl, hb1⟩
      cases hp : p l[k] with
      | true =>
        have HT : Hid (l.any p = true) := by show _ = _; rw [HA.out, HN.out, hp]; rfl
        clear HN HA
        go_wp2
        go_ret
        exact ⟨_, rfl, by rw [HT.out]; simp, hbr.trans (hb1.mono s0)⟩
      | false =>
        have HT : Hid (l.any p = (l.drop (k + 1)).any p) := by show _ = _; rw [HA.out, HN.out, hp]; rfl
        clear HN HA
        go_wp2
        go_roundw
        case rel => exact ⟨k + 1, by omega, by go_num, hbr.trans (hb1.mono s0), HT⟩
        case measure => simp [intOf]; omega
    · go_wp2
      go_ret
      exact ⟨_, rfl, by rw [HA.out, List.drop_eq_nil_of_le (by omega)]; rfl, hbr⟩

set_option maxHeartbeats 1000000 in
theorem containsFunc_misshapen (q : Nat) (p : Thg → Bool) (ss : Option Addr) (cap : Nat) (l : List Thg) (w : World) (hl : l.length ≤ 9223372036854775807) (hs : ThgsAt w ss l) (hF : ∀ (x : Thg) (f : Option Addr) (fc : Nat) (wx : World), x ∈ l → Below w.heap.size w wx → ValsAt wx f x.fs → Calls Tryz.prog 140 #[.agg #[.int .i64 x.site, .slice f x.fs.length fc], .pointer (some ⟨q, 0, none⟩)] wx fun e w' => e = .returned (.bool (p x)) ∧ Below wx.heap.size wx w') :
    Calls Tryz.prog 145 #[.slice ss l.length cap, .func (.func 140) #[] #[.pointer (some ⟨q, 0, none⟩)]] w fun e w' => e = .returned (.bool (l.any p)) ∧ Below w.heap.size w w' := by
  have HF := hideK hF
  clear hF
  go_enter Tryz.func145, Tryz.ntmps145
  go_wp2_with (go_at_call 155; fail)
  refine (indexFunc_misshapen q p ss cap l _ hl hs HF.out).mono ?_
  rintro e w1 ⟨n, rfl, hn, hb1⟩
  go_wp2
  go_ret
  exact ⟨ret_bool (by rw [← hn]), hb1⟩

set_option maxHeartbeats 1000000 in
set_option maxRecDepth 10000 in
theorem indexFunc_holdsBad (q : Nat) (p : Thg → Bool) (ss : Option Addr) (cap : Nat) (l : List Thg) (w : World) (hl : l.length ≤ 9223372036854775807) (hs : ThgsAt w ss l) (hF : ∀ (x : Thg) (f : Option Addr) (fc : Nat) (wx : World), x ∈ l → Below w.heap.size w wx → ValsAt wx f x.fs → Calls Tryz.prog 143 #[.agg #[.int .i64 x.site, .slice f x.fs.length fc], .pointer (some ⟨q, 0, none⟩)] wx fun e w' => e = .returned (.bool (p x)) ∧ Below wx.heap.size wx w') :
    Calls Tryz.prog 155 #[.slice ss l.length cap, .func (.func 143) #[] #[.pointer (some ⟨q, 0, none⟩)]] w fun e w' => ∃ n : Int, e = .returned (.int .i64 n) ∧ decide (0 ≤ n) = l.any p ∧ Below w.heap.size w w' := by
  have HF := hideK hF
  clear hF
  go_enter Tryz.func155, Tryz.ntmps155
  go_wp2
  go_loopw [8] (fun i wr => ∃ k : Nat, k ≤ l.length ∧ i = .int .i64 k ∧ Below w.heap.size w wr ∧ Hid (l.any p = (l.drop k).any p)) (fun i _ => l.length - (intOf i).toNat)
  case atStart => exact ⟨0, Nat.zero_le _, rfl, Below.refl _ _, rfl⟩
  case round =>
    obtain ⟨k, hk, rfl, hbr, HA⟩ := hrel
    by_cases hlt : k < l.length
    · rcases hs with hs | ⟨b, off, rfl, hb, hc⟩
      · rw [hs] at hlt; simp at hlt
      have n0 : (0 : Int) ≤ (k : Int) := by omega
      have n1 : (k : Int) < (l.length : Int) := by omega
      have s0 := hbr.size
      obtain ⟨c0, f, fc, c1, hv⟩ := hc k hlt
      have c0 : wr.cell? ⟨b, off + k * 2, none⟩ = some (.int .i64 l[k].site) := by rw [hbr.cell (by simpa using hb)]; exact c0
      have c1 : wr.cell? ⟨b, off + k * 2 + 1, none⟩ = some (.slice f l[k].fs.length fc) := by rw [hbr.cell (by simpa using hb)]; exact c1
      have hv' := hv.below hbr (Nat.le_refl _)
      have HN : Hid ((l.drop k).any p = (p l[k] || (l.drop (k + 1)).any p)) := any_drop_stepR l p k hlt
      clear hc
      go_wp2_with (go_at_call 143; fail)
      refine (HF.out _ _ _ _ (List.getElem_mem hlt) hbr hv').mono ?_
      rintro e w1 ⟨rfl, hb1⟩
      cases hp : p l[k] with
      | true =>
        have HT : Hid (l.any p = true) := by show _ = _; rw [HA.out, HN.out, hp]; rfl
        clear HN HA
        go_wp2
        go_ret
        exact ⟨_, rfl, by rw [HT.out]; simp, hbr.trans (hb1.mono s0)⟩
      | false =>
        have HT : Hid (l.any p = (l.drop (k + 1)).any p) := by show _ = _; rw [HA.out, HN.out, hp]; rfl
        clear HN HA
        go_wp2
        go_roundw
        case rel => exact ⟨k + 1, by omega, by go_num, hbr.trans (hb1.mono s0), HT⟩
        case measure => simp [intOf]; omega
    · go_wp2
      go_ret
      exact ⟨_, rfl, by rw [HA.out, List.drop_eq_nil_of_le (by omega)]; rfl, hbr⟩

set_option maxHeartbeats 1000000 in
theorem containsFunc_holdsBad (q : Nat) (p : Thg → Bool) (ss : Option Addr) (cap : Nat) (l : List Thg) (w : World) (hl : l.length ≤ 9223372036854775807) (hs : ThgsAt w ss l) (hF : ∀ (x : Thg) (f : Option Addr) (fc : Nat) (wx : World), x ∈ l → Below w.heap.size w wx → ValsAt wx f x.fs → Calls Tryz.prog 143 #[.agg #[.int .i64 x.site, .slice f x.fs.length fc], .pointer (some ⟨q, 0, none⟩)] wx fun e w' => e = .returned (.bool (p x)) ∧ Below wx.heap.size wx w') :
    Calls Tryz.prog 145 #[.slice ss l.length cap, .func (.func 143) #[] #[.pointer (some ⟨q, 0, none⟩)]] w fun e w' => e = .returned (.bool (l.any p)) ∧ Below w.heap.size w w' := by
  have HF := hideK hF
  clear hF
  go_enter Tryz.func145, Tryz.ntmps145
  go_wp2_with (go_at_call 155; fail)
  refine (indexFunc_holdsBad q p ss cap l _ hl hs HF.out).mono ?_
  rintro e w1 ⟨n, rfl, hn, hb1⟩
  go_wp2
  go_ret
  exact ⟨ret_bool (by rw [← hn]), hb1⟩
end Go.Proofs.YtmapdpcfanecdaaGreat
