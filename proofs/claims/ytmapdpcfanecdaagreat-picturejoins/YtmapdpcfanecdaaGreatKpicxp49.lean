/- Walks over package run: what the machine does, kind by kind. -/
import Derived.Test.YtmapdpcfanecdaaGreatKpicxp48
import Derived.Test.YtmapdpcfanecdaaGreatKpicxp47
namespace Go.Proofs.YtmapdpcfanecdaaGreat
set_option linter.unusedVariables false
set_option linter.unusedSimpArgs false
open Go.RowKit
attribute [local go_sem ↓] Go.wp_at_zero Go.wp_at_succ

theorem any_drop_stepR {α : Type} (l : List α) (p : α → Bool) (k : Nat) (h : k < l.length) : (l.drop k).any p = (p l[k] || (l.drop (k + 1)).any p) := by
  rw [List.drop_eq_getElem_cons h]
  rfl
/-- A program lies in a block. -/
def P3 (w : World) (b : Nat) (V F : Int) (s : Option Addr) (n cap : Nat) : Prop := (w.cell? ⟨b, 0, none⟩ = some (.int .i64 V) ∧ w.cell? ⟨b, 1, none⟩ = some (.int .i64 F) ∧ w.cell? ⟨b, 2, none⟩ = some (.slice s n cap)) ∧ b < w.heap.size
theorem P3.new (w : World) (V F : Int) (s : Option Addr) (n cap : Nat) : P3 (w.alloc (.cells #[.int .i64 V, .int .i64 F, .slice s n cap] 24)) w.heap.size V F s n cap := by
  refine ⟨⟨?_, ?_, ?_⟩, ?_⟩ <;> simp [go_sem]
theorem P3.below {w w' : World} {B b : Nat} {V F : Int} {s : Option Addr} {n cap : Nat} (h : P3 w b V F s n cap) (hb : Below B w w') (hB : b < B) : P3 w' b V F s n cap := by
  obtain ⟨⟨h0, h1, h2⟩, hz⟩ := h
  exact ⟨⟨by rw [hb.cell hB]; exact h0, by rw [hb.cell hB]; exact h1, by rw [hb.cell hB]; exact h2⟩, Nat.lt_of_lt_of_le hz hb.size⟩
theorem P3.call {w w' : World} {b : Nat} {V F : Int} {s : Option Addr} {n cap : Nat} (h : P3 w b V F s n cap) (hb : Below w.heap.size w w') : P3 w' b V F s n cap := h.below hb h.2

set_option maxHeartbeats 1000000 in
set_option maxRecDepth 10000 in
theorem indexFunc_bad (q : Nat) (p : Val → Bool) (ss : Option Addr) (cap : Nat) (l : List Val) (w : World) (hl : l.length ≤ 9223372036854775807) (hs : ValsAt w ss l) (hF : ∀ (x : Val) (wx : World), Below w.heap.size w wx → Calls Tryz.prog 141 #[.agg #[.int .i64 x.k, .int .i64 x.n], .pointer (some ⟨q, 0, none⟩)] wx fun e w' => e = .returned (.bool (p x)) ∧ Below wx.heap.size wx w') :
    Calls Tryz.prog 154 #[.slice ss l.length cap, .func (.func 141) #[] #[.pointer (some ⟨q, 0, none⟩)]] w fun e w' => ∃ n : Int, e = .returned (.int .i64 n) ∧ decide (0 ≤ n) = l.any p ∧ Below w.heap.size w w' := by
  have HF := hideK hF
  clear hF
  go_enter Tryz.func154, Tryz.ntmps154
  go_wp2
  go_loopw [8] (fun i wr => ∃ k : Nat, k ≤ l.length ∧ i = .int .i64 k ∧ Below w.heap.size w wr ∧ Hid (l.any p = (l.drop k).any p)) (fun i _ => l.length - (intOf i).toNat)
  case atStart => exact ⟨0, Nat.zero_le _, rfl, Below.refl _ _, rfl⟩
  case round =>
    obtain ⟨k, hk, rfl, hbr, HA⟩ := hrel
    by_cases hlt : k < l.length
    · rcases hs with hs | ⟨b, off, rfl, hb, hc⟩
      · rw [hs] at hlt; simp at hlt
      have n0 : (0 : Int) ≤ (k : Int) := by omega
      have n1 : (k : Int) < (l.length : Int) := by omega
      have s0 := hbr.size
      obtain ⟨c0, c1⟩ := hc k hlt
      have c0 : wr.cell? ⟨b, off + k * 2, none⟩ = some (.int .i64 l[k].k) := by rw [hbr.cell (by simpa using hb)]; exact c0
      have c1 : wr.cell? ⟨b, off + k * 2 + 1, none⟩ = some (.int .i64 l[k].n) := by rw [hbr.cell (by simpa using hb)]; exact c1
      have HN : Hid ((l.drop k).any p = (p l[k] || (l.drop (k + 1)).any p)) := any_drop_stepR l p k hlt
      clear hc
      go_wp2_with (go_at_call 141; fail)
      refine (HF.out _ _ hbr).mono ?_
      rintro e w1 ⟨rfl, hb1⟩
      cases hp : p l[k] with
      | true =>
        have HT : Hid (l.any p = true) := by show _ = _; rw [HA.out, HN.out, hp]; rfl
        clear HN HA
        go_wp2
        go_ret
        exact ⟨_, rfl, by rw [HT.out]; simp, hbr.trans (hb1.mono s0)⟩
      | false =>
        have HT : Hid (l.any p = (l.drop (k + 1)).any p) := by show _ = _; rw [HA.out, HN.out, hp]; rfl
        clear HN HA
        go_wp2
        go_roundw
        case rel => exact ⟨k + 1, by omega, by go_num, hbr.trans (hb1.mono s0), HT⟩
        case measure => simp [intOf]; omega
    · go_wp2
      go_ret
      exact ⟨_, rfl, by rw [HA.out, List.drop_eq_nil_of_le (by omega)]; rfl, hbr⟩

set_option maxHeartbeats 1000000 in
theorem containsFunc_bad (q : Nat) (p : Val → Bool) (ss : Option Addr) (cap : Nat) (l : List Val) (w : World) (hl : l.length ≤ 9223372036854775807) (hs : ValsAt w ss l) (hF : ∀ (x : Val) (wx : World), Below w.heap.size w wx → Calls Tryz.prog 141 #[.agg #[.int .i64 x.k, .int .i64 x.n], .pointer (some ⟨q, 0, none⟩)] wx fun e w' => e = .returned (.bool (p x)) ∧ Below wx.heap.size wx w') :
    Calls Tryz.prog 144 #[.slice ss l.length cap, .func (.func 141) #[] #[.pointer (some ⟨q, 0, none⟩)]] w fun e w' => e = .returned (.bool (l.any p)) ∧ Below w.heap.size w w' := by
  have HF := hideK hF
  clear hF
  go_enter Tryz.func144, Tryz.ntmps144
  go_wp2_with (go_at_call 154; fail)
  refine (indexFunc_bad q p ss cap l _ hl hs HF.out).mono ?_
  rintro e w1 ⟨n, rfl, hn, hb1⟩
  go_wp2
  go_ret
  exact ⟨ret_bool (by rw [← hn]), hb1⟩

set_option maxHeartbeats 1000000 in
set_option maxRecDepth 10000 in
theorem indexFunc_homeless (q : Nat) (p : Thg → Bool) (ss : Option Addr) (cap : Nat) (l : List Thg) (w : World) (hl : l.length ≤ 9223372036854775807) (hs : ThgsAt w ss l) (hF : ∀ (x : Thg) (f : Option Addr) (fc : Nat) (wx : World), x ∈ l → Below w.heap.size w wx → ValsAt wx f x.fs → Calls Tryz.prog 139 #[.agg #[.int .i64 x.site, .slice f x.fs.length fc], .pointer (some ⟨q, 0, none⟩)] wx fun e w' => e = .returned (.bool (p x)) ∧ Below wx.heap.size wx w') :
    Calls Tryz.prog 155 #[.slice ss l.length cap, .func (.func 139) #[] #[.pointer (some ⟨q, 0, none⟩)]] w fun e w' => ∃ n : Int, e = .returned (.int .i64 n) ∧ decide (0 ≤ n) = l.any p ∧ Below w.heap.size w w' := by
  have HF := hideK hF
  clear hF
  go_enter Tryz.func155, Tryz.ntmps155
  go_wp2
  go_loopw [8] (fun i wr => ∃ k : Nat, k ≤ l.length ∧ i = .int .i64 k ∧ Below w.heap.size w wr ∧ Hid (l.any p = (l.drop k).any p)) (fun i _ => l.length - (intOf i).toNat)
  case atStart => exact ⟨0, Nat.zero_le _, rfl, Below.refl _ _, rfl⟩
  case round =>
    obtain ⟨k, hk, rfl, hbr, HA⟩ := hrel
    by_cases hlt : k < l.length
    · rcases hs with hs | ⟨b, off, rfl, hb, hc⟩
      · rw [hs] at hlt; simp at hlt
      have n0 : (0 : Int) ≤ (k : Int) := by omega
      have n1 : (k : Int) < (l.length : Int) := by omega
      have s0 := hbr.size
      obtain ⟨c0, f, fc, c1, hv⟩ := hc k hlt
      have c0 : wr.cell? ⟨b, off + k * 2, none⟩ = some (.int .i64 l[k].site) := by rw [hbr.cell (by simpa using hb)]; exact c0
      have c1 : wr.cell? ⟨b, off + k * 2 + 1, none⟩ = some (.slice f l[k].fs.length fc) := by rw [hbr.cell (by simpa using hb)]; exact c1
      have hv' := hv.below hbr (Nat.le_refl _)
      have HN : Hid ((l.drop k).any p = (p l[k] || (l.drop (k + 1)).any p)) := any_drop_stepR l p k hlt
      clear hc
      go_wp2_with (go_at_call 139; fail)
      refine (HF.out _ _ _ _ (List.getElem_mem hlt) hbr hv').mono ?_
      rintro e w1 ⟨rfl, hb1⟩
      cases hp : p l[k] with
      | true =>
        have HT : Hid (l.any p = true) := by show _ = _; rw [HA.out, HN.out, hp]; rfl
        clear HN HA
        go_wp2
        go_ret
        exact ⟨_, rfl, by rw [HT.out]; simp, hbr.trans (hb1.mono s0)⟩
      | false =>
        have HT : Hid (l.any p = (l.drop (k + 1)).any p) := by show _ = _; rw [HA.out, HN.out, hp]; rfl
        clear HN HA
        go_wp2
        go_roundw
        case rel => exact ⟨k + 1, by omega, by go_num, hbr.trans (hb1.mono s0), HT⟩
        case measure => simp [intOf]; omega
    · go_wp2
      go_ret
      exact ⟨_, rfl, by rw [HA.out, List.drop_eq_nil_of_le (by omega)]; rfl, hbr⟩

set_option maxHeartbeats 1000000 in
theorem containsFunc_homeless (q : Nat) (p : Thg → Bool) (ss : Option Addr) (cap : Nat) (l : List Thg) (w : World) (hl : l.length ≤ 9223372036854775807) (hs : ThgsAt w ss l) (hF : ∀ (x : Thg) (f : Option Addr) (fc : Nat) (wx : World), x ∈ l → Below w.heap.size w wx → ValsAt wx f x.fs → Calls Tryz.prog 139 #[.agg #[.int .i64 x.site, .slice f x.fs.length fc], .pointer (some ⟨q, 0, none⟩)] wx fun e w' => e = .returned (.bool (p x)) ∧ Below wx.heap.size wx w') :
    Calls Tryz.prog 145 #[.slice ss l.length cap, .func (.func 139) #[] #[.pointer (some ⟨q, 0, none⟩)]] w fun e w' => e = .returned (.bool (l.any p)) ∧ Below w.heap.size w w' := by
  have HF := hideK hF
  clear hF
  go_enter Tryz.func145, Tryz.ntmps145
  go_wp2_with (go_at_call 155; fail)
  refine (indexFunc_homeless q p ss cap l _ hl hs HF.out).mono ?_
  rintro e w1 ⟨n, rfl, hn, hb1⟩
  go_wp2
  go_ret
  exact ⟨ret_bool (by rw [← hn]), hb1⟩

set_option maxHeartbeats 1000000 in
set_option maxRecDepth 10000 in
theorem indexFunc_misshapen (q : Nat) (p : Thg → Bool) (ss : Option Addr) (cap : Nat) (l : List Thg) (w : World) (hl : l.length ≤ 9223372036854775807) (hs : ThgsAt w ss l) (hF : ∀ (x : Thg) (f : Option Addr) (fc : Nat) (wx : World), x ∈ l → Below w.heap.size w wx → ValsAt wx f x.fs → Calls Tryz.prog 140 #[.agg #[.int .i64 x.site, .slice f x.fs.length fc], .pointer (some ⟨q, 0, none⟩)] wx fun e w' => e = .returned (.bool (p x)) ∧ Below wx.heap.size wx w') :
    Calls Tryz.prog 155 #[.slice ss l.length cap, .func (.func 140) #[] #[.pointer (some ⟨q, 0, none⟩)]] w fun e w' => ∃ n : Int, e = .returned (.int .i64 n) ∧ decide (0 ≤ n) = l.any p ∧ Below w.heap.size w w' := by
  have HF := hideK hF
  clear hF
  go_enter Tryz.func155, Tryz.ntmps155
  go_wp2
  go_loopw [8] (fun i wr => ∃ k : Nat, k ≤ l.length ∧ i = .int .i64 k ∧ Below w.heap.size w wr ∧ Hid (l.any p = (l.drop k).any p)) (fun i _ => l.length - (intOf i).toNat)
  case atStart => exact ⟨0, Nat.zero_le _, rfl, Below.refl _ _, rfl⟩
  case round =>
    obtain ⟨k, hk, rfl, hbr, HA⟩ := hrel
    by_cases hlt : k < l.length
    · rcases hs with hs | ⟨b, off, rfl, hb, hc⟩
      · rw [hs] at hlt; simp at hlt
      have n0 : (0 : Int) ≤ (k : Int) := by omega
      have n1 : (k : Int) < (l.length : Int) := by omega
      have s0 := hbr.size
      obtain ⟨c0, f, fc, c1, hv⟩ := hc k hlt
      have c0 : wr.cell? ⟨b, off + k * 2, none⟩ = some (.int .i64 l[k].site) := by rw [hbr.cell (by simpa using hb)]; exact c0
      have c1 : wr.cell? ⟨b, off + k * 2 + 1, none⟩ = some (.slice f l[k].fs.length fc) := by rw [hbr.cell (by simpa using hb)]; exact c1
      have hv' := hv.below hbr (Nat.le_refl _)
      have HN : Hid ((l.drop k).any p = (p l[k] || (l.drop (k + 1)).any p)) := any_drop_stepR l p k hlt
      clear hc
      go_wp2_with (go_at_call 140; fail)
      refine (HF.out _ _ _ _ (List.getElem_mem hlt) hbr hv').mono ?_
      rintro e w1 ⟨rfl, hb1⟩
      cases hp : p l[k] with
      | true =>
        have HT : Hid (l.any p = true) := by show _ = _; rw [HA.out, HN.out, hp]; rfl
        clear HN HA
        go_wp2
        go_ret
        exact ⟨_, rfl, by rw [HT.out]; simp, hbr.trans (hb1.mono s0)⟩
      | false =>
        have HT : Hid (l.any p = (l.drop (k + 1)).any p) := by show _ = _; rw [HA.out, HN.out, hp]; rfl
        clear HN HA
        go_wp2
        go_roundw
        case rel => exact ⟨k + 1, by omega, by go_num, hbr.trans (hb1.mono s0), HT⟩
        case measure => simp [intOf]; omega
    · go_wp2
      go_ret
      exact ⟨_, rfl, by rw [HA.out, List.drop_eq_nil_of_le (by omega)]; rfl, hbr⟩

set_option maxHeartbeats 1000000 in
theorem containsFunc_misshapen (q : Nat) (p : Thg → Bool) (ss : Option Addr) (cap : Nat) (l : List Thg) (w : World) (hl : l.length ≤ 9223372036854775807) (hs : ThgsAt w ss l) (hF : ∀ (x : Thg) (f : Option Addr) (fc : Nat) (wx : World), x ∈ l → Below w.heap.size w wx → ValsAt wx f x.fs → Calls Tryz.prog 140 #[.agg #[.int .i64 x.site, .slice f x.fs.length fc], .pointer (some ⟨q, 0, none⟩)] wx fun e w' => e = .returned (.bool (p x)) ∧ Below wx.heap.size wx w') :
    Calls Tryz.prog 145 #[.slice ss l.length cap, .func (.func 140) #[] #[.pointer (some ⟨q, 0, none⟩)]] w fun e w' => e = .returned (.bool (l.any p)) ∧ Below w.heap.size w w' := by
  have HF := hideK hF
  clear hF
  go_enter Tryz.func145, Tryz.ntmps145
  go_wp2_with (go_at_call 155; fail)
  refine (indexFunc_misshapen q p ss cap l _ hl hs HF.out).mono ?_
  rintro e w1 ⟨n, rfl, hn, hb1⟩
  go_wp2
  go_ret
  exact ⟨ret_bool (by rw [← hn]), hb1⟩

set_option maxHeartbeats 1000000 in
set_option maxRecDepth 10000 in
theorem indexFunc_holdsBad (q : Nat) (p : Thg → Bool) (ss : Option Addr) (cap : Nat) (l : List Thg) (w : World) (hl : l.length ≤ 9223372036854775807) (hs : ThgsAt w ss l) (hF : ∀ (x : Thg) (f : Option Addr) (fc : Nat) (wx : World), x ∈ l → Below w.heap.size w wx → ValsAt wx f x.fs → Calls Tryz.prog 143 #[.agg #[.int .i64 x.site, .slice f x.fs.length fc], .pointer (some ⟨q, 0, none⟩)] wx fun e w' => e = .returned (.bool (p x)) ∧ Below wx.heap.size wx w') :
    Calls Tryz.prog 155 #[.slice ss l.length cap, .func (.func 143) #[] #[.pointer (some ⟨q, 0, none⟩)]] w fun e w' => ∃ n : Int, e = .returned (.int .i64 n) ∧ decide (0 ≤ n) = l.any p ∧ Below w.heap.size w w' := by
  have HF := hideK hF
  clear hF
  go_enter Tryz.func155, Tryz.ntmps155
  go_wp2
  go_loopw [8] (fun i wr => ∃ k : Nat, k ≤ l.length ∧ i = .int .i64 k ∧ Below w.heap.size w wr ∧ Hid (l.any p = (l.drop k).any p)) (fun i _ => l.length - (intOf i).toNat)
  case atStart => exact ⟨0, Nat.zero_le _, rfl, Below.refl _ _, rfl⟩
  case round =>
    obtain ⟨k, hk, rfl, hbr, HA⟩ := hrel
    by_cases hlt : k < l.length
    · rcases hs with hs | ⟨b, off, rfl, hb, hc⟩
      · rw [hs] at hlt; simp at hlt
      have n0 : (0 : Int) ≤ (k : Int) := by omega
      have n1 : (k : Int) < (l.length : Int) := by omega
      have s0 := hbr.size
      obtain ⟨c0, f, fc, c1, hv⟩ := hc k hlt
      have c0 : wr.cell? ⟨b, off + k * 2, none⟩ = some (.int .i64 l[k].site) := by rw [hbr.cell (by simpa using hb)]; exact c0
      have c1 : wr.cell? ⟨b, off + k * 2 + 1, none⟩ = some (.slice f l[k].fs.length fc) := by rw [hbr.cell (by simpa using hb)]; exact c1
      have hv' := hv.below hbr (Nat.le_refl _)
      have HN : Hid ((l.drop k).any p = (p l[k] || (l.drop (k + 1)).any p)) := any_drop_stepR l p k hlt
      clear hc
      go_wp2_with (go_at_call 143; fail)
      refine (HF.out _ _ _ _ (List.getElem_mem hlt) hbr hv').mono ?_
      rintro e w1 ⟨rfl, hb1⟩
      cases hp : p l[k] with
      | true =>
        have HT : Hid (l.any p = true) := by show _ = _; rw [HA.out, HN.out, hp]; rfl
        clear HN HA
        go_wp2
        go_ret
        exact ⟨_, rfl, by rw [HT.out]; simp, hbr.trans (hb1.mono s0)⟩
      | false =>
        have HT : Hid (l.any p = (l.drop (k + 1)).any p) := by show _ = _; rw [HA.out, HN.out, hp]; rfl
        clear HN HA
        go_wp2
        go_roundw
        case rel => exact ⟨k + 1, by omega, by go_num, hbr.trans (hb1.mono s0), HT⟩
        case measure => simp [intOf]; omega
    · go_wp2
      go_ret
      exact ⟨_, rfl, by rw [HA.out, List.drop_eq_nil_of_le (by omega)]; rfl, hbr⟩

set_option maxHeartbeats 1000000 in
theorem containsFunc_holdsBad (q : Nat) (p : Thg → Bool) (ss : Option Addr) (cap : Nat) (l : List Thg) (w : World) (hl : l.length ≤ 9223372036854775807) (hs : ThgsAt w ss l) (hF : ∀ (x : Thg) (f : Option Addr) (fc : Nat) (wx : World), x ∈ l → Below w.heap.size w wx → ValsAt wx f x.fs → Calls Tryz.prog 143 #[.agg #[.int .i64 x.site, .slice f x.fs.length fc], .pointer (some ⟨q, 0, none⟩)] wx fun e w' => e = .returned (.bool (p x)) ∧ Below wx.heap.size wx w') :
    Calls Tryz.prog 145 #[.slice ss l.length cap, .func (.func 143) #[] #[.pointer (some ⟨q, 0, none⟩)]] w fun e w' => e = .returned (.bool (l.any p)) ∧ Below w.heap.size w w' := by
  have HF := hideK hF
  clear hF
  go_enter Tryz.func145, Tryz.ntmps145
  go_wp2_with (go_at_call 155; fail)
  refine (indexFunc_holdsBad q p ss cap l _ hl hs HF.out).mono ?_
  rintro e w1 ⟨n, rfl, hn, hb1⟩
  go_wp2
  go_ret
  exact ⟨ret_bool (by rw [← hn]), hb1⟩
end Go.Proofs.YtmapdpcfanecdaaGreat

namespace Go.Proofs.YtmapdpcfanecdaaGreat
set_option linter.unusedVariables false
set_option linter.unusedSimpArgs false
open Go.RowKit

set_option maxHeartbeats 1000000 in
set_option maxRecDepth 20000 in
theorem isValue_two0 (T : Int) (w : World) :
    Calls Tryz.prog 142 #[.agg #[.int .i64 2, .int .i64 0], .int .i64 T] w fun e w' => e = .returned (.bool true) ∧ Below w.heap.size w w' := by
  have c0 := cell_regrown (w := (w.alloc (.cells #[.int .i64 2, .int .i64 0] 31))) (a := ⟨w.heap.size, 0, none⟩) (v := .int .i64 2) (by simp [go_sem])
  have c1 := cell_regrown (w := (w.alloc (.cells #[.int .i64 2, .int .i64 0] 31))) (a := ⟨w.heap.size, 1, none⟩) (v := .int .i64 0) (by simp [go_sem])
  have t0 : (truV false).k = 2 := rfl
  have t1 : (truV false).n = 0 := rfl
  have t2 : (truV true).k = 2 := rfl
  have t3 : (truV true).n = 1 := rfl
  go_enter Tryz.func142, Tryz.ntmps142
  go_wp2
  refine wp_region_quiet_below (by kernel_rfl) (by kernel_rfl) ?_
  repeat (quiet_step (first | exact Calls.regrown_of (truth_any false _) | exact Calls.regrown_of (truth_any true _)))
  refine wpQuiet_nil ?_
  intro _ hw'
  obtain ⟨⟨dq, osq⟩, hw''⟩ := hw'
  subst hw''
  go_wp2
  go_ret
  exact ⟨rfl, Below.trans (by go_grown) ((below_regrown _ dq osq).mono (by go_size))⟩

set_option maxHeartbeats 1000000 in
set_option maxRecDepth 20000 in
theorem isValue_two1 (T : Int) (w : World) :
    Calls Tryz.prog 142 #[.agg #[.int .i64 2, .int .i64 1], .int .i64 T] w fun e w' => e = .returned (.bool true) ∧ Below w.heap.size w w' := by
  have c0 := cell_regrown (w := (w.alloc (.cells #[.int .i64 2, .int .i64 1] 31))) (a := ⟨w.heap.size, 0, none⟩) (v := .int .i64 2) (by simp [go_sem])
  have c1 := cell_regrown (w := (w.alloc (.cells #[.int .i64 2, .int .i64 1] 31))) (a := ⟨w.heap.size, 1, none⟩) (v := .int .i64 1) (by simp [go_sem])
  have t0 : (truV false).k = 2 := rfl
  have t1 : (truV false).n = 0 := rfl
  have t2 : (truV true).k = 2 := rfl
  have t3 : (truV true).n = 1 := rfl
  go_enter Tryz.func142, Tryz.ntmps142
  go_wp2
  refine wp_region_quiet_below (by kernel_rfl) (by kernel_rfl) ?_
  repeat (quiet_step (first | exact Calls.regrown_of (truth_any false _) | exact Calls.regrown_of (truth_any true _)))
  refine wpQuiet_nil ?_
  intro _ hw'
  obtain ⟨⟨dq, osq⟩, hw''⟩ := hw'
  subst hw''
  go_wp2
  go_ret
  exact ⟨rfl, Below.trans (by go_grown) ((below_regrown _ dq osq).mono (by go_size))⟩

set_option maxHeartbeats 1000000 in
set_option maxRecDepth 20000 in
theorem isValue_twon (T : Int) (n : Int) (w : World) (h0 : (n == 0) = false) (h1 : (n == 1) = false) :
    Calls Tryz.prog 142 #[.agg #[.int .i64 2, .int .i64 n], .int .i64 T] w fun e w' => e = .returned (.bool false) ∧ Below w.heap.size w w' := by
  have c0 := cell_regrown (w := (w.alloc (.cells #[.int .i64 2, .int .i64 n] 31))) (a := ⟨w.heap.size, 0, none⟩) (v := .int .i64 2) (by simp [go_sem])
  have c1 := cell_regrown (w := (w.alloc (.cells #[.int .i64 2, .int .i64 n] 31))) (a := ⟨w.heap.size, 1, none⟩) (v := .int .i64 n) (by simp [go_sem])
  have t0 : (truV false).k = 2 := rfl
  have t1 : (truV false).n = 0 := rfl
  have t2 : (truV true).k = 2 := rfl
  have t3 : (truV true).n = 1 := rfl
  go_enter Tryz.func142, Tryz.ntmps142
  go_wp2
  refine wp_region_quiet_below (by kernel_rfl) (by kernel_rfl) ?_
  repeat (quiet_step (first | exact Calls.regrown_of (truth_any false _) | exact Calls.regrown_of (truth_any true _)))
  refine wpQuiet_nil ?_
  intro _ hw'
  obtain ⟨⟨dq, osq⟩, hw''⟩ := hw'
  subst hw''
  go_wp2
  go_ret
  exact ⟨rfl, Below.trans (by go_grown) ((below_regrown _ dq osq).mono (by go_size))⟩

set_option maxHeartbeats 1000000 in
set_option maxRecDepth 20000 in
theorem isValue_any (k n : Int) (T : Nat) (w : World) :
    Calls Tryz.prog 142 #[.agg #[.int .i64 k, .int .i64 n], .int .i64 T] w fun e w' => e = .returned (.bool (okValB T ⟨k, n⟩)) ∧ Below w.heap.size w w' := by
  by_cases h0 : k = 0
  · subst h0
    by_cases hn : n = 0
    · subst hn
      have e0 : okValB T ⟨0, 0⟩ = true := by simp [okValB]
      rw [e0]
      clear e0
      go_enter Tryz.func142, Tryz.ntmps142
      go_wp2
      go_ret
      exact ⟨rfl, by go_grown⟩
    · have e0 : okValB T ⟨0, n⟩ = false := by simp [okValB, hn]
      have hb : (n == 0) = false := by simpa using hn
      rw [e0]
      clear e0 hn
      go_enter Tryz.func142, Tryz.ntmps142
      go_wp2
      go_ret
      exact ⟨rfl, by go_grown⟩
  by_cases h1 : k = 1
  · subst h1
    have e0 : okValB T ⟨1, n⟩ = btw n (-2147483648) 2147483647 := by simp [okValB]
    rw [e0]
    clear e0
    by_cases g1 : -2147483648 ≤ n
    · by_cases g2 : n ≤ 2147483647
      · rw [btw_true g1 g2]
        go_enter Tryz.func142, Tryz.ntmps142
        go_wp2
        go_ret
        exact ⟨rfl, by go_grown⟩
      · rw [btw_hi g2]
        go_enter Tryz.func142, Tryz.ntmps142
        go_wp2
        go_ret
        exact ⟨rfl, by go_grown⟩
    · rw [btw_lo g1]
      go_enter Tryz.func142, Tryz.ntmps142
      go_wp2
      go_ret
      exact ⟨rfl, by go_grown⟩
  by_cases h2 : k = 2
  · subst h2
    by_cases n0 : n = 0
    · subst n0
      have e0 : okValB T ⟨2, 0⟩ = true := by simp [okValB, btw]
      rw [e0]
      exact isValue_two0 T w
    by_cases n1 : n = 1
    · subst n1
      have e0 : okValB T ⟨2, 1⟩ = true := by simp [okValB, btw]
      rw [e0]
      exact isValue_two1 T w
    have e0 : okValB T ⟨2, n⟩ = false := by simp [okValB, btw]; omega
    rw [e0]
    exact isValue_twon T n w (by simpa using n0) (by simpa using n1)
  by_cases h3 : k = 3
  · subst h3
    have e0 : okValB T ⟨3, n⟩ = btw n 0 ((T : Int) - 1) := by simp [okValB]
    rw [e0]
    clear e0
    by_cases g1 : 0 ≤ n
    · by_cases g2 : n < (T : Int)
      · rw [btw_true g1 (by omega)]
        go_enter Tryz.func142, Tryz.ntmps142
        go_wp2
        go_ret
        exact ⟨rfl, by go_grown⟩
      · rw [btw_hi (by omega)]
        go_enter Tryz.func142, Tryz.ntmps142
        go_wp2
        go_ret
        exact ⟨rfl, by go_grown⟩
    · rw [btw_lo g1]
      go_enter Tryz.func142, Tryz.ntmps142
      go_wp2
      go_ret
      exact ⟨rfl, by go_grown⟩
  have e0 : okValB T ⟨k, n⟩ = false := by simp [okValB, h0, h1, h2, h3]
  rw [e0]
  have q0 : (k == 0) = false := by simpa using h0
  have q1 : (k == 1) = false := by simpa using h1
  have q2 : (k == 2) = false := by simpa using h2
  have q3 : (k == 3) = false := by simpa using h3
  clear e0 h0 h1 h2 h3
  go_enter Tryz.func142, Tryz.ntmps142
  go_wp2
  go_ret
  exact ⟨rfl, by go_grown⟩
end Go.Proofs.YtmapdpcfanecdaaGreat

namespace Go.Proofs.YtmapdpcfanecdaaGreat
set_option linter.unusedVariables false
set_option linter.unusedSimpArgs false
open Go.RowKit
attribute [local go_sem ↓] Go.wp_at_zero Go.wp_at_succ

theorem isNew_lo {c : List Ins} {x : Int} (h : x < 0 ∨ (c.length : Int) ≤ x) : isNew c x = false := by
  unfold isNew
  rw [show btw x 0 ((c.length : Int) - 1) = false by simp [btw]; omega]
  rfl
theorem isNew_at {c : List Ins} {k : Nat} (h : k < c.length) : isNew c (k : Int) = decide (c[k].k = 11) := by
  unfold isNew
  rw [insAt_eq h, btw_true (by omega) (by omega)]
  rfl
set_option maxHeartbeats 1000000 in
theorem homelessR_any (x : Thg) (f : Option Addr) (fc q : Nat) (V F : Int) (s : Option Addr) (c : List Ins) (cap : Nat) (w : World) (hp : P3 w q V F s c.length cap) (hc : CodeAt w s c) (hl : c.length ≤ 60) :
    Calls Tryz.prog 139 #[.agg #[.int .i64 x.site, .slice f x.fs.length fc], .pointer (some ⟨q, 0, none⟩)] w fun e w' => e = .returned (.bool (!isNew c x.site)) ∧ Below w.heap.size w w' := by
  obtain ⟨⟨p0, p1, p2⟩, p3⟩ := hp
  obtain ⟨x, fs⟩ := x
  simp only
  have hl' : (c.length : Int) ≤ 60 := by omega
  have HG : Below w.heap.size w (w.alloc (.cells #[.int .i64 x, .slice f fs.length fc] 118)) := by go_grown
  have ne : q ≠ w.heap.size := by omega
  by_cases h0 : x < 0
  · have HR := hideK (isNew_lo (c := c) (.inl h0))
    clear hc
    go_enter Tryz.func139, Tryz.ntmps139
    go_wp2
    go_ret
    exact ⟨ret_bool (by rw [HR.out]; rfl), HG⟩
  by_cases h1 : x < (c.length : Int)
  · obtain ⟨k, rfl⟩ := Int.eq_ofNat_of_zero_le (show 0 ≤ x by omega)
    have hk : k < c.length := by omega
    rcases hc with hc | ⟨b, off, rfl, hb, hi⟩
    · rw [hc] at hk; simp at hk
    obtain ⟨i0, -, -, -, -, -⟩ := hi k hk
    have HR := hideK (isNew_at hk)
    clear hi
    have n0 : (0 : Int) ≤ (k : Int) := by omega
    by_cases h11 : c[k].k = 11
    · have e11 : (c[k].k != 11) = false := by simp [h11]
      go_enter Tryz.func139, Tryz.ntmps139
      go_wp2
      go_ret
      exact ⟨ret_bool (by rw [HR.out]; simp [h11, hk]), HG⟩
    · have e11 : (c[k].k != 11) = true := by simpa using h11
      go_enter Tryz.func139, Tryz.ntmps139
      go_wp2
      go_ret
      exact ⟨ret_bool (by rw [HR.out]; simp [h11, hk]), HG⟩
  · have HR := hideK (isNew_lo (c := c) (x := x) (.inr (by omega)))
    clear hc
    go_enter Tryz.func139, Tryz.ntmps139
    go_wp2
    go_ret
    exact ⟨ret_bool (by rw [HR.out]; rfl), HG⟩
set_option maxHeartbeats 1000000 in
theorem misshapen_any (x : Thg) (f : Option Addr) (fc q : Nat) (V F : Int) (s : Option Addr) (n cap : Nat) (w : World) (hp : P3 w q V F s n cap) :
    Calls Tryz.prog 140 #[.agg #[.int .i64 x.site, .slice f x.fs.length fc], .pointer (some ⟨q, 0, none⟩)] w fun e w' => e = .returned (.bool (!decide ((x.fs.length : Int) = F))) ∧ Below w.heap.size w w' := by
  obtain ⟨⟨p0, p1, p2⟩, p3⟩ := hp
  obtain ⟨x, fs⟩ := x
  simp only
  have HG : Below w.heap.size w (w.alloc (.cells #[.int .i64 x, .slice f fs.length fc] 118)) := by go_grown
  have ne : q ≠ w.heap.size := by omega
  by_cases h : (fs.length : Int) = F
  · subst h
    go_enter Tryz.func140, Tryz.ntmps140
    go_wp2
    go_ret
    exact ⟨ret_bool (by simp), HG⟩
  · have hb : ((fs.length : Int) != F) = true := by simpa using h
    go_enter Tryz.func140, Tryz.ntmps140
    go_wp2
    go_ret
    exact ⟨ret_bool (by simp [h]), HG⟩
set_option maxHeartbeats 1000000 in
theorem bad_any (x : Val) (q T : Nat) (x0 x1 x3 x4 x5 : Value) (ts : Option Addr) (tc : Nat) (w : World) (hp : R6 w q x0 x1 (.slice ts T tc) x3 x4 x5) :
    Calls Tryz.prog 141 #[.agg #[.int .i64 x.k, .int .i64 x.n], .pointer (some ⟨q, 0, none⟩)] w fun e w' => e = .returned (.bool (!okValB T x)) ∧ Below w.heap.size w w' := by
  obtain ⟨⟨-, -, p2, -, -, -⟩, p3, -⟩ := hp
  have HG : Below w.heap.size w (w.alloc (.cells #[.int .i64 x.k, .int .i64 x.n] 31)) := by go_grown
  have ne : q ≠ w.heap.size := by omega
  have HI := hideK (fun wx => isValue_any x.k x.n T wx)
  go_enter Tryz.func141, Tryz.ntmps141
  go_wp2_with (go_at_call 142; fail)
  refine (HI.out _).mono ?_
  rintro e w1 ⟨rfl, hb1⟩
  clear HI
  go_wp2
  go_ret
  exact ⟨rfl, HG.trans (hb1.mono HG.size)⟩
set_option maxHeartbeats 1000000 in
theorem holdsBad_any (x : Thg) (f : Option Addr) (fc q qr T : Nat) (x0 x1 x3 x4 x5 : Value) (ts : Option Addr) (tc : Nat) (w : World) (hv : ValsAt w f x.fs) (hlen : x.fs.length ≤ 9223372036854775807) (hq : w.cell? ⟨q, 0, none⟩ = some (.func (.func 141) #[] #[.pointer (some ⟨qr, 0, none⟩)])) (hqz : q < w.heap.size) (hp : R6 w qr x0 x1 (.slice ts T tc) x3 x4 x5) :
    Calls Tryz.prog 143 #[.agg #[.int .i64 x.site, .slice f x.fs.length fc], .pointer (some ⟨q, 0, none⟩)] w fun e w' => e = .returned (.bool (x.fs.any fun v => !okValB T v)) ∧ Below w.heap.size w w' := by
  have HG : Below w.heap.size w (w.alloc (.cells #[.int .i64 x.site, .slice f x.fs.length fc] 118)) := by go_grown
  have ne : q ≠ w.heap.size := by omega
  have HI := hideK (containsFunc_bad qr (fun v => !okValB T v) f fc x.fs _ hlen (hv.below HG (Nat.le_refl _)) (fun y wx hx => bad_any y qr T x0 x1 x3 x4 x5 ts tc wx ((hp.call HG).call hx)))
  clear hv hp
  go_enter Tryz.func143, Tryz.ntmps143
  go_wp2_with (go_at_call 144; fail)
  refine HI.out.mono ?_
  rintro e w1 ⟨rfl, hb1⟩
  clear HI
  go_wp2
  go_ret
  exact ⟨rfl, HG.trans (hb1.mono HG.size)⟩
/-- What is told of a run's things and values. -/
def ckThings (F : Int) (c : List Ins) (r : St) : Int :=
  if r.things.all (fun t => isNew c t.site) = false then 5
  else if r.things.all (fun t => decide ((t.fs.length : Int) = F)) = false then 1
  else if (r.vars.all (okValB r.things.length) && r.things.all fun t => t.fs.all (okValB r.things.length)) = false then 4
  else 0
theorem any_not_allG {α : Type} (l : List α) (p : α → Bool) : (l.any fun x => !p x) = !l.all p := by
  induction l with
  | nil => rfl
  | cons a r ih => simp only [List.any_cons, List.all_cons, ih, Bool.not_and]
theorem any_any_all (l : List Thg) (p : Val → Bool) : (l.any fun t => t.fs.any fun v => !p v) = !l.all fun t => t.fs.all p := by
  induction l with
  | nil => rfl
  | cons a r ih => simp only [List.any_cons, List.all_cons, ih, Bool.not_and, any_not_allG]
end Go.Proofs.YtmapdpcfanecdaaGreat
