/- Walks over package run: what the machine does, kind by kind. -/
import Derived.Test.YtmapdpcfanecdaaDoorKlawrrp29
import Derived.Test.YtmapdpcfanecdaaDoorKlawrrp30
import Derived.Test.YtmapdpcfanecdaaDoorKlawrrp31
import Derived.Test.YtmapdpcfanecdaaDoorKlawrrp32
import Derived.Test.YtmapdpcfanecdaaDoorKlawrrp33
import Derived.Test.YtmapdpcfanecdaaDoorKlawrrp34
import Derived.Test.YtmapdpcfanecdaaDoorKlawrrp35
import Derived.Test.YtmapdpcfanecdaaDoorKlawrrp36
import Derived.Test.YtmapdpcfanecdaaDoorKlawrrp37
import Derived.Test.YtmapdpcfanecdaaDoorKlawrrp38
import Derived.Test.YtmapdpcfanecdaaDoorKlawrrp39
import Derived.Test.YtmapdpcfanecdaaDoorKlawrrp40
import Derived.Test.YtmapdpcfanecdaaDoorKlawrrp41
import Derived.Test.YtmapdpcfanecdaaDoorKlawrrp42
import Derived.Test.YtmapdpcfanecdaaDoorKlawrrp43
import Derived.Test.YtmapdpcfanecdaaDoorKlawrrp44
import Derived.Test.YtmapdpcfanecdaaDoorKlawrrp45
import Derived.Test.YtmapdpcfanecdaaDoorKlawrrp46
import Derived.Test.YtmapdpcfanecdaaDoorKlawrrp47
import Derived.Test.YtmapdpcfanecdaaDoorKlawrrp48
import Derived.Test.YtmapdpcfanecdaaDoorKlawrrp09
import Derived.Test.YtmapdpcfanecdaaDoorKlawrrp27
namespace Go.Proofs.YtmapdpcfanecdaaDoor
set_option linter.unusedVariables false
set_option linter.unusedSimpArgs false
open Go.RowKit
attribute [local go_sem ↓] Go.wp_at_zero Go.wp_at_succ

/-- One step, as the document makes it. -/
theorem stepOf_any (v f : Nat) (s : Option Addr) (c : List Ins) (cap : Nat) (r : St) (vs : Option Addr) (vc : Nat) (ts : Option Addr) (tc : Nat) (ls : Option Addr) (lc : Nat) (is : Option Addr) (ic : Nat) (ins : List Int) (w : World) (hc : CodeAt w s c) (hr : RunAt w r vs ts ls) (hp : ProgOk v f c) (hk : RunOk v f c r) (hI : IntsAt w is ins) (hln : (r.lines.length + 1) * 16 ≤ 140737488355328) :
    Calls Tryd.prog 23 #[.agg #[.int .i64 (v : Int), .int .i64 (f : Int), .slice s c.length cap], runV r vs vc ts tc ls lc, .slice is ins.length ic] w fun e w' => ∃ vv tv lv fv, e = .returned (.agg #[.int .i64 (stepSt f c ins r).at_, vv, tv, .int .i64 (stepSt f c ins r).taken, lv, .int .i64 (stepSt f c ins r).fin]) ∧ OwnRows w' w.heap.size (stepSt f c ins r) vv tv lv fv ∧ Below w.heap.size w w' := by
  by_cases hf0 : r.fin ≠ 0
  · exact stepR_ended v f s c cap r vs vc ts tc ls lc is ic ins w hc hr hp hk hI hln hf0
  have hf : r.fin = 0 := by omega
  clear hf0
  by_cases hl : r.at_ = c.length
  · exact stepR_last v f s c cap r vs vc ts tc ls lc is ic ins w hc hr hp hk hI hln hf hl
  obtain ⟨k, ha⟩ := Int.eq_ofNat_of_zero_le hk.at0
  have hkl : k < c.length := by have := hk.at1; omega
  obtain ⟨i, hck⟩ : ∃ i, c[k] = i := ⟨_, rfl⟩
  have hi := hp.each i (by rw [← hck]; exact List.getElem_mem hkl)
  obtain ⟨kk, tt, a, b, n, g⟩ := i
  obtain ⟨h1, h2, h3, h4, h5, h6, h7, h8, h9⟩ := ckOne_parts hi
  simp only at h1 h2 h3 h4 h5 h6 h7 h8 h9
  have hv := hk.vars
  have hV := hp.v8
  have tN : nTo kk = true → ∃ t : Nat, tt = t ∧ t < r.vars.length := fun hn => by
    obtain ⟨t, rfl⟩ := Int.eq_ofNat_of_zero_le (h2 hn).1
    exact ⟨t, rfl, by have := (h2 hn).2; omega⟩
  have aN : nA kk = true → ∃ x : Nat, a = x ∧ x < r.vars.length := fun hn => by
    obtain ⟨x, rfl⟩ := Int.eq_ofNat_of_zero_le (h3 hn).1
    exact ⟨x, rfl, by have := (h3 hn).2; omega⟩
  have bN : nB kk = true → ∃ y : Nat, b = y ∧ y < r.vars.length := fun hn => by
    obtain ⟨y, rfl⟩ := Int.eq_ofNat_of_zero_le (h4 hn).1
    exact ⟨y, rfl, by have := (h4 hn).2; omega⟩
  clear hi h6
  rcases btw_cases h1 with rfl | rfl | rfl | rfl | rfl | rfl | rfl | rfl | rfl | rfl | rfl | rfl | rfl | rfl | rfl | rfl | rfl | rfl | rfl
  · obtain ⟨t, rfl, ht⟩ := tN rfl
    exact stepR_1 v f s c cap r vs vc ts tc ls lc is ic ins w hc hr hp hk hI hln t k a b n g hf ha hkl hck ht
  · obtain ⟨t, rfl, ht⟩ := tN rfl
    exact stepR_2 v f s c cap r vs vc ts tc ls lc is ic ins w hc hr hp hk hI hln t k a b n g hf ha hkl hck ht
  · obtain ⟨t, rfl, ht⟩ := tN rfl
    exact stepR_3 v f s c cap r vs vc ts tc ls lc is ic ins w hc hr hp hk hI hln t k a b n g hf ha hkl hck ht
  · obtain ⟨t, rfl, ht⟩ := tN rfl
    obtain ⟨x, rfl, hx⟩ := aN rfl
    exact stepR_4 v f s c cap r vs vc ts tc ls lc is ic ins w hc hr hp hk hI hln t x k b n g hf ha hkl hck ht hx
  · obtain ⟨t, rfl, ht⟩ := tN rfl
    obtain ⟨x, rfl, hx⟩ := aN rfl
    obtain ⟨y, rfl, hy⟩ := bN rfl
    by_cases hA1 : r.vars[x].k = 1
    · by_cases hC1 : r.vars[y].k = 1
      · exact stepR_5 v f s c cap r vs vc ts tc ls lc is ic ins w hc hr hp hk hI hln t x y k n g hf ha hkl hck ht hx hy hA1 hC1
      · exact stepR_5wb v f s c cap r vs vc ts tc ls lc is ic ins w hc hr hp hk hI hln t x y k n g hf ha hkl hck ht hx hy hA1 hC1
    · exact stepR_5wa v f s c cap r vs vc ts tc ls lc is ic ins w hc hr hp hk hI hln t x y k n g hf ha hkl hck ht hx hy hA1
  · obtain ⟨t, rfl, ht⟩ := tN rfl
    obtain ⟨x, rfl, hx⟩ := aN rfl
    obtain ⟨y, rfl, hy⟩ := bN rfl
    by_cases hA1 : r.vars[x].k = 1
    · by_cases hC1 : r.vars[y].k = 1
      · exact stepR_6 v f s c cap r vs vc ts tc ls lc is ic ins w hc hr hp hk hI hln t x y k n g hf ha hkl hck ht hx hy hA1 hC1
      · exact stepR_6wb v f s c cap r vs vc ts tc ls lc is ic ins w hc hr hp hk hI hln t x y k n g hf ha hkl hck ht hx hy hA1 hC1
    · exact stepR_6wa v f s c cap r vs vc ts tc ls lc is ic ins w hc hr hp hk hI hln t x y k n g hf ha hkl hck ht hx hy hA1
  · obtain ⟨t, rfl, ht⟩ := tN rfl
    obtain ⟨x, rfl, hx⟩ := aN rfl
    obtain ⟨y, rfl, hy⟩ := bN rfl
    by_cases hA1 : r.vars[x].k = 1
    · by_cases hC1 : r.vars[y].k = 1
      · exact stepR_7 v f s c cap r vs vc ts tc ls lc is ic ins w hc hr hp hk hI hln t x y k n g hf ha hkl hck ht hx hy hA1 hC1
      · exact stepR_7wb v f s c cap r vs vc ts tc ls lc is ic ins w hc hr hp hk hI hln t x y k n g hf ha hkl hck ht hx hy hA1 hC1
    · exact stepR_7wa v f s c cap r vs vc ts tc ls lc is ic ins w hc hr hp hk hI hln t x y k n g hf ha hkl hck ht hx hy hA1
  · obtain ⟨t, rfl, ht⟩ := tN rfl
    obtain ⟨x, rfl, hx⟩ := aN rfl
    obtain ⟨y, rfl, hy⟩ := bN rfl
    by_cases hA1 : r.vars[x].k = 1
    · by_cases hC1 : r.vars[y].k = 1
      · exact stepR_8 v f s c cap r vs vc ts tc ls lc is ic ins w hc hr hp hk hI hln t x y k n g hf ha hkl hck ht hx hy hA1 hC1
      · exact stepR_8wb v f s c cap r vs vc ts tc ls lc is ic ins w hc hr hp hk hI hln t x y k n g hf ha hkl hck ht hx hy hA1 hC1
    · exact stepR_8wa v f s c cap r vs vc ts tc ls lc is ic ins w hc hr hp hk hI hln t x y k n g hf ha hkl hck ht hx hy hA1
  · obtain ⟨t, rfl, ht⟩ := tN rfl
    obtain ⟨x, rfl, hx⟩ := aN rfl
    obtain ⟨y, rfl, hy⟩ := bN rfl
    by_cases hE1 : r.vars[x].k = r.vars[y].k
    · by_cases hE2 : r.vars[x].n = r.vars[y].n
      · exact stepR_9ee v f s c cap r vs vc ts tc ls lc is ic ins w hc hr hp hk hI hln t x y k n g hf ha hkl hck ht hx hy hE1 hE2
      · exact stepR_9en v f s c cap r vs vc ts tc ls lc is ic ins w hc hr hp hk hI hln t x y k n g hf ha hkl hck ht hx hy hE1 hE2
    · exact stepR_9n v f s c cap r vs vc ts tc ls lc is ic ins w hc hr hp hk hI hln t x y k n g hf ha hkl hck ht hx hy hE1
  · obtain ⟨t, rfl, ht⟩ := tN rfl
    obtain ⟨x, rfl, hx⟩ := aN rfl
    exact stepR_10 v f s c cap r vs vc ts tc ls lc is ic ins w hc hr hp hk hI hln t x k b n g hf ha hkl hck ht hx
  · obtain ⟨t, rfl, ht⟩ := tN rfl
    by_cases h100 : r.things.length = 100
    · exact stepR_11f v f s c cap r vs vc ts tc ls lc is ic ins w hc hr hp hk hI hln t k a b n g hf ha hkl hck ht h100
    · exact stepR_11n v f s c cap r vs vc ts tc ls lc is ic ins w hc hr hp hk hI hln t k a b n g hf ha hkl hck ht (by have := hk.things; omega)
  · obtain ⟨t, rfl, ht⟩ := tN rfl
    obtain ⟨x, rfl, hx⟩ := aN rfl
    by_cases hk3 : r.vars[x].k = 3
    · rcases hk.vals _ (List.getElem_mem hx) with hA | hA | hA | hA
      · omega
      · omega
      · omega
      obtain ⟨q, hq⟩ := Int.eq_ofNat_of_zero_le hA.2.1
      obtain ⟨fi, rfl⟩ := Int.eq_ofNat_of_zero_le (h5 (.inl rfl)).1
      have hql : q < r.things.length := by omega
      have hfl : fi < r.things[q].fs.length := by have := hk.fields _ (List.getElem_mem hql); have := (h5 (.inl rfl)).2; omega
      exact stepR_12 v f s c cap r vs vc ts tc ls lc is ic ins w hc hr hp hk hI hln t x q fi k b g hf ha hkl hck ht hx (by rw [← hk3, ← hq]) hql hfl
    · exact stepR_12w v f s c cap r vs vc ts tc ls lc is ic ins w hc hr hp hk hI hln t x k b n g hf ha hkl hck ht hx hk3
  · obtain ⟨x, rfl, hx⟩ := aN rfl
    obtain ⟨y, rfl, hy⟩ := bN rfl
    by_cases hk3 : r.vars[x].k = 3
    · rcases hk.vals _ (List.getElem_mem hx) with hA | hA | hA | hA
      · omega
      · omega
      · omega
      obtain ⟨q, hq⟩ := Int.eq_ofNat_of_zero_le hA.2.1
      obtain ⟨fi, rfl⟩ := Int.eq_ofNat_of_zero_le (h5 (.inr rfl)).1
      have hql : q < r.things.length := by omega
      have hfl : fi < r.things[q].fs.length := by have := hk.fields _ (List.getElem_mem hql); have := (h5 (.inr rfl)).2; omega
      exact stepR_13 v f s c cap r vs vc ts tc ls lc is ic ins w hc hr hp hk hI hln x y q fi k tt g hf ha hkl hck hx hy (by rw [← hk3, ← hq]) hql hfl
    · exact stepR_13w v f s c cap r vs vc ts tc ls lc is ic ins w hc hr hp hk hI hln x y k tt n g hf ha hkl hck hx hy hk3
  · obtain ⟨t, rfl, ht⟩ := tN rfl
    obtain ⟨n0, n1⟩ := h9 rfl
    by_cases htk : (ins.length : Int) ≤ r.taken
    · exact stepR_14n v f s c cap r vs vc ts tc ls lc is ic ins w hc hr hp hk hI hln t k a b n g hf ha hkl hck ht n0 n1 htk
    obtain ⟨j, hj⟩ := Int.eq_ofNat_of_zero_le hk.tk
    have hjl : j < ins.length := by omega
    by_cases hgt : n < ins[j]
    · exact stepR_14g v f s c cap r vs vc ts tc ls lc is ic ins w hc hr hp hk hI hln t k a b n g hf ha hkl hck ht n0 n1 j hj hjl hgt
    by_cases hlt : ins[j] < -n
    · exact stepR_14l v f s c cap r vs vc ts tc ls lc is ic ins w hc hr hp hk hI hln t k a b n g hf ha hkl hck ht n0 n1 j hj hjl (by omega) hlt
    · exact stepR_14m v f s c cap r vs vc ts tc ls lc is ic ins w hc hr hp hk hI hln t k a b n g hf ha hkl hck ht n0 n1 j hj hjl (by omega) (by omega)
  · obtain ⟨x, rfl, hx⟩ := aN rfl
    rcases Bool.eq_false_or_eq_true (cnt r.vars[x]) with hcn | hcn
    · exact stepR_15t v f s c cap r vs vc ts tc ls lc is ic ins w hc hr hp hk hI hln x k tt b n g hf ha hkl hck hx hcn
    · exact stepR_15f v f s c cap r vs vc ts tc ls lc is ic ins w hc hr hp hk hI hln x k tt b n g hf ha hkl hck hx hcn
  · exact stepR_16 v f s c cap r vs vc ts tc ls lc is ic ins w hc hr hp hk hI hln k tt a b n g hf ha hkl hck
  · obtain ⟨x, rfl, hx⟩ := aN rfl
    rcases Bool.eq_false_or_eq_true (cnt r.vars[x]) with hcn | hcn
    · exact stepR_17t v f s c cap r vs vc ts tc ls lc is ic ins w hc hr hp hk hI hln x k tt b n g hf ha hkl hck hx hcn
    · exact stepR_17f v f s c cap r vs vc ts tc ls lc is ic ins w hc hr hp hk hI hln x k tt b n g hf ha hkl hck hx hcn
  · obtain ⟨x, rfl, hx⟩ := aN rfl
    exact stepR_18 v f s c cap r vs vc ts tc ls lc is ic ins w hc hr hp hk hI hln x k tt b n g hf ha hkl hck hx
  · exact stepR_19 v f s c cap r vs vc ts tc ls lc is ic ins w hc hr hp hk hI hln k tt a b n g hf ha hkl hck
end Go.Proofs.YtmapdpcfanecdaaDoor

namespace Go.Proofs.YtmapdpcfanecdaaDoor
set_option linter.unusedVariables false
set_option linter.unusedSimpArgs false
open Go.RowKit
attribute [local go_sem ↓] Go.wp_at_zero Go.wp_at_succ

set_option maxHeartbeats 1000000 in
theorem stepM_ended (m B : Nat) (s : St) (vv tv lv : Value) (fv : List Value) (w : World) (h : OwnRun w B m s vv tv lv fv) (hf : s.fin ≠ 0) :
    Calls Tryd.prog 48 #[.pointer (some ⟨m, 0, none⟩)] w fun e w' => e = .returned (.tuple #[]) ∧ MStep w w' B m (ownBlocks m vv tv lv fv) s := by
  have q5 := h.fin_
  have b5 : (s.fin != 0) = true := by simpa using hf
  have HX := hideK h
  clear h
  go_enter Tryd.func48, Tryd.ntmps48
  go_wp2
  first | go_ret | go_end0 | refine bodyPost_ret (results_none rfl _ _ _) rfl ?_
  exact ⟨rfl, ⟨_, _, _, _, HX.out⟩, Below.refl _ _, fun j _ => rfl, fun k _ _ => rfl⟩
set_option maxHeartbeats 1000000 in
theorem stepM_last (m B : Nat) (s : St) (vv tv lv : Value) (fv : List Value) (n cc : Nat) (cs : Option Addr) (w : World) (h : OwnRun w B m s vv tv lv fv) (hf : s.fin = 0) (ha : s.at_ = (n : Int)) (h8 : w.cell? ⟨m, 8, none⟩ = some (.slice cs n cc)) :
    Calls Tryd.prog 48 #[.pointer (some ⟨m, 0, none⟩)] w fun e w' => e = .returned (.tuple #[]) ∧ MStep w w' B m (ownBlocks m vv tv lv fv) { s with fin := 1 } := by
  have q5 := h.fin_
  rw [hf] at q5
  have q0 := h.at_
  rw [ha] at q0
  have d5 := h.thaw 5
  have HX := hideK h
  clear h
  go_enter Tryd.func48, Tryd.ntmps48
  go_wp2
  go_quiet (fail)
  go_wp2
  first | go_ret | go_end0 | refine bodyPost_ret (results_none rfl _ _ _) rfl ?_
  have hb := below_drewN (Below.refl w.heap.size w) nq
  exact ⟨rfl, ⟨_, _, _, _, (HX.out.below hb).withFin 1⟩, (hb.mono (Nat.le_of_lt (Nat.lt_of_le_of_lt HX.out.low (HX.out.lt (k := m) (by simp [ownBlocks]))))).setCell HX.out.low _, fun j hj => by rw [World.cell?_setCell_other _ _ _ _ (by intro e; cases e; omega)]; exact hb.cell (by simpa using HX.out.lt (k := m) (by simp [ownBlocks])), frame_trans (frame_same hb) hb.size (frame_set (by simp [ownBlocks]) _ _)⟩
set_option maxHeartbeats 4000000 in
set_option maxRecDepth 20000 in
theorem stepM_go (V : Int) (f : Nat) (c : List Ins) (s : St) (hp : ProgOk V f c) (hr : RunOk V f c s) (ins : List Int) (m B : Nat) (vv tv lv : Value) (fv : List Value) (cs : Option Addr) (cc : Nat) (is : Option Addr) (ic : Nat) (w : World)
    (h : OwnRun w B m s vv tv lv fv) (hB : B ≤ w.heap.size) (h7 : w.cell? ⟨m, 7, none⟩ = some (.int .i64 f)) (h8 : w.cell? ⟨m, 8, none⟩ = some (.slice cs c.length cc)) (h9 : w.cell? ⟨m, 9, none⟩ = some (.slice is ins.length ic)) (hC : CodeAt w cs c) (hI : IntsAt w is ins) (hT : Tab w) (hln : (s.lines.length + 1) * 16 ≤ 140737488355328) (hf : s.fin = 0) (k : Nat) (ha : s.at_ = (k : Int)) (hk : k < c.length) :
    Calls Tryd.prog 48 #[.pointer (some ⟨m, 0, none⟩)] w fun e w' => e = .returned (.tuple #[]) ∧ MStep w w' B m (ownBlocks m vv tv lv fv) (stepSt f c ins s) := by
  have hm : m < w.heap.size := h.lt (by simp [ownBlocks])
  have q5 := h.fin_
  rw [hf] at q5
  have q0 := h.at_
  rw [ha] at q0
  have HIA : insAt c (k : Int) = c[k] := insAt_eq hk
  have hi : ckOne V f c.length c[k] = 0 := hp.each _ (List.getElem_mem hk)
  have HST := hideK (stepSt_eq f c ins s)
  rw [ha, HIA, if_neg (by omega), if_neg (by omega)] at HST
  have HEA := hideK (effSt_at f ins s c[k] (aOf s c[k]) (bOf s c[k]))
  have HEFF := hideK (effSt_fin f ins s c[k] (aOf s c[k]) (bOf s c[k]))
  have HV15 := hideK (eff_vars15 f ins s c[k] (aOf s c[k]) (bOf s c[k]))
  rcases hC with hC | ⟨b, off, rfl, hb, hC⟩
  · rw [hC] at hk; simp at hk
  obtain ⟨i0, i1, i2, i3, i4, i5⟩ := hC k hk
  have n0 : (0 : Int) ≤ (k : Int) := by omega
  have n1 : (k : Int) < (c.length : Int) := by omega
  have nk : ((k : Int) == (c.length : Int)) = false := by simp; omega
  have K1 : ∀ wx, Below w.heap.size w wx → wx.cell? ⟨m, 8, none⟩ = some (.slice (some ⟨b, off, none⟩) c.length cc) ∧ wx.cell? ⟨m, 0, none⟩ = some (.int .i64 k) ∧ wx.cell? ⟨b, off + k * 6, none⟩ = some (.int .i64 c[k].k) ∧ wx.cell? ⟨b, off + k * 6 + 1, none⟩ = some (.int .i64 c[k].to) ∧ wx.cell? ⟨b, off + k * 6 + 2, none⟩ = some (.int .i64 c[k].a) ∧ wx.cell? ⟨b, off + k * 6 + 3, none⟩ = some (.int .i64 c[k].b) ∧ wx.cell? ⟨b, off + k * 6 + 4, none⟩ = some (.int .i64 c[k].n) ∧ wx.cell? ⟨b, off + k * 6 + 5, none⟩ = some (.int .i64 c[k].g) := fun wx hx => ⟨by rw [hx.cell (by simpa using hm)]; exact h8, by rw [hx.cell (by simpa using hm)]; exact q0, by rw [hx.cell (by simpa using hb)]; exact i0, by rw [hx.cell (by simpa using hb)]; exact i1, by rw [hx.cell (by simpa using hb)]; exact i2, by rw [hx.cell (by simpa using hb)]; exact i3, by rw [hx.cell (by simpa using hb)]; exact i4, by rw [hx.cell (by simpa using hb)]; exact i5⟩
  clear hC i0 i1 i2 i3 i4 i5 HIA
  go_enter Tryd.func48, Tryd.ntmps48
  go_wp2
  go_quiet (fail)
  go_wp2
  have HB0 : Below w.heap.size w (w.drewN nq).drew := (below_drewN (Below.refl _ _) _).drew
  have hz0 : (w.drewN nq).drew.heap.size = w.heap.size := rfl
  refine wp_region_z (S := (fun wx => wx.cell? ⟨m, 8, none⟩ = some (.slice (some ⟨b, off, none⟩) c.length cc) ∧ wx.cell? ⟨m, 0, none⟩ = some (.int .i64 k) ∧ wx.cell? ⟨b, off + k * 6, none⟩ = some (.int .i64 c[k].k) ∧ wx.cell? ⟨b, off + k * 6 + 1, none⟩ = some (.int .i64 c[k].to) ∧ wx.cell? ⟨b, off + k * 6 + 2, none⟩ = some (.int .i64 c[k].a) ∧ wx.cell? ⟨b, off + k * 6 + 3, none⟩ = some (.int .i64 c[k].b) ∧ wx.cell? ⟨b, off + k * 6 + 4, none⟩ = some (.int .i64 c[k].n) ∧ wx.cell? ⟨b, off + k * 6 + 5, none⟩ = some (.int .i64 c[k].g))) [] (by kernel_rfl) (K1 _ HB0) (fun hHeld => ?_)
  refine tkZ 0 ?_ ?_ ?_
  rotate_left
  · exact rn
  (try simp only [Act.put, List.getElem_toArray, List.getElem_cons_zero, List.getElem_cons_succ, List.setIfInBounds_toArray, List.set_cons_zero, List.set_cons_succ])
  refine tkZ 1 ?_ ?_ ?_
  rotate_left
  · exact rn
  (try simp only [Act.put, List.getElem_toArray, List.getElem_cons_zero, List.getElem_cons_succ, List.setIfInBounds_toArray, List.set_cons_zero, List.set_cons_succ])
  refine tkZ 2 ?_ ?_ ?_
  rotate_left
  · exact rn
  (try simp only [Act.put, List.getElem_toArray, List.getElem_cons_zero, List.getElem_cons_succ, List.setIfInBounds_toArray, List.set_cons_zero, List.set_cons_succ])
  refine tkZ 3 ?_ ?_ ?_
  rotate_left
  · exact rn
  (try simp only [Act.put, List.getElem_toArray, List.getElem_cons_zero, List.getElem_cons_succ, List.setIfInBounds_toArray, List.set_cons_zero, List.set_cons_succ])
  refine tkZ 4 ?_ ?_ ?_
  rotate_left
  · exact rn
  (try simp only [Act.put, List.getElem_toArray, List.getElem_cons_zero, List.getElem_cons_succ, List.setIfInBounds_toArray, List.set_cons_zero, List.set_cons_succ])
  refine tkZ 5 ?_ ?_ ?_
  rotate_left
  · exact rn
  (try simp only [Act.put, List.getElem_toArray, List.getElem_cons_zero, List.getElem_cons_succ, List.setIfInBounds_toArray, List.set_cons_zero, List.set_cons_succ])
  refine tkZ 6 ?_ ?_ ?_
  rotate_left
  · exact rn
  (try simp only [Act.put, List.getElem_toArray, List.getElem_cons_zero, List.getElem_cons_succ, List.setIfInBounds_toArray, List.set_cons_zero, List.set_cons_succ])
  refine tkZ 7 ?_ ?_ ?_
  rotate_left
  · exact rn
  (try simp only [Act.put, List.getElem_toArray, List.getElem_cons_zero, List.getElem_cons_succ, List.setIfInBounds_toArray, List.set_cons_zero, List.set_cons_succ])
  refine tkZ 8 ?_ ?_ ?_
  rotate_left
  · exact rn
  (try simp only [Act.put, List.getElem_toArray, List.getElem_cons_zero, List.getElem_cons_succ, List.setIfInBounds_toArray, List.set_cons_zero, List.set_cons_succ])
  refine tkZ 9 ?_ ?_ ?_
  rotate_left
  · exact rn
  (try simp only [Act.put, List.getElem_toArray, List.getElem_cons_zero, List.getElem_cons_succ, List.setIfInBounds_toArray, List.set_cons_zero, List.set_cons_succ])
  refine tkZ 10 ?_ ?_ ?_
  rotate_left
  · exact rn
  (try simp only [Act.put, List.getElem_toArray, List.getElem_cons_zero, List.getElem_cons_succ, List.setIfInBounds_toArray, List.set_cons_zero, List.set_cons_succ])
  refine tkZ 11 ?_ ?_ ?_
  rotate_left
  · exact rn
  (try simp only [Act.put, List.getElem_toArray, List.getElem_cons_zero, List.getElem_cons_succ, List.setIfInBounds_toArray, List.set_cons_zero, List.set_cons_succ])
  generalize (w.drewN nq).drew = wq at *
  refine wpAnyZ_one (i := 12) rfl (by kernel_rfl) (fun K hK => ?_)
  go_simp
  have HB1 : Below w.heap.size w (wq.alloc (.cells #[.int .i64 0, .int .i64 0, .int .i64 0, .int .i64 0, .int .i64 0, .int .i64 0] 71)) := HB0.alloc (by omega) _
  refine hK.out _ _ (K1 _ HB1) (fun hHeld => ?_)
  clear hK K
  (try simp only [Act.put, List.getElem_toArray, List.getElem_cons_zero, List.getElem_cons_succ, List.setIfInBounds_toArray, List.set_cons_zero, List.set_cons_succ])
  refine wpAnyZ_one (i := 13) rfl (by kernel_rfl) (fun K hK => ?_)
  go_simp
  have HB2 : Below w.heap.size w (wq.alloc (.cells #[.int .i64 c[k].k, .int .i64 c[k].to, .int .i64 c[k].a, .int .i64 c[k].b, .int .i64 c[k].n, .int .i64 c[k].g] 71)) := HB0.alloc (by omega) _
  refine hK.out _ _ (K1 _ HB2) (fun hHeld => ?_)
  clear hK K
  (try simp only [Act.put, List.getElem_toArray, List.getElem_cons_zero, List.getElem_cons_succ, List.setIfInBounds_toArray, List.set_cons_zero, List.set_cons_succ])
  refine wpAnyZ_done (by kernel_rfl) ?_ _
  (try rw [hz0])
  have c0 : (wq.alloc (.cells #[.int .i64 c[k].k, .int .i64 c[k].to, .int .i64 c[k].a, .int .i64 c[k].b, .int .i64 c[k].n, .int .i64 c[k].g] 71)).cell? ⟨w.heap.size, 0, none⟩ = some (.int .i64 c[k].k) := by rw [← hz0]; simp [go_sem]
  have c1 : (wq.alloc (.cells #[.int .i64 c[k].k, .int .i64 c[k].to, .int .i64 c[k].a, .int .i64 c[k].b, .int .i64 c[k].n, .int .i64 c[k].g] 71)).cell? ⟨w.heap.size, 1, none⟩ = some (.int .i64 c[k].to) := by rw [← hz0]; simp [go_sem]
  have c2 : (wq.alloc (.cells #[.int .i64 c[k].k, .int .i64 c[k].to, .int .i64 c[k].a, .int .i64 c[k].b, .int .i64 c[k].n, .int .i64 c[k].g] 71)).cell? ⟨w.heap.size, 2, none⟩ = some (.int .i64 c[k].a) := by rw [← hz0]; simp [go_sem]
  have c3 : (wq.alloc (.cells #[.int .i64 c[k].k, .int .i64 c[k].to, .int .i64 c[k].a, .int .i64 c[k].b, .int .i64 c[k].n, .int .i64 c[k].g] 71)).cell? ⟨w.heap.size, 3, none⟩ = some (.int .i64 c[k].b) := by rw [← hz0]; simp [go_sem]
  have c4 : (wq.alloc (.cells #[.int .i64 c[k].k, .int .i64 c[k].to, .int .i64 c[k].a, .int .i64 c[k].b, .int .i64 c[k].n, .int .i64 c[k].g] 71)).cell? ⟨w.heap.size, 4, none⟩ = some (.int .i64 c[k].n) := by rw [← hz0]; simp [go_sem]
  have c5 : (wq.alloc (.cells #[.int .i64 c[k].k, .int .i64 c[k].to, .int .i64 c[k].a, .int .i64 c[k].b, .int .i64 c[k].n, .int .i64 c[k].g] 71)).cell? ⟨w.heap.size, 5, none⟩ = some (.int .i64 c[k].g) := by rw [← hz0]; simp [go_sem]
  have hzd : w.heap.size < (wq.alloc (.cells #[.int .i64 c[k].k, .int .i64 c[k].to, .int .i64 c[k].a, .int .i64 c[k].b, .int .i64 c[k].n, .int .i64 c[k].g] 71)).heap.size := by simp [hz0]
  clear hHeld K1 HB0 HB1
  generalize wq.alloc (.cells #[.int .i64 c[k].k, .int .i64 c[k].to, .int .i64 c[k].a, .int .i64 c[k].b, .int .i64 c[k].n, .int .i64 c[k].g] 71) = wd at *
  have oD := h.below HB2
  have HD := hideK (do_any V f c s hp hr c[k] hi ins m B vv tv lv fv is ic wd oD (Nat.le_trans hB HB2.size) (by rw [HB2.cell (by simpa using hm)]; exact h7) (by rw [HB2.cell (by simpa using hm)]; exact h9) (hI.below HB2 (Nat.le_refl _)) (hT.below HB2) hln)
  have nbx : some w.heap.size ∉ ownBlocks m vv tv lv fv := fun e => Nat.lt_irrefl _ (h.lt e)
  unfold doneI at HD
  generalize endI s c[k] = ee at *
  generalize hEF : effSt f ins s c[k] (aOf s c[k]) (bOf s c[k]) = ef at *
  clear hEF
  go_wp2_with (go_at_call 75; fail)
  refine HD.out.mono ?_
  rintro e w1 ⟨rfl, ⟨vv1, tv1, lv1, fv1, o1⟩, M2, M3, M4⟩
  clear HD
  have bx := M4 w.heap.size hzd nbx
  have x0 : w1.cell? ⟨w.heap.size, 0, none⟩ = some (.int .i64 c[k].k) := by rw [World.cell?_of_block (a := ⟨w.heap.size, 0, none⟩) bx]; exact c0
  have x1 : w1.cell? ⟨w.heap.size, 1, none⟩ = some (.int .i64 c[k].to) := by rw [World.cell?_of_block (a := ⟨w.heap.size, 1, none⟩) bx]; exact c1
  have x2 : w1.cell? ⟨w.heap.size, 2, none⟩ = some (.int .i64 c[k].a) := by rw [World.cell?_of_block (a := ⟨w.heap.size, 2, none⟩) bx]; exact c2
  have x3 : w1.cell? ⟨w.heap.size, 3, none⟩ = some (.int .i64 c[k].b) := by rw [World.cell?_of_block (a := ⟨w.heap.size, 3, none⟩) bx]; exact c3
  have x4 : w1.cell? ⟨w.heap.size, 4, none⟩ = some (.int .i64 c[k].n) := by rw [World.cell?_of_block (a := ⟨w.heap.size, 4, none⟩) bx]; exact c4
  have x5 : w1.cell? ⟨w.heap.size, 5, none⟩ = some (.int .i64 c[k].g) := by rw [World.cell?_of_block (a := ⟨w.heap.size, 5, none⟩) bx]; exact c5
  clear c0 c1 c2 c3 c4 c5 bx
  have r5 := o1.fin_
  have d5 := o1.thaw 5
  have hm1 : m < w1.heap.size := o1.lt (by simp [ownBlocks])
  have hne : m ≠ w.heap.size := by omega
  have HM : Below B w w1 := (HB2.mono hB).trans M2
  have HF : Hid (∀ k, k < w.heap.size → some k ∉ ownBlocks m vv tv lv fv → w1.heap[k]? = w.heap[k]?) := frame_trans (frame_same HB2) HB2.size M4
  have HC6 : Hid (∀ j, 6 ≤ j → w1.cell? ⟨m, j, none⟩ = w.cell? ⟨m, j, none⟩) := fun j hj => by rw [M3 j hj]; exact HB2.cell hm
  have hBm : B ≤ m := h.low
  clear M2 M3 M4 oD h
  by_cases he : ee = 0
  · subst he
    simp only [if_true] at o1 r5
    have oF := o1.withFin 0
    have HN := hideK (fun (wx : World) (vv tv lv : Value) (fv : List Value) (hx : OwnRun wx B m { ef with fin := 0 } vv tv lv fv) => next_any V f c s hp hr c[k] hi { ef with fin := 0 } HEA.out (fun h15 => by show ef.vars = s.vars; rw [HV15.out h15]) m B vv tv lv fv wx hx)
    have HQ : Hid (stepSt f c ins s = { ef with at_ := nextAt s c[k] (aOf s c[k]) }) := by
      have := HST.out
      rw [if_neg (by simp)] at this
      exact this
    clear HST HV15
    go_wp2_with (go_at_call 76; fail)
    refine (HN.out _ vv1 tv1 lv1 fv1 oF).mono ?_
    rintro e w2 ⟨rfl, hb2⟩
    have o2 := oF.below hb2
    have r0 := o2.at_
    have d0 := o2.thaw 0
    have hz2 : (w1.setCell ⟨m, 5, none⟩ (.int .i64 0)).heap.size = w1.heap.size := by simp [World.setCell]
    clear HN
    go_wp2
    first | go_ret | go_end0 | refine bodyPost_ret (results_none rfl _ _ _) rfl ?_
    rw [HQ.out]
    have oZ := o2.withAt (nextAt s c[k] (aOf s c[k]))
    have eZ : ({ ({ ef with fin := 0 } : St) with at_ := nextAt s c[k] (aOf s c[k]) } : St) = { ef with at_ := nextAt s c[k] (aOf s c[k]) } := by
      have hff : ef.fin = 0 := by rw [HEFF.out]; exact hf
      cases ef
      simp only at hff
      subst hff
      rfl
    rw [eZ] at oZ
    refine ⟨rfl, ⟨_, _, _, _, oZ⟩, Below.setCell (Below.trans (HM.setCell hBm _) (hb2.mono (by rw [hz2]; exact Nat.le_trans hBm (Nat.le_of_lt hm1)))) hBm _, fun j hj => ?_, ?_⟩
    · rw [World.cell?_setCell_other _ _ _ _ (by intro e; cases e; omega), hb2.cell (by rw [hz2]; exact hm1), World.cell?_setCell_other _ _ _ _ (by intro e; cases e; omega)]
      exact HC6.out j hj
    · refine frame_trans HF.out HM.size (frame_trans (frame_set (by simp [ownBlocks]) _ _) (by rw [hz2]; exact Nat.le_refl _) (frame_trans (frame_same hb2) hb2.size (frame_set (by simp [ownBlocks]) _ _)))
  · simp only [he, if_false] at o1 r5
    have bee : (ee == 0) = false := by simpa using he
    have oF := o1.withFin ee
    have HQ : Hid (stepSt f c ins s = { s with fin := ee }) := by
      have := HST.out
      rw [if_pos he, ← ha] at this
      exact this
    have HX := hideK oF
    clear HST HV15 oF o1
    go_wp2
    first | go_ret | go_end0 | refine bodyPost_ret (results_none rfl _ _ _) rfl ?_
    rw [HQ.out]
    refine ⟨rfl, ⟨_, _, _, _, HX.out⟩, HM.setCell hBm _, fun j hj => ?_, frame_trans HF.out HM.size (frame_set (by simp [ownBlocks]) _ _)⟩
    rw [World.cell?_setCell_other _ _ _ _ (by intro e; cases e; omega)]
    exact HC6.out j hj
/-- A step of the machine, in a run that is right. -/
theorem stepM_any (V : Int) (f : Nat) (c : List Ins) (s : St) (hp : ProgOk V f c) (hr : RunOk V f c s) (ins : List Int) (m B : Nat) (vv tv lv : Value) (fv : List Value) (cs : Option Addr) (cc : Nat) (is : Option Addr) (ic : Nat) (w : World)
    (h : OwnRun w B m s vv tv lv fv) (hB : B ≤ w.heap.size) (h7 : w.cell? ⟨m, 7, none⟩ = some (.int .i64 f)) (h8 : w.cell? ⟨m, 8, none⟩ = some (.slice cs c.length cc)) (h9 : w.cell? ⟨m, 9, none⟩ = some (.slice is ins.length ic)) (hC : CodeAt w cs c) (hI : IntsAt w is ins) (hT : Tab w) (hln : (s.lines.length + 1) * 16 ≤ 140737488355328) :
    Calls Tryd.prog 48 #[.pointer (some ⟨m, 0, none⟩)] w fun e w' => e = .returned (.tuple #[]) ∧ MStep w w' B m (ownBlocks m vv tv lv fv) (stepSt f c ins s) := by
  by_cases hf : s.fin = 0
  · by_cases ha : s.at_ = c.length
    · have e : stepSt f c ins s = { s with fin := 1 } := by rw [stepSt_eq, if_neg (by omega), if_pos ha]
      rw [e]
      exact stepM_last m B s vv tv lv fv c.length cc cs w h hf ha h8
    · obtain ⟨k, hk⟩ := Int.eq_ofNat_of_zero_le hr.at0
      have := hr.at1
      exact stepM_go V f c s hp hr ins m B vv tv lv fv cs cc is ic w h hB h7 h8 h9 hC hI hT hln hf k hk (by omega)
  · have e : stepSt f c ins s = s := by rw [stepSt_eq, if_pos hf]
    rw [e]
    exact stepM_ended m B s vv tv lv fv w h hf
end Go.Proofs.YtmapdpcfanecdaaDoor
