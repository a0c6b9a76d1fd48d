/- Walks over package run: what the machine does, kind by kind. -/
import Derived.Test.YtmapdpcfanecdaaDoorKlawrsp32
import Derived.Test.YtmapdpcfanecdaaDoorKlawrsp33
import Derived.Test.YtmapdpcfanecdaaDoorKlawrsp34
import Derived.Test.YtmapdpcfanecdaaDoorKlawrsp35
import Derived.Test.YtmapdpcfanecdaaDoorKlawrsp36
import Derived.Test.YtmapdpcfanecdaaDoorKlawrsp37
import Derived.Test.YtmapdpcfanecdaaDoorKlawrsp38
import Derived.Test.YtmapdpcfanecdaaDoorKlawrsp39
import Derived.Test.YtmapdpcfanecdaaDoorKlawrsp40
import Derived.Test.YtmapdpcfanecdaaDoorKlawrsp41
import Derived.Test.YtmapdpcfanecdaaDoorKlawrsp42
import Derived.Test.YtmapdpcfanecdaaDoorKlawrsp43
import Derived.Test.YtmapdpcfanecdaaDoorKlawrsp44
import Derived.Test.YtmapdpcfanecdaaDoorKlawrsp45
import Derived.Test.YtmapdpcfanecdaaDoorKlawrsp46
import Derived.Test.YtmapdpcfanecdaaDoorKlawrsp47
import Derived.Test.YtmapdpcfanecdaaDoorKlawrsp48
import Derived.Test.YtmapdpcfanecdaaDoorKlawrsp49
import Derived.Test.YtmapdpcfanecdaaDoorKlawrsp50
import Derived.Test.YtmapdpcfanecdaaDoorKlawrsp27
import Derived.Test.YtmapdpcfanecdaaDoorKlawrsp29
import Derived.Deep.DeepCutAuto
import Derived.Test.YtmapdpcfanecdaaDoorKlawrsp09
import Derived.Test.YtmapdpcfanecdaaDoorKlawrsp05
import Derived.Test.YtmapdpcfanecdaaDoorKlawrsp10
import Derived.Test.YtmapdpcfanecdaaDoorKlawrsp16
import Derived.Test.YtmapdpcfanecdaaDoorKlawrsp14
namespace Go.Proofs.YtmapdpcfanecdaaDoor
set_option linter.unusedVariables false
set_option linter.unusedSimpArgs false
open Go.RowKit
attribute [local go_sem ↓] Go.wp_at_zero Go.wp_at_succ

/-- One step, as the document makes it. -/
theorem stepOf_any (v f : Nat) (s : Option Addr) (c : List Ins) (cap : Nat) (r : St) (vs : Option Addr) (vc : Nat) (ts : Option Addr) (tc : Nat) (ls : Option Addr) (lc : Nat) (is : Option Addr) (ic : Nat) (ins : List Int) (w : World) (hc : CodeAt w s c) (hr : RunAt w r vs ts ls) (hp : ProgOk v f c) (hk : RunOk v f c r) (hI : IntsAt w is ins) (hln : (r.lines.length + 1) * 16 ≤ 140737488355328) :
    Calls Tryd.prog 23 #[.agg #[.int .i64 (v : Int), .int .i64 (f : Int), .slice s c.length cap], runV r vs vc ts tc ls lc, .slice is ins.length ic] w fun e w' => ∃ vv tv lv fv, e = .returned (.agg #[.int .i64 (stepSt f c ins r).at_, vv, tv, .int .i64 (stepSt f c ins r).taken, lv, .int .i64 (stepSt f c ins r).fin]) ∧ OwnRows w' w.heap.size (stepSt f c ins r) vv tv lv fv ∧ Below w.heap.size w w' := by
  by_cases hf0 : r.fin ≠ 0
  · exact stepR_ended v f s c cap r vs vc ts tc ls lc is ic ins w hc hr hp hk hI hln hf0
  have hf : r.fin = 0 := by omega
  clear hf0
  by_cases hl : r.at_ = c.length
  · exact stepR_last v f s c cap r vs vc ts tc ls lc is ic ins w hc hr hp hk hI hln hf hl
  obtain ⟨k, ha⟩ := Int.eq_ofNat_of_zero_le hk.at0
  have hkl : k < c.length := by have := hk.at1; omega
  obtain ⟨i, hck⟩ : ∃ i, c[k] = i := ⟨_, rfl⟩
  have hi := hp.each i (by rw [← hck]; exact List.getElem_mem hkl)
  obtain ⟨kk, tt, a, b, n, g⟩ := i
  obtain ⟨h1, h2, h3, h4, h5, h6, h7, h8, h9⟩ := ckOne_parts hi
  simp only at h1 h2 h3 h4 h5 h6 h7 h8 h9
  have hv := hk.vars
  have hV := hp.v8
  have tN : nTo kk = true → ∃ t : Nat, tt = t ∧ t < r.vars.length := fun hn => by
    obtain ⟨t, rfl⟩ := Int.eq_ofNat_of_zero_le (h2 hn).1
    exact ⟨t, rfl, by have := (h2 hn).2; omega⟩
  have aN : nA kk = true → ∃ x : Nat, a = x ∧ x < r.vars.length := fun hn => by
    obtain ⟨x, rfl⟩ := Int.eq_ofNat_of_zero_le (h3 hn).1
    exact ⟨x, rfl, by have := (h3 hn).2; omega⟩
  have bN : nB kk = true → ∃ y : Nat, b = y ∧ y < r.vars.length := fun hn => by
    obtain ⟨y, rfl⟩ := Int.eq_ofNat_of_zero_le (h4 hn).1
    exact ⟨y, rfl, by have := (h4 hn).2; omega⟩
  clear hi h6
  rcases btw_cases h1 with rfl | rfl | rfl | rfl | rfl | rfl | rfl | rfl | rfl | rfl | rfl | rfl | rfl | rfl | rfl | rfl | rfl | rfl | rfl
  · obtain ⟨t, rfl, ht⟩ := tN rfl
    exact stepR_1 v f s c cap r vs vc ts tc ls lc is ic ins w hc hr hp hk hI hln t k a b n g hf ha hkl hck ht
  · obtain ⟨t, rfl, ht⟩ := tN rfl
    exact stepR_2 v f s c cap r vs vc ts tc ls lc is ic ins w hc hr hp hk hI hln t k a b n g hf ha hkl hck ht
  · obtain ⟨t, rfl, ht⟩ := tN rfl
    exact stepR_3 v f s c cap r vs vc ts tc ls lc is ic ins w hc hr hp hk hI hln t k a b n g hf ha hkl hck ht
  · obtain ⟨t, rfl, ht⟩ := tN rfl
    obtain ⟨x, rfl, hx⟩ := aN rfl
    exact stepR_4 v f s c cap r vs vc ts tc ls lc is ic ins w hc hr hp hk hI hln t x k b n g hf ha hkl hck ht hx
  · obtain ⟨t, rfl, ht⟩ := tN rfl
    obtain ⟨x, rfl, hx⟩ := aN rfl
    obtain ⟨y, rfl, hy⟩ := bN rfl
    by_cases hA1 : r.vars[x].k = 1
    · by_cases hC1 : r.vars[y].k = 1
      · exact stepR_5 v f s c cap r vs vc ts tc ls lc is ic ins w hc hr hp hk hI hln t x y k n g hf ha hkl hck ht hx hy hA1 hC1
      · exact stepR_5wb v f s c cap r vs vc ts tc ls lc is ic ins w hc hr hp hk hI hln t x y k n g hf ha hkl hck ht hx hy hA1 hC1
    · exact stepR_5wa v f s c cap r vs vc ts tc ls lc is ic ins w hc hr hp hk hI hln t x y k n g hf ha hkl hck ht hx hy hA1
  · obtain ⟨t, rfl, ht⟩ := tN rfl
    obtain ⟨x, rfl, hx⟩ := aN rfl
    obtain ⟨y, rfl, hy⟩ := bN rfl
    by_cases hA1 : r.vars[x].k = 1
    · by_cases hC1 : r.vars[y].k = 1
      · exact stepR_6 v f s c cap r vs vc ts tc ls lc is ic ins w hc hr hp hk hI hln t x y k n g hf ha hkl hck ht hx hy hA1 hC1
      · exact stepR_6wb v f s c cap r vs vc ts tc ls lc is ic ins w hc hr hp hk hI hln t x y k n g hf ha hkl hck ht hx hy hA1 hC1
    · exact stepR_6wa v f s c cap r vs vc ts tc ls lc is ic ins w hc hr hp hk hI hln t x y k n g hf ha hkl hck ht hx hy hA1
  · obtain ⟨t, rfl, ht⟩ := tN rfl
    obtain ⟨x, rfl, hx⟩ := aN rfl
    obtain ⟨y, rfl, hy⟩ := bN rfl
    by_cases hA1 : r.vars[x].k = 1
    · by_cases hC1 : r.vars[y].k = 1
      · exact stepR_7 v f s c cap r vs vc ts tc ls lc is ic ins w hc hr hp hk hI hln t x y k n g hf ha hkl hck ht hx hy hA1 hC1
      · exact stepR_7wb v f s c cap r vs vc ts tc ls lc is ic ins w hc hr hp hk hI hln t x y k n g hf ha hkl hck ht hx hy hA1 hC1
    · exact stepR_7wa v f s c cap r vs vc ts tc ls lc is ic ins w hc hr hp hk hI hln t x y k n g hf ha hkl hck ht hx hy hA1
  · obtain ⟨t, rfl, ht⟩ := tN rfl
    obtain ⟨x, rfl, hx⟩ := aN rfl
    obtain ⟨y, rfl, hy⟩ := bN rfl
    by_cases hA1 : r.vars[x].k = 1
    · by_cases hC1 : r.vars[y].k = 1
      · exact stepR_8 v f s c cap r vs vc ts tc ls lc is ic ins w hc hr hp hk hI hln t x y k n g hf ha hkl hck ht hx hy hA1 hC1
      · exact stepR_8wb v f s c cap r vs vc ts tc ls lc is ic ins w hc hr hp hk hI hln t x y k n g hf ha hkl hck ht hx hy hA1 hC1
    · exact stepR_8wa v f s c cap r vs vc ts tc ls lc is ic ins w hc hr hp hk hI hln t x y k n g hf ha hkl hck ht hx hy hA1
  · obtain ⟨t, rfl, ht⟩ := tN rfl
    obtain ⟨x, rfl, hx⟩ := aN rfl
    obtain ⟨y, rfl, hy⟩ := bN rfl
    by_cases hE1 : r.vars[x].k = r.vars[y].k
    · by_cases hE2 : r.vars[x].n = r.vars[y].n
      · exact stepR_9ee v f s c cap r vs vc ts tc ls lc is ic ins w hc hr hp hk hI hln t x y k n g hf ha hkl hck ht hx hy hE1 hE2
      · exact stepR_9en v f s c cap r vs vc ts tc ls lc is ic ins w hc hr hp hk hI hln t x y k n g hf ha hkl hck ht hx hy hE1 hE2
    · exact stepR_9n v f s c cap r vs vc ts tc ls lc is ic ins w hc hr hp hk hI hln t x y k n g hf ha hkl hck ht hx hy hE1
  · obtain ⟨t, rfl, ht⟩ := tN rfl
    obtain ⟨x, rfl, hx⟩ := aN rfl
    exact stepR_10 v f s c cap r vs vc ts tc ls lc is ic ins w hc hr hp hk hI hln t x k b n g hf ha hkl hck ht hx
  · obtain ⟨t, rfl, ht⟩ := tN rfl
    by_cases h100 : r.things.length = 100
    · exact stepR_11f v f s c cap r vs vc ts tc ls lc is ic ins w hc hr hp hk hI hln t k a b n g hf ha hkl hck ht h100
    · exact stepR_11n v f s c cap r vs vc ts tc ls lc is ic ins w hc hr hp hk hI hln t k a b n g hf ha hkl hck ht (by have := hk.things; omega)
  · obtain ⟨t, rfl, ht⟩ := tN rfl
    obtain ⟨x, rfl, hx⟩ := aN rfl
    by_cases hk3 : r.vars[x].k = 3
    · rcases hk.vals _ (List.getElem_mem hx) with hA | hA | hA | hA
      · omega
      · omega
      · omega
      obtain ⟨q, hq⟩ := Int.eq_ofNat_of_zero_le hA.2.1
      obtain ⟨fi, rfl⟩ := Int.eq_ofNat_of_zero_le (h5 (.inl rfl)).1
      have hql : q < r.things.length := by omega
      have hfl : fi < r.things[q].fs.length := by have := hk.fields _ (List.getElem_mem hql); have := (h5 (.inl rfl)).2; omega
      exact stepR_12 v f s c cap r vs vc ts tc ls lc is ic ins w hc hr hp hk hI hln t x q fi k b g hf ha hkl hck ht hx (by rw [← hk3, ← hq]) hql hfl
    · exact stepR_12w v f s c cap r vs vc ts tc ls lc is ic ins w hc hr hp hk hI hln t x k b n g hf ha hkl hck ht hx hk3
  · obtain ⟨x, rfl, hx⟩ := aN rfl
    obtain ⟨y, rfl, hy⟩ := bN rfl
    by_cases hk3 : r.vars[x].k = 3
    · rcases hk.vals _ (List.getElem_mem hx) with hA | hA | hA | hA
      · omega
      · omega
      · omega
      obtain ⟨q, hq⟩ := Int.eq_ofNat_of_zero_le hA.2.1
      obtain ⟨fi, rfl⟩ := Int.eq_ofNat_of_zero_le (h5 (.inr rfl)).1
      have hql : q < r.things.length := by omega
      have hfl : fi < r.things[q].fs.length := by have := hk.fields _ (List.getElem_mem hql); have := (h5 (.inr rfl)).2; omega
      exact stepR_13 v f s c cap r vs vc ts tc ls lc is ic ins w hc hr hp hk hI hln x y q fi k tt g hf ha hkl hck hx hy (by rw [← hk3, ← hq]) hql hfl
    · exact stepR_13w v f s c cap r vs vc ts tc ls lc is ic ins w hc hr hp hk hI hln x y k tt n g hf ha hkl hck hx hy hk3
  · obtain ⟨t, rfl, ht⟩ := tN rfl
    obtain ⟨n0, n1⟩ := h9 rfl
    by_cases htk : (ins.length : Int) ≤ r.taken
    · exact stepR_14n v f s c cap r vs vc ts tc ls lc is ic ins w hc hr hp hk hI hln t k a b n g hf ha hkl hck ht n0 n1 htk
    obtain ⟨j, hj⟩ := Int.eq_ofNat_of_zero_le hk.tk
    have hjl : j < ins.length := by omega
    by_cases hgt : n < ins[j]
    · exact stepR_14g v f s c cap r vs vc ts tc ls lc is ic ins w hc hr hp hk hI hln t k a b n g hf ha hkl hck ht n0 n1 j hj hjl hgt
    by_cases hlt : ins[j] < -n
    · exact stepR_14l v f s c cap r vs vc ts tc ls lc is ic ins w hc hr hp hk hI hln t k a b n g hf ha hkl hck ht n0 n1 j hj hjl (by omega) hlt
    · exact stepR_14m v f s c cap r vs vc ts tc ls lc is ic ins w hc hr hp hk hI hln t k a b n g hf ha hkl hck ht n0 n1 j hj hjl (by omega) (by omega)
  · obtain ⟨x, rfl, hx⟩ := aN rfl
    rcases Bool.eq_false_or_eq_true (cnt r.vars[x]) with hcn | hcn
    · exact stepR_15t v f s c cap r vs vc ts tc ls lc is ic ins w hc hr hp hk hI hln x k tt b n g hf ha hkl hck hx hcn
    · exact stepR_15f v f s c cap r vs vc ts tc ls lc is ic ins w hc hr hp hk hI hln x k tt b n g hf ha hkl hck hx hcn
  · exact stepR_16 v f s c cap r vs vc ts tc ls lc is ic ins w hc hr hp hk hI hln k tt a b n g hf ha hkl hck
  · obtain ⟨x, rfl, hx⟩ := aN rfl
    rcases Bool.eq_false_or_eq_true (cnt r.vars[x]) with hcn | hcn
    · exact stepR_17t v f s c cap r vs vc ts tc ls lc is ic ins w hc hr hp hk hI hln x k tt b n g hf ha hkl hck hx hcn
    · exact stepR_17f v f s c cap r vs vc ts tc ls lc is ic ins w hc hr hp hk hI hln x k tt b n g hf ha hkl hck hx hcn
  · obtain ⟨x, rfl, hx⟩ := aN rfl
    exact stepR_18 v f s c cap r vs vc ts tc ls lc is ic ins w hc hr hp hk hI hln x k tt b n g hf ha hkl hck hx
  · exact stepR_19 v f s c cap r vs vc ts tc ls lc is ic ins w hc hr hp hk hI hln k tt a b n g hf ha hkl hck
end Go.Proofs.YtmapdpcfanecdaaDoor

namespace Go.Proofs.YtmapdpcfanecdaaDoor
set_option linter.unusedVariables false
set_option linter.unusedSimpArgs false
open Go.RowKit
attribute [local go_sem ↓] Go.wp_at_zero Go.wp_at_succ

set_option maxHeartbeats 2000000 in
set_option maxRecDepth 10000 in
theorem runIs_errA (c : Int) (r : St) (vs1 : Option Addr) (vc1 : Nat) (ts1 : Option Addr) (tc1 : Nat) (ls1 : Option Addr) (lc1 : Nat) (vs2 : Option Addr) (vc2 : Nat) (ts2 : Option Addr) (tc2 : Nat) (ls2 : Option Addr) (lc2 : Nat) (w : World) (h1 : RunAt w zeroSt vs1 ts1 ls1) (hne : (c != 0) = true) :
    Calls Tryd.prog 26 #[runV zeroSt vs1 vc1 ts1 tc1 ls1 lc1, .int .i64 c, .int .i64 c, runV r vs2 vc2 ts2 tc2 ls2 lc2] w fun e w' => e = .returned (.bool true) ∧ Below w.heap.size w w' := by
  have HS : Hid (∀ wx, Below w.heap.size w wx → Calls Tryd.prog 59 #[runV zeroSt vs1 vc1 ts1 tc1 ls1 lc1, runV zeroSt none 0 none 0 none 0] wx fun e w' => e = .returned (.bool true) ∧ Below wx.heap.size wx w') := fun wx hx => sameRun_any zeroSt vs1 vc1 ts1 tc1 ls1 lc1 none 0 none 0 none 0 wx zeroSt_len (h1.below hx (Nat.le_refl _)) (zeroSt_at _)
  clear h1
  unfold runV at HS ⊢
  simp only [zeroSt, List.length_nil] at HS
  go_enter Tryd.func26, Tryd.ntmps26
  simp only [zeroSt, List.length_nil]
  go_wp2_with (go_at_call 59; fail)
  refine (HS.out _ (by go_grown)).mono ?_
  rintro e w1 ⟨rfl, hb1⟩
  go_wp2
  go_ret
  exact ⟨rfl, Below.trans (by go_grown) (hb1.mono (by simp; omega))⟩
/-- A run beside its errno is what it must be. -/
theorem runIsU (c : Int) (st want : St) (vs1 : Option Addr) (vc1 : Nat) (ts1 : Option Addr) (tc1 : Nat) (ls1 : Option Addr) (lc1 : Nat) (vs2 : Option Addr) (vc2 : Nat) (ts2 : Option Addr) (tc2 : Nat) (ls2 : Option Addr) (lc2 : Nat) (w : World) (h0 : c = 0 → want = st) (h3 : c ≠ 0 → st = zeroSt) (hl : LenSt st) (h1 : RunAt w st vs1 ts1 ls1) (h2 : RunAt w want vs2 ts2 ls2) :
    Calls Tryd.prog 26 #[runV st vs1 vc1 ts1 tc1 ls1 lc1, .int .i64 c, .int .i64 c, runV want vs2 vc2 ts2 tc2 ls2 lc2] w fun e w' => e = .returned (.bool true) ∧ Below w.heap.size w w' := by
  by_cases hc : c = 0
  · have e := h0 hc
    subst e
    subst hc
    exact runIs_ok _ vs1 vc1 ts1 tc1 ls1 lc1 vs2 vc2 ts2 tc2 ls2 lc2 w hl h1 h2
  · have e := h3 hc
    subst e
    exact runIs_errA c want vs1 vc1 ts1 tc1 ls1 lc1 vs2 vc2 ts2 tc2 ls2 lc2 w h1 (by simpa using hc)
end Go.Proofs.YtmapdpcfanecdaaDoor

namespace Go.Proofs.YtmapdpcfanecdaaDoor
set_option linter.unusedVariables false
set_option linter.unusedSimpArgs false
open Go.RowKit

/-- The rows' lengths are held by M. -/
def RowsLe (M : Nat) (q : St) : Prop := q.vars.length ≤ M ∧ q.things.length ≤ M ∧ ∀ t ∈ q.things, t.fs.length ≤ M
theorem effSt_rows {M : Nat} (F : Int) (ins : List Int) (r : St) (i : Ins) (a b : Val) (h : RowsLe M r) (ht : r.things.length < M) (hF : F.toNat ≤ M) : RowsLe M (effSt F ins r i a b) := by
  have hput : ∀ q : St, RowsLe M q → RowsLe M (if nTo i.k then putVar q i.to (makes r ins i a b) else q) := fun q hq => by
    split
    · exact ⟨by simpa [putVar] using hq.1, hq.2⟩
    · exact hq
  unfold effSt
  simp only
  apply hput
  split
  · refine ⟨h.1, by simp; omega, fun t hm => ?_⟩
    rcases List.mem_append.1 hm with hm | hm
    · exact h.2.2 t hm
    · rw [List.mem_singleton.1 hm]; simpa using hF
  split
  · refine ⟨h.1, by simpa [putField] using h.2.1, fun t hm => ?_⟩
    unfold putField at hm
    simp only at hm
    obtain ⟨j, hj, rfl⟩ := List.getElem_of_mem hm
    rw [List.getElem_modify]
    rw [List.length_modify] at hj
    split
    · simpa using h.2.2 _ (List.getElem_mem hj)
    · exact h.2.2 _ (List.getElem_mem hj)
  split
  · exact h
  split
  · exact h
  · exact h
theorem stepSt_rows {M : Nat} {F : Int} {c : List Ins} (ins : List Int) {r : St} (h : RowsLe M r) (ht : r.things.length < M) (hF : F.toNat ≤ M) : RowsLe M (stepSt F c ins r) := by
  rw [stepSt_eq]
  split
  · exact h
  split
  · exact h
  split
  · exact h
  · exact effSt_rows F ins r _ _ _ h ht hF
theorem stepSt_lens {V F : Int} {c : List Ins} (ins : List Int) {r : St} (hp : ProgOk V F c) (hr : RunOk V F c r) (hln : (r.lines.length + 1) * 16 ≤ 140737488355328) : LenSt (stepSt F c ins r) := by
  have h1 := hr.vars
  have h2 := hp.v8
  have h3 := hr.things
  have h4 := hp.f3
  have h := stepSt_rows (M := 1000) (F := F) (c := c) ins (r := r) ⟨by omega, by omega, fun t ht => by have := hr.fields t ht; omega⟩ (by omega) (by omega)
  have hl := stepSt_lines F c ins r
  refine ⟨by have := h.1; unfold maxLen; omega, by have := h.2.1; unfold maxLen; omega, by unfold maxLen; omega, fun t ht => by have := h.2.2 t ht; unfold maxLen; omega⟩
end Go.Proofs.YtmapdpcfanecdaaDoor

namespace Go.Proofs.YtmapdpcfanecdaaDoor
set_option linter.unusedVariables false
set_option linter.unusedSimpArgs false
open Go.RowKit
attribute [local go_sem ↓] Go.wp_at_zero Go.wp_at_succ

theorem begOf_len (V F : Int) (c : List Ins) : LenSt (begOf V F c) := by
  unfold begOf
  split
  · rename_i h
    have hp := progOk_of h
    have h1 := hp.v8
    refine ⟨?_, by simp [beginSt], by simp [beginSt], fun t ht => by simp [beginSt] at ht⟩
    simp only [beginSt, List.length_replicate]
    unfold maxLen
    omega
  · exact zeroSt_len
theorem ckBoth_prog {V F : Int} {c : List Ins} {r : St} (h : ckBoth V F c r = 0) : ckProg V F c = 0 := by
  unfold ckBoth at h
  split at h
  · assumption
  · exact h
theorem ckBoth_ok {V F : Int} {c : List Ins} {r : St} (h : ckBoth V F c r = 0) : RunOk V F c r := by
  have h0 := ckBoth_prog h
  unfold ckBoth at h
  rw [if_pos h0] at h
  exact ckRun_ok h
theorem stpOf_len (V F : Int) (c : List Ins) (ins : List Int) (r : St) (hln : (r.lines.length + 1) * 16 ≤ 140737488355328) : LenSt (stpOf V F c ins r) := by
  unfold stpOf
  split
  · rename_i h
    exact stepSt_lens ins (progOk_of (ckBoth_prog h)) (ckBoth_ok h) hln
  · exact zeroSt_len
/-- The document's beginning, as rows of its own. -/
theorem beginOfU (v : Nat) (F : Int) (s : Option Addr) (c : List Ins) (cap : Nat) (w : World) (h0 : ckProg (v : Int) F c = 0) :
    Calls Tryd.prog 22 #[.agg #[.int .i64 (v : Int), .int .i64 F, .slice s c.length cap]] w fun e w' => ∃ vs vc ts tc ls lc fv, e = .returned (.agg #[.int .i64 (begOf v F c).at_, .slice vs (begOf v F c).vars.length vc, .slice ts (begOf v F c).things.length tc, .int .i64 (begOf v F c).taken, .slice ls (begOf v F c).lines.length lc, .int .i64 (begOf v F c).fin]) ∧ OwnRows w' w.heap.size (begOf v F c) (.slice vs (begOf v F c).vars.length vc) (.slice ts (begOf v F c).things.length tc) (.slice ls (begOf v F c).lines.length lc) fv ∧ Below w.heap.size w w' := by
  have hp := progOk_of h0
  have hv8 := hp.v8
  refine (beginOf_any F s c.length cap w v (by omega)).mono ?_
  rintro e w' ⟨g, rfl, hown, hb⟩
  rw [made_zero v (by omega)] at hown
  have O := begin_rows (by omega) hown
  have e1 : begOf v F c = beginSt v := if_pos h0
  rw [e1]
  have hvl : (beginSt (v : Int)).vars.length = v := by simp [beginSt]
  refine ⟨some ⟨g, 0, none⟩, v, none, 0, none, 0, [], ?_, ?_, hb⟩
  · rw [hvl]
    rfl
  · rw [hvl]
    exact O
theorem stepOfU (v f : Nat) (s : Option Addr) (c : List Ins) (cap : Nat) (r : St) (vs : Option Addr) (vc : Nat) (ts : Option Addr) (tc : Nat) (ls : Option Addr) (lc : Nat) (is : Option Addr) (ic : Nat) (ins : List Int) (w : World) (hc : CodeAt w s c) (hr : RunAt w r vs ts ls) (hI : IntsAt w is ins) (hln : (r.lines.length + 1) * 16 ≤ 140737488355328) (h0 : ckBoth (v : Int) (f : Int) c r = 0) :
    Calls Tryd.prog 23 #[.agg #[.int .i64 (v : Int), .int .i64 (f : Int), .slice s c.length cap], runV r vs vc ts tc ls lc, .slice is ins.length ic] w fun e w' => ∃ vs vc ts tc ls lc fv, e = .returned (.agg #[.int .i64 (stpOf v f c ins r).at_, .slice vs (stpOf v f c ins r).vars.length vc, .slice ts (stpOf v f c ins r).things.length tc, .int .i64 (stpOf v f c ins r).taken, .slice ls (stpOf v f c ins r).lines.length lc, .int .i64 (stpOf v f c ins r).fin]) ∧ OwnRows w' w.heap.size (stpOf v f c ins r) (.slice vs (stpOf v f c ins r).vars.length vc) (.slice ts (stpOf v f c ins r).things.length tc) (.slice ls (stpOf v f c ins r).lines.length lc) fv ∧ Below w.heap.size w w' := by
  refine (stepOf_any v f s c cap r vs vc ts tc ls lc is ic ins w hc hr (progOk_of (ckBoth_prog h0)) (ckBoth_ok h0) hI hln).mono ?_
  rintro e w' ⟨vv, tv, lv, fv, rfl, OR, hb⟩
  obtain ⟨vs2, vc2, ts2, tc2, ls2, lc2, rfl, rfl, rfl, -⟩ := OR.at
  have e1 : stpOf v f c ins r = stepSt f c ins r := if_pos h0
  rw [e1]
  exact ⟨_, _, _, _, _, _, fv, rfl, OR, hb⟩
theorem R6.apart {w : World} {b b' : Nat} {x0 x1 x2 x3 x4 x5 : Value} (h : R6 w b x0 x1 x2 x3 x4 x5) (hne : b ≠ b') (y0 y1 y2 y3 y4 y5 : Value) : R6 (set6 w b' y0 y1 y2 y3 y4 y5) b x0 x1 x2 x3 x4 x5 := h.same (set6_far _ _ _ _ _ _ _ _ _ hne) (by rw [set6_size]; exact Nat.le_refl _)
end Go.Proofs.YtmapdpcfanecdaaDoor
