/- Walks over package run: what the machine does, kind by kind. -/
import Derived.Test.YtmapdpcfanecdaaDoorKlawrsp33
import Derived.Test.YtmapdpcfanecdaaDoorKlawrsp34
import Derived.Test.YtmapdpcfanecdaaDoorKlawrsp35
import Derived.Test.YtmapdpcfanecdaaDoorKlawrsp36
import Derived.Test.YtmapdpcfanecdaaDoorKlawrsp37
import Derived.Test.YtmapdpcfanecdaaDoorKlawrsp38
import Derived.Test.YtmapdpcfanecdaaDoorKlawrsp39
import Derived.Test.YtmapdpcfanecdaaDoorKlawrsp40
import Derived.Test.YtmapdpcfanecdaaDoorKlawrsp41
import Derived.Test.YtmapdpcfanecdaaDoorKlawrsp42
import Derived.Test.YtmapdpcfanecdaaDoorKlawrsp43
import Derived.Test.YtmapdpcfanecdaaDoorKlawrsp44
import Derived.Test.YtmapdpcfanecdaaDoorKlawrsp45
import Derived.Test.YtmapdpcfanecdaaDoorKlawrsp46
import Derived.Test.YtmapdpcfanecdaaDoorKlawrsp47
import Derived.Test.YtmapdpcfanecdaaDoorKlawrsp48
import Derived.Test.YtmapdpcfanecdaaDoorKlawrsp49
import Derived.Test.YtmapdpcfanecdaaDoorKlawrsp50
import Derived.Test.YtmapdpcfanecdaaDoorKlawrsp51
import Derived.Test.YtmapdpcfanecdaaDoorKlawrsp30
import Derived.Deep.DeepCutAuto
import Derived.Test.YtmapdpcfanecdaaDoorKlawrsp31
import Derived.Test.YtmapdpcfanecdaaDoorKlawrsp09
import Derived.Test.YtmapdpcfanecdaaDoorKlawrsp10
import Derived.Test.YtmapdpcfanecdaaDoorKlawrsp22
import Derived.Test.YtmapdpcfanecdaaDoorKlawrsp20
import Derived.Test.YtmapdpcfanecdaaDoorKlawrsp06
namespace Go.Proofs.YtmapdpcfanecdaaDoor
set_option linter.unusedVariables false
set_option linter.unusedSimpArgs false
open Go.RowKit
attribute [local go_sem ↓] Go.wp_at_zero Go.wp_at_succ

/-- One step, as the document makes it. -/
theorem stepOf_any (v f : Nat) (s : Option Addr) (c : List Ins) (cap : Nat) (r : St) (vs : Option Addr) (vc : Nat) (ts : Option Addr) (tc : Nat) (ls : Option Addr) (lc : Nat) (is : Option Addr) (ic : Nat) (ins : List Int) (w : World) (hc : CodeAt w s c) (hr : RunAt w r vs ts ls) (hp : ProgOk v f c) (hk : RunOk v f c r) (hI : IntsAt w is ins) (hln : (r.lines.length + 1) * 16 ≤ 140737488355328) :
    Calls Tryd.prog 23 #[.agg #[.int .i64 (v : Int), .int .i64 (f : Int), .slice s c.length cap], runV r vs vc ts tc ls lc, .slice is ins.length ic] w fun e w' => ∃ vv tv lv fv, e = .returned (.agg #[.int .i64 (stepSt f c ins r).at_, vv, tv, .int .i64 (stepSt f c ins r).taken, lv, .int .i64 (stepSt f c ins r).fin]) ∧ OwnRows w' w.heap.size (stepSt f c ins r) vv tv lv fv ∧ Below w.heap.size w w' := by
  by_cases hf0 : r.fin ≠ 0
  · exact stepR_ended v f s c cap r vs vc ts tc ls lc is ic ins w hc hr hp hk hI hln hf0
  have hf : r.fin = 0 := by omega
  clear hf0
  by_cases hl : r.at_ = c.length
  · exact stepR_last v f s c cap r vs vc ts tc ls lc is ic ins w hc hr hp hk hI hln hf hl
  obtain ⟨k, ha⟩ := Int.eq_ofNat_of_zero_le hk.at0
  have hkl : k < c.length := by have := hk.at1; omega
  obtain ⟨i, hck⟩ : ∃ i, c[k] = i := ⟨_, rfl⟩
  have hi := hp.each i (by rw [← hck]; exact List.getElem_mem hkl)
  obtain ⟨kk, tt, a, b, n, g⟩ := i
  obtain ⟨h1, h2, h3, h4, h5, h6, h7, h8, h9⟩ := ckOne_parts hi
  simp only at h1 h2 h3 h4 h5 h6 h7 h8 h9
  have hv := hk.vars
  have hV := hp.v8
  have tN : nTo kk = true → ∃ t : Nat, tt = t ∧ t < r.vars.length := fun hn => by
    obtain ⟨t, rfl⟩ := Int.eq_ofNat_of_zero_le (h2 hn).1
    exact ⟨t, rfl, by have := (h2 hn).2; omega⟩
  have aN : nA kk = true → ∃ x : Nat, a = x ∧ x < r.vars.length := fun hn => by
    obtain ⟨x, rfl⟩ := Int.eq_ofNat_of_zero_le (h3 hn).1
    exact ⟨x, rfl, by have := (h3 hn).2; omega⟩
  have bN : nB kk = true → ∃ y : Nat, b = y ∧ y < r.vars.length := fun hn => by
    obtain ⟨y, rfl⟩ := Int.eq_ofNat_of_zero_le (h4 hn).1
    exact ⟨y, rfl, by have := (h4 hn).2; omega⟩
  clear hi h6
  rcases btw_cases h1 with rfl | rfl | rfl | rfl | rfl | rfl | rfl | rfl | rfl | rfl | rfl | rfl | rfl | rfl | rfl | rfl | rfl | rfl | rfl
  · obtain ⟨t, rfl, ht⟩ := tN rfl
    exact stepR_1 v f s c cap r vs vc ts tc ls lc is ic ins w hc hr hp hk hI hln t k a b n g hf ha hkl hck ht
  · obtain ⟨t, rfl, ht⟩ := tN rfl
    exact stepR_2 v f s c cap r vs vc ts tc ls lc is ic ins w hc hr hp hk hI hln t k a b n g hf ha hkl hck ht
  · obtain ⟨t, rfl, ht⟩ := tN rfl
    exact stepR_3 v f s c cap r vs vc ts tc ls lc is ic ins w hc hr hp hk hI hln t k a b n g hf ha hkl hck ht
  · obtain ⟨t, rfl, ht⟩ := tN rfl
    obtain ⟨x, rfl, hx⟩ := aN rfl
    exact stepR_4 v f s c cap r vs vc ts tc ls lc is ic ins w hc hr hp hk hI hln t x k b n g hf ha hkl hck ht hx
  · obtain ⟨t, rfl, ht⟩ := tN rfl
    obtain ⟨x, rfl, hx⟩ := aN rfl
    obtain ⟨y, rfl, hy⟩ := bN rfl
    by_cases hA1 : r.vars[x].k = 1
    · by_cases hC1 : r.vars[y].k = 1
      · exact stepR_5 v f s c cap r vs vc ts tc ls lc is ic ins w hc hr hp hk hI hln t x y k n g hf ha hkl hck ht hx hy hA1 hC1
      · exact stepR_5wb v f s c cap r vs vc ts tc ls lc is ic ins w hc hr hp hk hI hln t x y k n g hf ha hkl hck ht hx hy hA1 hC1
    · exact stepR_5wa v f s c cap r vs vc ts tc ls lc is ic ins w hc hr hp hk hI hln t x y k n g hf ha hkl hck ht hx hy hA1
  · obtain ⟨t, rfl, ht⟩ := tN rfl
    obtain ⟨x, rfl, hx⟩ := aN rfl
    obtain ⟨y, rfl, hy⟩ := bN rfl
    by_cases hA1 : r.vars[x].k = 1
    · by_cases hC1 : r.vars[y].k = 1
      · exact stepR_6 v f s c cap r vs vc ts tc ls lc is ic ins w hc hr hp hk hI hln t x y k n g hf ha hkl hck ht hx hy hA1 hC1
      · exact stepR_6wb v f s c cap r vs vc ts tc ls lc is ic ins w hc hr hp hk hI hln t x y k n g hf ha hkl hck ht hx hy hA1 hC1
    · exact stepR_6wa v f s c cap r vs vc ts tc ls lc is ic ins w hc hr hp hk hI hln t x y k n g hf ha hkl hck ht hx hy hA1
  · obtain ⟨t, rfl, ht⟩ := tN rfl
    obtain ⟨x, rfl, hx⟩ := aN rfl
    obtain ⟨y, rfl, hy⟩ := bN rfl
    by_cases hA1 : r.vars[x].k = 1
    · by_cases hC1 : r.vars[y].k = 1
      · exact stepR_7 v f s c cap r vs vc ts tc ls lc is ic ins w hc hr hp hk hI hln t x y k n g hf ha hkl hck ht hx hy hA1 hC1
      · exact stepR_7wb v f s c cap r vs vc ts tc ls lc is ic ins w hc hr hp hk hI hln t x y k n g hf ha hkl hck ht hx hy hA1 hC1
    · exact stepR_7wa v f s c cap r vs vc ts tc ls lc is ic ins w hc hr hp hk hI hln t x y k n g hf ha hkl hck ht hx hy hA1
  · obtain ⟨t, rfl, ht⟩ := tN rfl
    obtain ⟨x, rfl, hx⟩ := aN rfl
    obtain ⟨y, rfl, hy⟩ := bN rfl
    by_cases hA1 : r.vars[x].k = 1
    · by_cases hC1 : r.vars[y].k = 1
      · exact stepR_8 v f s c cap r vs vc ts tc ls lc is ic ins w hc hr hp hk hI hln t x y k n g hf ha hkl hck ht hx hy hA1 hC1
      · exact stepR_8wb v f s c cap r vs vc ts tc ls lc is ic ins w hc hr hp hk hI hln t x y k n g hf ha hkl hck ht hx hy hA1 hC1
    · exact stepR_8wa v f s c cap r vs vc ts tc ls lc is ic ins w hc hr hp hk hI hln t x y k n g hf ha hkl hck ht hx hy hA1
  · obtain ⟨t, rfl, ht⟩ := tN rfl
    obtain ⟨x, rfl, hx⟩ := aN rfl
    obtain ⟨y, rfl, hy⟩ := bN rfl
    by_cases hE1 : r.vars[x].k = r.vars[y].k
    · by_cases hE2 : r.vars[x].n = r.vars[y].n
      · exact stepR_9ee v f s c cap r vs vc ts tc ls lc is ic ins w hc hr hp hk hI hln t x y k n g hf ha hkl hck ht hx hy hE1 hE2
      · exact stepR_9en v f s c cap r vs vc ts tc ls lc is ic ins w hc hr hp hk hI hln t x y k n g hf ha hkl hck ht hx hy hE1 hE2
    · exact stepR_9n v f s c cap r vs vc ts tc ls lc is ic ins w hc hr hp hk hI hln t x y k n g hf ha hkl hck ht hx hy hE1
  · obtain ⟨t, rfl, ht⟩ := tN rfl
    obtain ⟨x, rfl, hx⟩ := aN rfl
    exact stepR_10 v f s c cap r vs vc ts tc ls lc is ic ins w hc hr hp hk hI hln t x k b n g hf ha hkl hck ht hx
  · obtain ⟨t, rfl, ht⟩ := tN rfl
    by_cases h100 : r.things.length = 100
    · exact stepR_11f v f s c cap r vs vc ts tc ls lc is ic ins w hc hr hp hk hI hln t k a b n g hf ha hkl hck ht h100
    · exact stepR_11n v f s c cap r vs vc ts tc ls lc is ic ins w hc hr hp hk hI hln t k a b n g hf ha hkl hck ht (by have := hk.things; omega)
  · obtain ⟨t, rfl, ht⟩ := tN rfl
    obtain ⟨x, rfl, hx⟩ := aN rfl
    by_cases hk3 : r.vars[x].k = 3
    · rcases hk.vals _ (List.getElem_mem hx) with hA | hA | hA | hA
      · omega
      · omega
      · omega
      obtain ⟨q, hq⟩ := Int.eq_ofNat_of_zero_le hA.2.1
      obtain ⟨fi, rfl⟩ := Int.eq_ofNat_of_zero_le (h5 (.inl rfl)).1
      have hql : q < r.things.length := by omega
      have hfl : fi < r.things[q].fs.length := by have := hk.fields _ (List.getElem_mem hql); have := (h5 (.inl rfl)).2; omega
      exact stepR_12 v f s c cap r vs vc ts tc ls lc is ic ins w hc hr hp hk hI hln t x q fi k b g hf ha hkl hck ht hx (by rw [← hk3, ← hq]) hql hfl
    · exact stepR_12w v f s c cap r vs vc ts tc ls lc is ic ins w hc hr hp hk hI hln t x k b n g hf ha hkl hck ht hx hk3
  · obtain ⟨x, rfl, hx⟩ := aN rfl
    obtain ⟨y, rfl, hy⟩ := bN rfl
    by_cases hk3 : r.vars[x].k = 3
    · rcases hk.vals _ (List.getElem_mem hx) with hA | hA | hA | hA
      · omega
      · omega
      · omega
      obtain ⟨q, hq⟩ := Int.eq_ofNat_of_zero_le hA.2.1
      obtain ⟨fi, rfl⟩ := Int.eq_ofNat_of_zero_le (h5 (.inr rfl)).1
      have hql : q < r.things.length := by omega
      have hfl : fi < r.things[q].fs.length := by have := hk.fields _ (List.getElem_mem hql); have := (h5 (.inr rfl)).2; omega
      exact stepR_13 v f s c cap r vs vc ts tc ls lc is ic ins w hc hr hp hk hI hln x y q fi k tt g hf ha hkl hck hx hy (by rw [← hk3, ← hq]) hql hfl
    · exact stepR_13w v f s c cap r vs vc ts tc ls lc is ic ins w hc hr hp hk hI hln x y k tt n g hf ha hkl hck hx hy hk3
  · obtain ⟨t, rfl, ht⟩ := tN rfl
    obtain ⟨n0, n1⟩ := h9 rfl
    by_cases htk : (ins.length : Int) ≤ r.taken
    · exact stepR_14n v f s c cap r vs vc ts tc ls lc is ic ins w hc hr hp hk hI hln t k a b n g hf ha hkl hck ht n0 n1 htk
    obtain ⟨j, hj⟩ := Int.eq_ofNat_of_zero_le hk.tk
    have hjl : j < ins.length := by omega
    by_cases hgt : n < ins[j]
    · exact stepR_14g v f s c cap r vs vc ts tc ls lc is ic ins w hc hr hp hk hI hln t k a b n g hf ha hkl hck ht n0 n1 j hj hjl hgt
    by_cases hlt : ins[j] < -n
    · exact stepR_14l v f s c cap r vs vc ts tc ls lc is ic ins w hc hr hp hk hI hln t k a b n g hf ha hkl hck ht n0 n1 j hj hjl (by omega) hlt
    · exact stepR_14m v f s c cap r vs vc ts tc ls lc is ic ins w hc hr hp hk hI hln t k a b n g hf ha hkl hck ht n0 n1 j hj hjl (by omega) (by omega)
  · obtain ⟨x, rfl, hx⟩ := aN rfl
    rcases Bool.eq_false_or_eq_true (cnt r.vars[x]) with hcn | hcn
    · exact stepR_15t v f s c cap r vs vc ts tc ls lc is ic ins w hc hr hp hk hI hln x k tt b n g hf ha hkl hck hx hcn
    · exact stepR_15f v f s c cap r vs vc ts tc ls lc is ic ins w hc hr hp hk hI hln x k tt b n g hf ha hkl hck hx hcn
  · exact stepR_16 v f s c cap r vs vc ts tc ls lc is ic ins w hc hr hp hk hI hln k tt a b n g hf ha hkl hck
  · obtain ⟨x, rfl, hx⟩ := aN rfl
    rcases Bool.eq_false_or_eq_true (cnt r.vars[x]) with hcn | hcn
    · exact stepR_17t v f s c cap r vs vc ts tc ls lc is ic ins w hc hr hp hk hI hln x k tt b n g hf ha hkl hck hx hcn
    · exact stepR_17f v f s c cap r vs vc ts tc ls lc is ic ins w hc hr hp hk hI hln x k tt b n g hf ha hkl hck hx hcn
  · obtain ⟨x, rfl, hx⟩ := aN rfl
    exact stepR_18 v f s c cap r vs vc ts tc ls lc is ic ins w hc hr hp hk hI hln x k tt b n g hf ha hkl hck hx
  · exact stepR_19 v f s c cap r vs vc ts tc ls lc is ic ins w hc hr hp hk hI hln k tt a b n g hf ha hkl hck
end Go.Proofs.YtmapdpcfanecdaaDoor

namespace Go.Proofs.YtmapdpcfanecdaaDoor
set_option linter.unusedVariables false
set_option linter.unusedSimpArgs false
open Go.RowKit
attribute [local go_sem ↓] Go.wp_at_zero Go.wp_at_succ

/-- What is known at the head of a round of the document's loop. -/
structure RoundR (w0 wr : World) (m : Nat) (v f : Nat) (c : List Ins) (ins : List Int) (fuel k : Nat) (st : St) : Prop where
  own : ∃ vv tv lv fv, OwnRun wr w0.heap.size m st vv tv lv fv
  low : Below w0.heap.size w0 wr
  ok : RunOk v f c st
  le : k ≤ fuel
  rel : stepsSt f c ins fuel (beginSt v) = ((stepsSt f c ins (fuel - k) st).1, (stepsSt f c ins (fuel - k) st).2 + k)
  lines : st.lines.length ≤ k
  taken : st.taken ≤ k
theorem RoundR.next {w0 wr w' : World} {m v f : Nat} {c : List Ins} {ins : List Int} {fuel k : Nat} {st : St} (h : RoundR w0 wr m v f c ins fuel k st) (hp : ProgOk v f c) (hf : st.fin = 0) (hk : k < fuel) (hf5 : fuel ≤ 5000) (own : ∃ vv tv lv fv, OwnRun w' w0.heap.size m (stepSt f c ins st) vv tv lv fv) (low : Below w0.heap.size w0 w') : RoundR w0 w' m v f c ins fuel (k + 1) (stepSt f c ins st) := by
  have ht := h.taken
  have hl := h.lines
  refine ⟨own, low, stepSt_ok ins hp h.ok (by omega), hk, ?_, ?_, ?_⟩
  · rw [h.rel, show fuel - k = (fuel - (k + 1)) + 1 by omega, stepsSt_go hf]
    simp only [Prod.mk.injEq, true_and]
    omega
  · have := stepSt_lines f c ins st; omega
  · have := stepSt_taken f c ins st h.ok.tk (by omega); omega
set_option maxHeartbeats 4000000 in
set_option maxRecDepth 20000 in
theorem runOf_any (v f : Nat) (s : Option Addr) (c : List Ins) (cap : Nat) (is : Option Addr) (ic : Nat) (ins : List Int) (fuel : Nat) (w : World) (hc : CodeAt w s c) (hI : IntsAt w is ins) (hp : ProgOk v f c) (hf5 : fuel ≤ 5000) :
    Calls Tryd.prog 28 #[.agg #[.int .i64 (v : Int), .int .i64 (f : Int), .slice s c.length cap], .slice is ins.length ic, .int .i64 (fuel : Int)] w fun e w' => ∃ vv tv lv fv, e = .returned (.tuple #[.agg #[.int .i64 (runSt v f c ins fuel).1.at_, vv, tv, .int .i64 (runSt v f c ins fuel).1.taken, lv, .int .i64 (runSt v f c ins fuel).1.fin], .int .i64 (runSt v f c ins fuel).2]) ∧ OwnRows w' w.heap.size (runSt v f c ins fuel).1 vv tv lv fv ∧ RunOk v f c (runSt v f c ins fuel).1 ∧ (runSt v f c ins fuel).1.lines.length ≤ 5000 ∧ Below w.heap.size w w' := by
  have hv8 : v ≤ 8 := by have := hp.v8; omega
  have hb0 : Below w.heap.size w ((w.alloc (.cells #[.int .i64 (v : Int), .int .i64 (f : Int), .slice s c.length cap] 24)).alloc (.cells #[.int .i64 0, .slice none 0 0, .slice none 0 0, .int .i64 0, .slice none 0 0, .int .i64 0] 46)) := by go_grown
  have Z0 := R6.new (w.alloc (.cells #[.int .i64 (v : Int), .int .i64 (f : Int), .slice s c.length cap] 24)) 46 (.int .i64 0) (.slice none 0 0) (.slice none 0 0) (.int .i64 0) (.slice none 0 0) (.int .i64 0)
  rw [World.size_alloc] at Z0
  have P0 := (P3.new w v f s c.length cap).call (w' := ((w.alloc (.cells #[.int .i64 (v : Int), .int .i64 (f : Int), .slice s c.length cap] 24)).alloc (.cells #[.int .i64 0, .slice none 0 0, .slice none 0 0, .int .i64 0, .slice none 0 0, .int .i64 0] 46))) (by go_grown)
  have hc0 := hc.below hb0 (Nat.le_refl _)
  have hI0 := hI.below hb0 (Nat.le_refl _)
  have HB := hideK (beginOf_any f s c.length cap ((w.alloc (.cells #[.int .i64 (v : Int), .int .i64 (f : Int), .slice s c.length cap] 24)).alloc (.cells #[.int .i64 0, .slice none 0 0, .slice none 0 0, .int .i64 0, .slice none 0 0, .int .i64 0] 46)) v hv8)
  have HZ := hideK (show ((w.alloc (.cells #[.int .i64 (v : Int), .int .i64 (f : Int), .slice s c.length cap] 24)).alloc (.cells #[.int .i64 0, .slice none 0 0, .slice none 0 0, .int .i64 0, .slice none 0 0, .int .i64 0] 46)).heap.size = w.heap.size + 1 + 1 by simp)
  have HQ := hideK hp
  clear hc hI hp
  go_enter Tryd.func28, Tryd.ntmps28
  go_wp2_with (go_at_call 22; fail)
  generalize ((w.alloc (.cells #[.int .i64 (v : Int), .int .i64 (f : Int), .slice s c.length cap] 24)).alloc (.cells #[.int .i64 0, .slice none 0 0, .slice none 0 0, .int .i64 0, .slice none 0 0, .int .i64 0] 46)) = w0 at *
  refine HB.out.mono ?_
  rintro e w1 ⟨g, rfl, hown, hb1⟩
  clear HB
  have hzw := HZ.out
  rw [made_zero v hv8] at hown
  have hz1 : w0.heap.size ≤ w1.heap.size := hb1.size
  have H2 : Below w0.heap.size w0 (w1.alloc (.cells #[.int .i64 0, .slice (some ⟨g, 0, none⟩) v v, .slice none 0 0, .int .i64 0, .slice none 0 0, .int .i64 0] 46)) := hb1.alloc hz1 _
  have R1 := begin_rows hv8 hown
  have R3 := R1.below (w' := w1.alloc (.cells #[.int .i64 0, .slice (some ⟨g, 0, none⟩) v v, .slice none 0 0, .int .i64 0, .slice none 0 0, .int .i64 0] 46)) (by go_grown)
  have C3 : RunCells (w1.alloc (.cells #[.int .i64 0, .slice (some ⟨g, 0, none⟩) v v, .slice none 0 0, .int .i64 0, .slice none 0 0, .int .i64 0] 46)) w1.heap.size (beginSt v) (.slice (some ⟨g, 0, none⟩) v v) (.slice none 0 0) (.slice none 0 0) := by
    refine ⟨⟨?_, ?_, ?_, ?_, ?_, ?_⟩, fun j => ?_⟩ <;> simp [go_sem, beginSt]
  have O3 := R3.run' C3 (by omega) (fun hm => by have := (R1.lt hm).1; omega)
  have RR : RoundR w0 (w1.alloc (.cells #[.int .i64 0, .slice (some ⟨g, 0, none⟩) v v, .slice none 0 0, .int .i64 0, .slice none 0 0, .int .i64 0] 46)) w1.heap.size v f c ins fuel 0 (beginSt v) :=
    ⟨⟨_, _, _, _, O3⟩, H2, beginSt_ok HQ.out, Nat.zero_le _, by simp, by simp [beginSt], by simp [beginSt]⟩
  have HRR := hideK RR
  clear R1 R3 C3 O3 H2 hown RR HZ
  go_upto_region 2 with fail
  generalize w1.alloc (.cells #[.int .i64 0, .slice (some ⟨g, 0, none⟩) v v, .slice none 0 0, .int .i64 0, .slice none 0 0, .int .i64 0] 46) = w3 at *
  go_wp2
  go_loopw [9] (fun i wr => ∃ (k : Nat) (st : St), i = .int .i64 k ∧ RoundR w0 wr w1.heap.size v f c ins fuel k st) (fun i _ => fuel - (intOf i).toNat)
  case atStart => exact ⟨0, _, rfl, HRR.out⟩
  case round =>
    obtain ⟨k, st, rfl, hR⟩ := hrel
    obtain ⟨vv, tv, lv, fv, O⟩ := hR.own
    obtain ⟨vs, vc, ts, tc, ls, lc, rfl, rfl, rfl, hat⟩ := O.rows.at
    have l5 := O.fin_
    have hkf := hR.le
    by_cases hfin : st.fin = 0
    · by_cases hlt : k < fuel
      · have n1 : (k : Int) < (fuel : Int) := by omega
        have HS := hideK (stepOf_any v f s c cap st vs vc ts tc ls lc is ic ins wr (hc0.below hR.low (Nat.le_refl _)) hat HQ.out hR.ok (hI0.below hR.low (Nat.le_refl _)) (by have := hR.lines; omega))
        unfold runV at HS
        have HN := hideK (fun (w' : World) own low => hR.next (w' := w') HQ.out hfin hlt hf5 own low)
        have HLO := hideK hR.low
        have hmz : w1.heap.size < wr.heap.size := O.lt (by simp [ownBlocks])
        have Q4 := O.r6
        obtain ⟨⟨m0, m1, m2, m3, m4, m5⟩, mz, -⟩ := id Q4
        obtain ⟨⟨p0, p1, p2⟩, pz⟩ := id (P0.below hR.low P0.2)
        have m5' : wr.cell? ⟨w1.heap.size, 5, none⟩ = some (.int .i64 st.fin) := m5
        have b5 : (st.fin == 0) = true := by simpa using hfin
        have HFI := hideK hfin
        clear O hR hat hfin l5 m5'
        go_wp2_with (go_at_call 23; fail)
        refine HS.out.mono ?_
        rintro e w5 ⟨vv2, tv2, lv2, fv2, rfl, OR, hb5⟩
        clear HS
        obtain ⟨vs2, vc2, ts2, tc2, ls2, lc2, rfl, rfl, rfl, -⟩ := OR.at
        have Q5 := Q4.call hb5
        generalize stepSt f c ins st = s2 at *
        have HR5 := hideK (HN.out (set6 w5 w1.heap.size (.int .i64 s2.at_) (.slice vs2 s2.vars.length vc2) (.slice ts2 s2.things.length tc2) (.int .i64 s2.taken) (.slice ls2 s2.lines.length lc2) (.int .i64 s2.fin)) ⟨_, _, _, _, (OR.set6 (b := w1.heap.size) hmz _ _ _ _ _ _).run (Q5.put (.int .i64 s2.at_) (.slice vs2 s2.vars.length vc2) (.slice ts2 s2.things.length tc2) (.int .i64 s2.taken) (.slice ls2 s2.lines.length lc2) (.int .i64 s2.fin)).cells HLO.out.size hz1 hmz⟩ (below_set6 (HLO.out.trans (hb5.mono HLO.out.size)) hz1 _ _ _ _ _ _))
        obtain ⟨⟨q0, q1, q2, q3, q4, q5⟩, qz, qf⟩ := id Q5
        have g0 := qf 0
        have g1 := qf 1
        have g2 := qf 2
        have g3 := qf 3
        have g4 := qf 4
        have g5 := qf 5
        clear HN qf OR hb5 Q4 Q5 m0 m1 m2 m3 m4 m5 p0 p1 p2
        go_wp2
        go_roundw
        case rel => exact ⟨k + 1, _, by go_num, HR5.out⟩
        case measure => simp [intOf]; omega
      · have hkk : k = fuel := by omega
        subst hkk
        have HE : Hid (runSt v f c ins k = ({ st with fin := 4 }, k)) := by
          show _ = _
          rw [runSt_of (s := st) (k := k) (by rw [hR.rel, Nat.sub_self, stepsSt_done (.inl rfl)]; simp), if_pos hfin]
        have d5 := O.thaw 5
        obtain ⟨⟨r0, r1, r2, r3, r4, r5⟩, rz, rf⟩ := id (Z0.below hR.low Z0.2.1)
        have g0 := rf 0
        have g1 := rf 1
        have g2 := rf 2
        have g3 := rf 3
        have g4 := rf 4
        have g5 := rf 5
        obtain ⟨⟨m0, m1, m2, m3, m4, m5⟩, mz, mf⟩ := id O.r6
        rw [hfin] at m5
        have hbne : w.heap.size + 1 ≠ w1.heap.size := by omega
        have nk : ¬ ((k : Int) < (k : Int)) := by omega
        clear l5
        have R6' := ((O.withFin 4).rows.set6 (b := w.heap.size + 1) (by omega) (.int .i64 st.at_) (.slice vs st.vars.length vc) (.slice ts st.things.length tc) (.int .i64 st.taken) (.slice ls st.lines.length lc) (.int .i64 4)).down (show w.heap.size ≤ w0.heap.size by omega)
        have HL : Below w.heap.size w (set6 (wr.setCell ⟨w1.heap.size, 5, none⟩ (.int .i64 4)) (w.heap.size + 1) (.int .i64 st.at_) (.slice vs st.vars.length vc) (.slice ts st.things.length tc) (.int .i64 st.taken) (.slice ls st.lines.length lc) (.int .i64 4)) := below_set6 ((hb0.trans (hR.low.mono (by omega))).setCell (by simp; omega) _) (by omega) _ _ _ _ _ _
        have HY := hideK (And.intro R6' (And.intro HL (hR.ok.finish 4 (by omega) (by omega))))
        have hln := hR.lines
        clear O hR R6' HL
        go_wp2
        refine bodyPost_ret (v := .tuple #[.agg #[.int .i64 st.at_, .slice vs st.vars.length vc, .slice ts st.things.length tc, .int .i64 st.taken, .slice ls st.lines.length lc, .int .i64 4], .int .i64 k]) (by simp [results, Tryd.results28, go_sem, r0, r1, r2, r3, r4, r5]) rfl ?_
        rw [HE.out]
        first | exact ⟨_, _, _, fv, rfl, HY.out.1, HY.out.2.2, by show st.lines.length ≤ 5000; omega, HY.out.2.1⟩ | exact ⟨_, _, _, rfl, ⟨fv, HY.out.1⟩, HY.out.2.2, by show st.lines.length ≤ 5000; omega, HY.out.2.1⟩
    · by_cases hx : True
      · have b5 : (st.fin == 0) = false := by simpa using hfin
        have HE : Hid (runSt v f c ins fuel = (st, k)) := by
          show _ = _
          rw [runSt_of (s := st) (k := k) (by rw [hR.rel, stepsSt_done (.inr hfin)]; simp), if_neg hfin]
        obtain ⟨⟨r0, r1, r2, r3, r4, r5⟩, rz, rf⟩ := id (Z0.below hR.low Z0.2.1)
        have g0 := rf 0
        have g1 := rf 1
        have g2 := rf 2
        have g3 := rf 3
        have g4 := rf 4
        have g5 := rf 5
        obtain ⟨⟨m0, m1, m2, m3, m4, m5⟩, mz, mf⟩ := id O.r6
        have hbne : w.heap.size + 1 ≠ w1.heap.size := by omega
        rcases Bool.eq_false_or_eq_true (decide ((k : Int) < (fuel : Int))) with hd | hd
        all_goals simp only [decide_eq_true_eq, decide_eq_false_iff_not] at hd
        all_goals skip
        · clear l5
          have R6' := ((O).rows.set6 (b := w.heap.size + 1) (by omega) (.int .i64 st.at_) (.slice vs st.vars.length vc) (.slice ts st.things.length tc) (.int .i64 st.taken) (.slice ls st.lines.length lc) (.int .i64 st.fin)).down (show w.heap.size ≤ w0.heap.size by omega)
          have HL : Below w.heap.size w (set6 wr (w.heap.size + 1) (.int .i64 st.at_) (.slice vs st.vars.length vc) (.slice ts st.things.length tc) (.int .i64 st.taken) (.slice ls st.lines.length lc) (.int .i64 st.fin)) := below_set6 (hb0.trans (hR.low.mono (by omega))) (by omega) _ _ _ _ _ _
          have HY := hideK (And.intro R6' (And.intro HL (hR.ok)))
          have hln := hR.lines
          clear O hR R6' HL
          go_wp2
          refine bodyPost_ret (v := .tuple #[.agg #[.int .i64 st.at_, .slice vs st.vars.length vc, .slice ts st.things.length tc, .int .i64 st.taken, .slice ls st.lines.length lc, .int .i64 st.fin], .int .i64 k]) (by simp [results, Tryd.results28, go_sem, r0, r1, r2, r3, r4, r5]) rfl ?_
          rw [HE.out]
          first | exact ⟨_, _, _, fv, rfl, HY.out.1, HY.out.2.2, by show st.lines.length ≤ 5000; omega, HY.out.2.1⟩ | exact ⟨_, _, _, rfl, ⟨fv, HY.out.1⟩, HY.out.2.2, by show st.lines.length ≤ 5000; omega, HY.out.2.1⟩
        · clear l5
          have R6' := ((O).rows.set6 (b := w.heap.size + 1) (by omega) (.int .i64 st.at_) (.slice vs st.vars.length vc) (.slice ts st.things.length tc) (.int .i64 st.taken) (.slice ls st.lines.length lc) (.int .i64 st.fin)).down (show w.heap.size ≤ w0.heap.size by omega)
          have HL : Below w.heap.size w (set6 wr (w.heap.size + 1) (.int .i64 st.at_) (.slice vs st.vars.length vc) (.slice ts st.things.length tc) (.int .i64 st.taken) (.slice ls st.lines.length lc) (.int .i64 st.fin)) := below_set6 (hb0.trans (hR.low.mono (by omega))) (by omega) _ _ _ _ _ _
          have HY := hideK (And.intro R6' (And.intro HL (hR.ok)))
          have hln := hR.lines
          clear O hR R6' HL
          go_wp2
          refine bodyPost_ret (v := .tuple #[.agg #[.int .i64 st.at_, .slice vs st.vars.length vc, .slice ts st.things.length tc, .int .i64 st.taken, .slice ls st.lines.length lc, .int .i64 st.fin], .int .i64 k]) (by simp [results, Tryd.results28, go_sem, r0, r1, r2, r3, r4, r5]) rfl ?_
          rw [HE.out]
          first | exact ⟨_, _, _, fv, rfl, HY.out.1, HY.out.2.2, by show st.lines.length ≤ 5000; omega, HY.out.2.1⟩ | exact ⟨_, _, _, rfl, ⟨fv, HY.out.1⟩, HY.out.2.2, by show st.lines.length ≤ 5000; omega, HY.out.2.1⟩
      · exact absurd trivial hx
end Go.Proofs.YtmapdpcfanecdaaDoor

namespace Go.Proofs.YtmapdpcfanecdaaDoor
set_option linter.unusedVariables false
set_option linter.unusedSimpArgs false
open Go.RowKit
attribute [local go_sem ↓] Go.wp_at_zero Go.wp_at_succ

set_option maxHeartbeats 2000000 in
set_option maxRecDepth 10000 in
theorem runIs_errA (c : Int) (r : St) (vs1 : Option Addr) (vc1 : Nat) (ts1 : Option Addr) (tc1 : Nat) (ls1 : Option Addr) (lc1 : Nat) (vs2 : Option Addr) (vc2 : Nat) (ts2 : Option Addr) (tc2 : Nat) (ls2 : Option Addr) (lc2 : Nat) (w : World) (h1 : RunAt w zeroSt vs1 ts1 ls1) (hne : (c != 0) = true) :
    Calls Tryd.prog 26 #[runV zeroSt vs1 vc1 ts1 tc1 ls1 lc1, .int .i64 c, .int .i64 c, runV r vs2 vc2 ts2 tc2 ls2 lc2] w fun e w' => e = .returned (.bool true) ∧ Below w.heap.size w w' := by
  have HS : Hid (∀ wx, Below w.heap.size w wx → Calls Tryd.prog 59 #[runV zeroSt vs1 vc1 ts1 tc1 ls1 lc1, runV zeroSt none 0 none 0 none 0] wx fun e w' => e = .returned (.bool true) ∧ Below wx.heap.size wx w') := fun wx hx => sameRun_any zeroSt vs1 vc1 ts1 tc1 ls1 lc1 none 0 none 0 none 0 wx zeroSt_len (h1.below hx (Nat.le_refl _)) (zeroSt_at _)
  clear h1
  unfold runV at HS ⊢
  simp only [zeroSt, List.length_nil] at HS
  go_enter Tryd.func26, Tryd.ntmps26
  simp only [zeroSt, List.length_nil]
  go_wp2_with (go_at_call 59; fail)
  refine (HS.out _ (by go_grown)).mono ?_
  rintro e w1 ⟨rfl, hb1⟩
  go_wp2
  go_ret
  exact ⟨rfl, Below.trans (by go_grown) (hb1.mono (by simp; omega))⟩
/-- A run beside its errno is what it must be. -/
theorem runIsU (c : Int) (st want : St) (vs1 : Option Addr) (vc1 : Nat) (ts1 : Option Addr) (tc1 : Nat) (ls1 : Option Addr) (lc1 : Nat) (vs2 : Option Addr) (vc2 : Nat) (ts2 : Option Addr) (tc2 : Nat) (ls2 : Option Addr) (lc2 : Nat) (w : World) (h0 : c = 0 → want = st) (h3 : c ≠ 0 → st = zeroSt) (hl : LenSt st) (h1 : RunAt w st vs1 ts1 ls1) (h2 : RunAt w want vs2 ts2 ls2) :
    Calls Tryd.prog 26 #[runV st vs1 vc1 ts1 tc1 ls1 lc1, .int .i64 c, .int .i64 c, runV want vs2 vc2 ts2 tc2 ls2 lc2] w fun e w' => e = .returned (.bool true) ∧ Below w.heap.size w w' := by
  by_cases hc : c = 0
  · have e := h0 hc
    subst e
    subst hc
    exact runIs_ok _ vs1 vc1 ts1 tc1 ls1 lc1 vs2 vc2 ts2 tc2 ls2 lc2 w hl h1 h2
  · have e := h3 hc
    subst e
    exact runIs_errA c want vs1 vc1 ts1 tc1 ls1 lc1 vs2 vc2 ts2 tc2 ls2 lc2 w h1 (by simpa using hc)
end Go.Proofs.YtmapdpcfanecdaaDoor

namespace Go.Proofs.YtmapdpcfanecdaaDoor
set_option linter.unusedVariables false
set_option linter.unusedSimpArgs false
open Go.RowKit

/-- The rows' lengths are held by M. -/
def RowsLe (M : Nat) (q : St) : Prop := q.vars.length ≤ M ∧ q.things.length ≤ M ∧ ∀ t ∈ q.things, t.fs.length ≤ M
theorem effSt_rows {M : Nat} (F : Int) (ins : List Int) (r : St) (i : Ins) (a b : Val) (h : RowsLe M r) (ht : r.things.length < M) (hF : F.toNat ≤ M) : RowsLe M (effSt F ins r i a b) := by
  have hput : ∀ q : St, RowsLe M q → RowsLe M (if nTo i.k then putVar q i.to (makes r ins i a b) else q) := fun q hq => by
    split
    · exact ⟨by simpa [putVar] using hq.1, hq.2⟩
    · exact hq
  unfold effSt
  simp only
  apply hput
  split
  · refine ⟨h.1, by simp; omega, fun t hm => ?_⟩
    rcases List.mem_append.1 hm with hm | hm
    · exact h.2.2 t hm
    · rw [List.mem_singleton.1 hm]; simpa using hF
  split
  · refine ⟨h.1, by simpa [putField] using h.2.1, fun t hm => ?_⟩
    unfold putField at hm
    simp only at hm
    obtain ⟨j, hj, rfl⟩ := List.getElem_of_mem hm
    rw [List.getElem_modify]
    rw [List.length_modify] at hj
    split
    · simpa using h.2.2 _ (List.getElem_mem hj)
    · exact h.2.2 _ (List.getElem_mem hj)
  split
  · exact h
  split
  · exact h
  · exact h
theorem stepSt_rows {M : Nat} {F : Int} {c : List Ins} (ins : List Int) {r : St} (h : RowsLe M r) (ht : r.things.length < M) (hF : F.toNat ≤ M) : RowsLe M (stepSt F c ins r) := by
  rw [stepSt_eq]
  split
  · exact h
  split
  · exact h
  split
  · exact h
  · exact effSt_rows F ins r _ _ _ h ht hF
theorem stepSt_lens {V F : Int} {c : List Ins} (ins : List Int) {r : St} (hp : ProgOk V F c) (hr : RunOk V F c r) (hln : (r.lines.length + 1) * 16 ≤ 140737488355328) : LenSt (stepSt F c ins r) := by
  have h1 := hr.vars
  have h2 := hp.v8
  have h3 := hr.things
  have h4 := hp.f3
  have h := stepSt_rows (M := 1000) (F := F) (c := c) ins (r := r) ⟨by omega, by omega, fun t ht => by have := hr.fields t ht; omega⟩ (by omega) (by omega)
  have hl := stepSt_lines F c ins r
  refine ⟨by have := h.1; unfold maxLen; omega, by have := h.2.1; unfold maxLen; omega, by unfold maxLen; omega, fun t ht => by have := h.2.2 t ht; unfold maxLen; omega⟩
end Go.Proofs.YtmapdpcfanecdaaDoor

namespace Go.Proofs.YtmapdpcfanecdaaDoor
set_option linter.unusedVariables false
set_option linter.unusedSimpArgs false
open Go.RowKit
attribute [local go_sem ↓] Go.wp_at_zero Go.wp_at_succ

set_option maxHeartbeats 2000000 in
set_option maxRecDepth 20000 in
theorem runM_err (V F : Int) (s : Option Addr) (c : List Ins) (cap : Nat) (is : Option Addr) (ic : Nat) (ins : List Int) (fuel : Int) (w : World) (hc : CodeAt w s c) (h0 : ckProg V F c ≠ 0) :
    Calls Tryd.prog 27 #[.agg #[.int .i64 V, .int .i64 F, .slice s c.length cap], .slice is ins.length ic, .int .i64 fuel] w fun e w' => e = .returned (.tuple #[.agg #[.int .i64 0, .slice none 0 0, .slice none 0 0, .int .i64 0, .slice none 0 0, .int .i64 0], .int .i64 0, .int .i64 (ckProg V F c)]) ∧ Below w.heap.size w w' := by
  have hb0 : Below w.heap.size w ((w.alloc (.cells #[.int .i64 V, .int .i64 F, .slice s c.length cap] 24)).alloc (.cells #[.int .i64 0, .slice none 0 0, .slice none 0 0, .int .i64 0, .slice none 0 0, .int .i64 0] 46)) := by go_grown
  have Z0 := R6.new (w.alloc (.cells #[.int .i64 V, .int .i64 F, .slice s c.length cap] 24)) 46 (.int .i64 0) (.slice none 0 0) (.slice none 0 0) (.int .i64 0) (.slice none 0 0) (.int .i64 0)
  rw [World.size_alloc] at Z0
  have HB := hideK (begin_err V F s c cap ((w.alloc (.cells #[.int .i64 V, .int .i64 F, .slice s c.length cap] 24)).alloc (.cells #[.int .i64 0, .slice none 0 0, .slice none 0 0, .int .i64 0, .slice none 0 0, .int .i64 0] 46)) (hc.below hb0 (Nat.le_refl _)) h0)
  have hk : (ckProg V F c != 0) = true := by simpa using h0
  go_enter Tryd.func27, Tryd.ntmps27
  go_wp2_with (go_at_call 19; fail)
  refine HB.out.mono ?_
  rintro e w1 ⟨rfl, hb1⟩
  clear HB
  have H1 := hb0.trans (hb1.mono hb0.size)
  have hz1 : w.heap.size + 1 < w1.heap.size := by have := hb1.size; simp at this; omega
  have Z1 := (Z0.call hb1).call (w' := w1.alloc (.cells #[.int .i64 0, .slice none 0 0, .slice none 0 0, .int .i64 0, .slice none 0 0, .int .i64 0] 46)) (by go_grown)
  have H2 : Below w.heap.size w (w1.alloc (.cells #[.int .i64 0, .slice none 0 0, .slice none 0 0, .int .i64 0, .slice none 0 0, .int .i64 0] 46)) := H1.alloc H1.size _
  clear Z0 hb1
  go_upto_region 2 with fail
  generalize w1.alloc (.cells #[.int .i64 0, .slice none 0 0, .slice none 0 0, .int .i64 0, .slice none 0 0, .int .i64 0] 46) = w2 at *
  obtain ⟨⟨r0, r1, r2, r3, r4, r5⟩, rz, rf⟩ := id Z1
  have g0 := rf 0
  have g1 := rf 1
  have g2 := rf 2
  have g3 := rf 3
  have g4 := rf 4
  have g5 := rf 5
  go_wp2
  clear rf
  refine bodyPost_ret (v := .tuple #[.agg #[.int .i64 0, .slice none 0 0, .slice none 0 0, .int .i64 0, .slice none 0 0, .int .i64 0], .int .i64 0, .int .i64 (ckProg V F c)]) (by simp [results, Tryd.results27, go_sem, r0, r1, r2, r3, r4, r5]) rfl ⟨rfl, ?_⟩
  exact below_set6 H2 (by omega) _ _ _ _ _ _

set_option maxHeartbeats 2000000 in
set_option maxRecDepth 20000 in
theorem runM_range (v f : Nat) (s : Option Addr) (c : List Ins) (cap : Nat) (is : Option Addr) (ic : Nat) (ins : List Int) (fuel : Int) (w : World) (hc : CodeAt w s c) (h0 : ckProg v f c = 0) (hf : fuel < 0 ∨ 5000 < fuel) :
    Calls Tryd.prog 27 #[.agg #[.int .i64 (v : Int), .int .i64 (f : Int), .slice s c.length cap], .slice is ins.length ic, .int .i64 fuel] w fun e w' => e = .returned (.tuple #[.agg #[.int .i64 0, .slice none 0 0, .slice none 0 0, .int .i64 0, .slice none 0 0, .int .i64 0], .int .i64 0, .int .i64 3]) ∧ Below w.heap.size w w' := by
  have hb0 : Below w.heap.size w ((w.alloc (.cells #[.int .i64 (v : Int), .int .i64 (f : Int), .slice s c.length cap] 24)).alloc (.cells #[.int .i64 0, .slice none 0 0, .slice none 0 0, .int .i64 0, .slice none 0 0, .int .i64 0] 46)) := by go_grown
  have Z0 := R6.new (w.alloc (.cells #[.int .i64 (v : Int), .int .i64 (f : Int), .slice s c.length cap] 24)) 46 (.int .i64 0) (.slice none 0 0) (.slice none 0 0) (.int .i64 0) (.slice none 0 0) (.int .i64 0)
  rw [World.size_alloc] at Z0
  have HB := hideK (begin_ok v f s c cap ((w.alloc (.cells #[.int .i64 (v : Int), .int .i64 (f : Int), .slice s c.length cap] 24)).alloc (.cells #[.int .i64 0, .slice none 0 0, .slice none 0 0, .int .i64 0, .slice none 0 0, .int .i64 0] 46)) (hc.below hb0 (Nat.le_refl _)) h0)
  go_enter Tryd.func27, Tryd.ntmps27
  go_wp2_with (go_at_call 19; fail)
  refine HB.out.mono ?_
  rintro e w1 ⟨g, rfl, -, hb1⟩
  clear HB
  have H1 := hb0.trans (hb1.mono hb0.size)
  have hz1 : w.heap.size + 1 < w1.heap.size := by have := hb1.size; simp at this; omega
  have Z1 := (Z0.call hb1).call (w' := w1.alloc (.cells #[.int .i64 0, .slice (some ⟨g, 0, none⟩) v v, .slice none 0 0, .int .i64 0, .slice none 0 0, .int .i64 0] 46)) (by go_grown)
  have H2 : Below w.heap.size w (w1.alloc (.cells #[.int .i64 0, .slice (some ⟨g, 0, none⟩) v v, .slice none 0 0, .int .i64 0, .slice none 0 0, .int .i64 0] 46)) := H1.alloc H1.size _
  clear Z0 hb1
  go_upto_region 2 with fail
  generalize w1.alloc (.cells #[.int .i64 0, .slice (some ⟨g, 0, none⟩) v v, .slice none 0 0, .int .i64 0, .slice none 0 0, .int .i64 0] 46) = w2 at *
  obtain ⟨⟨r0, r1, r2, r3, r4, r5⟩, rz, rf⟩ := id Z1
  have g0 := rf 0
  have g1 := rf 1
  have g2 := rf 2
  have g3 := rf 3
  have g4 := rf 4
  have g5 := rf 5
  clear rf
  rcases hf with hf | hf
  · go_wp2
    refine bodyPost_ret (v := .tuple #[.agg #[.int .i64 0, .slice none 0 0, .slice none 0 0, .int .i64 0, .slice none 0 0, .int .i64 0], .int .i64 0, .int .i64 3]) (by simp [results, Tryd.results27, go_sem, r0, r1, r2, r3, r4, r5]) rfl ⟨rfl, ?_⟩
    exact below_set6 H2 (by omega) _ _ _ _ _ _
  · have hf0 : ¬ (fuel < 0) := by omega
    go_wp2
    refine bodyPost_ret (v := .tuple #[.agg #[.int .i64 0, .slice none 0 0, .slice none 0 0, .int .i64 0, .slice none 0 0, .int .i64 0], .int .i64 0, .int .i64 3]) (by simp [results, Tryd.results27, go_sem, r0, r1, r2, r3, r4, r5]) rfl ⟨rfl, ?_⟩
    exact below_set6 H2 (by omega) _ _ _ _ _ _
end Go.Proofs.YtmapdpcfanecdaaDoor

namespace Go.Proofs.YtmapdpcfanecdaaDoor
set_option linter.unusedVariables false
set_option linter.unusedSimpArgs false
open Go.RowKit
attribute [local go_sem ↓] Go.wp_at_zero Go.wp_at_succ

set_option maxHeartbeats 2000000 in
set_option maxRecDepth 20000 in
theorem runRuns_err (V F : Int) (s : Option Addr) (c : List Ins) (cap : Nat) (is : Option Addr) (ic : Nat) (ins : List Int) (fuel : Int) (w : World) (hc : CodeAt w s c) (hT : Tab w) (h0 : ckProg V F c ≠ 0) (hbg : ∀ wx, Tab wx → Calls Tryd.prog 24 #[] wx fun e w' => e = .returned (.bool true) ∧ Below wx.heap.size wx w') :
    Calls Tryd.prog 7 #[.agg #[.int .i64 V, .int .i64 F, .slice s c.length cap], .slice is ins.length ic, .int .i64 fuel] w fun e w' => e = .returned (.bool true) ∧ Below w.heap.size w w' := by
  have hb0 : Below w.heap.size w (w.alloc (.cells #[.int .i64 V, .int .i64 F, .slice s c.length cap] 24)) := by go_grown
  have P0 := P3.new w V F s c.length cap
  have hc0 := hc.below hb0 (Nat.le_refl _)
  have HR := hideK (runM_err V F s c cap is ic ins fuel (w.alloc (.cells #[.int .i64 V, .int .i64 F, .slice s c.length cap] 24)) hc0 h0)
  have HBG := hideK hbg
  have HCK := hideK (fun wx hx => checkProgram_any V F s cap c wx hx)
  have e0 : (ckProg V F c == 0) = false := by simpa using h0
  clear hbg
  go_enter Tryd.func7, Tryd.ntmps7
  go_wp2_with (go_at_call 27; fail)
  generalize (w.alloc (.cells #[.int .i64 V, .int .i64 F, .slice s c.length cap] 24)) = w0 at *
  refine HR.out.mono ?_
  rintro e w1 ⟨rfl, hb1⟩
  clear HR
  have hb2 : Below w0.heap.size w0 (w1.alloc (.cells #[.int .i64 0, .slice none 0 0, .slice none 0 0, .int .i64 0, .slice none 0 0, .int .i64 0] 46)) := hb1.alloc hb1.size _
  have P2 := P0.call hb2
  have Q2 := R6.new w1 46 (.int .i64 0) (.slice none 0 0) (.slice none 0 0) (.int .i64 0) (.slice none 0 0) (.int .i64 0)
  have hc2 := hc0.below hb2 (Nat.le_refl _)
  have H2 := hb0.trans (hb2.mono hb0.size)
  go_upto_region 2 with fail
  generalize (w1.alloc (.cells #[.int .i64 0, .slice none 0 0, .slice none 0 0, .int .i64 0, .slice none 0 0, .int .i64 0] 46)) = w2 at *
  obtain ⟨⟨p0, p1, p2⟩, pz⟩ := id P2
  go_wp2_with (go_at_call 10; fail)
  refine (HCK.out _ hc2).mono ?_
  rintro e w3 ⟨rfl, hb3⟩
  clear p0 p1 p2 pz
  have H3 := H2.trans (hb3.mono H2.size)
  have Q3 := (Q2.call hb3).call (w' := w3.alloc (.cells #[.int .i64 0, .slice none 0 0, .slice none 0 0, .int .i64 0, .slice none 0 0, .int .i64 0] 46)) (by go_grown)
  have Y3 := R6.new w3 46 (.int .i64 0) (.slice none 0 0) (.slice none 0 0) (.int .i64 0) (.slice none 0 0) (.int .i64 0)
  have H4 : Below w.heap.size w (w3.alloc (.cells #[.int .i64 0, .slice none 0 0, .slice none 0 0, .int .i64 0, .slice none 0 0, .int .i64 0] 46)) := H3.alloc H3.size _
  go_upto_region 9 with fail
  generalize (w3.alloc (.cells #[.int .i64 0, .slice none 0 0, .slice none 0 0, .int .i64 0, .slice none 0 0, .int .i64 0] 46)) = w4 at *
  go_wp2_with (go_at_call 24; fail)
  refine (HBG.out _ (hT.below H4)).mono ?_
  rintro e w5 ⟨rfl, hb5⟩
  have H5 := H4.trans (hb5.mono H4.size)
  obtain ⟨⟨r0, r1, r2, r3, r4, r5⟩, rz, -⟩ := id (Q3.call hb5)
  obtain ⟨⟨y0, y1, y2, y3, y4, y5⟩, yz, -⟩ := id (Y3.call hb5)
  have HI := hideK (runIs_err (ckProg V F c) zeroSt none 0 none 0 none 0 w5 (by simpa using h0))
  unfold runV zeroSt at HI
  simp only [List.length_nil] at HI
  clear Q2 Q3 Y3 P2 hc2 H2 H3 H4 hb5 hb3 hb2 hb1
  go_wp2_with (go_at_call 26; fail)
  refine HI.out.mono ?_
  rintro e w6 ⟨rfl, hb6⟩
  go_wp2
  go_ret
  exact ⟨rfl, H5.trans (hb6.mono H5.size)⟩

set_option maxHeartbeats 2000000 in
set_option maxRecDepth 20000 in
theorem runRuns_low (v f : Nat) (s : Option Addr) (c : List Ins) (cap : Nat) (is : Option Addr) (ic : Nat) (ins : List Int) (fuel : Int) (w : World) (hc : CodeAt w s c) (hT : Tab w) (h0 : ckProg v f c = 0) (hf : fuel < 0) (hbg : ∀ wx, Tab wx → Calls Tryd.prog 24 #[] wx fun e w' => e = .returned (.bool true) ∧ Below wx.heap.size wx w') :
    Calls Tryd.prog 7 #[.agg #[.int .i64 (v : Int), .int .i64 (f : Int), .slice s c.length cap], .slice is ins.length ic, .int .i64 fuel] w fun e w' => e = .returned (.bool true) ∧ Below w.heap.size w w' := by
  have hb0 : Below w.heap.size w (w.alloc (.cells #[.int .i64 (v : Int), .int .i64 (f : Int), .slice s c.length cap] 24)) := by go_grown
  have P0 := P3.new w (v : Int) (f : Int) s c.length cap
  have hc0 := hc.below hb0 (Nat.le_refl _)
  have HR := hideK (runM_range v f s c cap is ic ins fuel (w.alloc (.cells #[.int .i64 (v : Int), .int .i64 (f : Int), .slice s c.length cap] 24)) hc0 h0 (.inl hf))
  have HBG := hideK hbg
  have HCK := hideK (fun wx hx => checkProgram_any (v : Int) (f : Int) s cap c wx hx)
  rw [h0] at HCK
  clear hbg
  go_enter Tryd.func7, Tryd.ntmps7
  go_wp2_with (go_at_call 27; fail)
  generalize (w.alloc (.cells #[.int .i64 (v : Int), .int .i64 (f : Int), .slice s c.length cap] 24)) = w0 at *
  refine HR.out.mono ?_
  rintro e w1 ⟨rfl, hb1⟩
  clear HR
  have hb2 : Below w0.heap.size w0 (w1.alloc (.cells #[.int .i64 0, .slice none 0 0, .slice none 0 0, .int .i64 0, .slice none 0 0, .int .i64 0] 46)) := hb1.alloc hb1.size _
  have P2 := P0.call hb2
  have Q2 := R6.new w1 46 (.int .i64 0) (.slice none 0 0) (.slice none 0 0) (.int .i64 0) (.slice none 0 0) (.int .i64 0)
  have hc2 := hc0.below hb2 (Nat.le_refl _)
  have H2 := hb0.trans (hb2.mono hb0.size)
  go_upto_region 2 with fail
  generalize (w1.alloc (.cells #[.int .i64 0, .slice none 0 0, .slice none 0 0, .int .i64 0, .slice none 0 0, .int .i64 0] 46)) = w2 at *
  obtain ⟨⟨p0, p1, p2⟩, pz⟩ := id P2
  go_wp2_with (go_at_call 10; fail)
  refine (HCK.out _ hc2).mono ?_
  rintro e w3 ⟨rfl, hb3⟩
  clear p0 p1 p2 pz
  have H3 := H2.trans (hb3.mono H2.size)
  have Q3 := (Q2.call hb3).call (w' := w3.alloc (.cells #[.int .i64 0, .slice none 0 0, .slice none 0 0, .int .i64 0, .slice none 0 0, .int .i64 0] 46)) (by go_grown)
  have Y3 := R6.new w3 46 (.int .i64 0) (.slice none 0 0) (.slice none 0 0) (.int .i64 0) (.slice none 0 0) (.int .i64 0)
  have H4 : Below w.heap.size w (w3.alloc (.cells #[.int .i64 0, .slice none 0 0, .slice none 0 0, .int .i64 0, .slice none 0 0, .int .i64 0] 46)) := H3.alloc H3.size _
  go_upto_region 9 with fail
  generalize (w3.alloc (.cells #[.int .i64 0, .slice none 0 0, .slice none 0 0, .int .i64 0, .slice none 0 0, .int .i64 0] 46)) = w4 at *
  go_wp2_with (go_at_call 24; fail)
  refine (HBG.out _ (hT.below H4)).mono ?_
  rintro e w5 ⟨rfl, hb5⟩
  have H5 := H4.trans (hb5.mono H4.size)
  obtain ⟨⟨r0, r1, r2, r3, r4, r5⟩, rz, -⟩ := id (Q3.call hb5)
  obtain ⟨⟨y0, y1, y2, y3, y4, y5⟩, yz, -⟩ := id (Y3.call hb5)
  have HI := hideK (runIs_err 3 zeroSt none 0 none 0 none 0 w5 (by rfl))
  unfold runV zeroSt at HI
  simp only [List.length_nil] at HI
  clear Q2 Q3 Y3 P2 hc2 H2 H3 H4 hb5 hb3 hb2 hb1
  go_wp2_with (go_at_call 26; fail)
  refine HI.out.mono ?_
  rintro e w6 ⟨rfl, hb6⟩
  go_wp2
  go_ret
  exact ⟨rfl, H5.trans (hb6.mono H5.size)⟩

set_option maxHeartbeats 2000000 in
set_option maxRecDepth 20000 in
theorem runRuns_high (v f : Nat) (s : Option Addr) (c : List Ins) (cap : Nat) (is : Option Addr) (ic : Nat) (ins : List Int) (fuel : Int) (w : World) (hc : CodeAt w s c) (hT : Tab w) (h0 : ckProg v f c = 0) (hf : 5000 < fuel) (hbg : ∀ wx, Tab wx → Calls Tryd.prog 24 #[] wx fun e w' => e = .returned (.bool true) ∧ Below wx.heap.size wx w') :
    Calls Tryd.prog 7 #[.agg #[.int .i64 (v : Int), .int .i64 (f : Int), .slice s c.length cap], .slice is ins.length ic, .int .i64 fuel] w fun e w' => e = .returned (.bool true) ∧ Below w.heap.size w w' := by
  have hb0 : Below w.heap.size w (w.alloc (.cells #[.int .i64 (v : Int), .int .i64 (f : Int), .slice s c.length cap] 24)) := by go_grown
  have P0 := P3.new w (v : Int) (f : Int) s c.length cap
  have hc0 := hc.below hb0 (Nat.le_refl _)
  have HR := hideK (runM_range v f s c cap is ic ins fuel (w.alloc (.cells #[.int .i64 (v : Int), .int .i64 (f : Int), .slice s c.length cap] 24)) hc0 h0 (.inr hf))
  have HBG := hideK hbg
  have HCK := hideK (fun wx hx => checkProgram_any (v : Int) (f : Int) s cap c wx hx)
  rw [h0] at HCK
  have hf0 : ¬ (fuel < 0) := by omega
  clear hbg
  go_enter Tryd.func7, Tryd.ntmps7
  go_wp2_with (go_at_call 27; fail)
  generalize (w.alloc (.cells #[.int .i64 (v : Int), .int .i64 (f : Int), .slice s c.length cap] 24)) = w0 at *
  refine HR.out.mono ?_
  rintro e w1 ⟨rfl, hb1⟩
  clear HR
  have hb2 : Below w0.heap.size w0 (w1.alloc (.cells #[.int .i64 0, .slice none 0 0, .slice none 0 0, .int .i64 0, .slice none 0 0, .int .i64 0] 46)) := hb1.alloc hb1.size _
  have P2 := P0.call hb2
  have Q2 := R6.new w1 46 (.int .i64 0) (.slice none 0 0) (.slice none 0 0) (.int .i64 0) (.slice none 0 0) (.int .i64 0)
  have hc2 := hc0.below hb2 (Nat.le_refl _)
  have H2 := hb0.trans (hb2.mono hb0.size)
  go_upto_region 2 with fail
  generalize (w1.alloc (.cells #[.int .i64 0, .slice none 0 0, .slice none 0 0, .int .i64 0, .slice none 0 0, .int .i64 0] 46)) = w2 at *
  obtain ⟨⟨p0, p1, p2⟩, pz⟩ := id P2
  go_wp2_with (go_at_call 10; fail)
  refine (HCK.out _ hc2).mono ?_
  rintro e w3 ⟨rfl, hb3⟩
  clear p0 p1 p2 pz
  have H3 := H2.trans (hb3.mono H2.size)
  have Q3 := (Q2.call hb3).call (w' := w3.alloc (.cells #[.int .i64 0, .slice none 0 0, .slice none 0 0, .int .i64 0, .slice none 0 0, .int .i64 0] 46)) (by go_grown)
  have Y3 := R6.new w3 46 (.int .i64 0) (.slice none 0 0) (.slice none 0 0) (.int .i64 0) (.slice none 0 0) (.int .i64 0)
  have H4 : Below w.heap.size w (w3.alloc (.cells #[.int .i64 0, .slice none 0 0, .slice none 0 0, .int .i64 0, .slice none 0 0, .int .i64 0] 46)) := H3.alloc H3.size _
  go_upto_region 9 with fail
  generalize (w3.alloc (.cells #[.int .i64 0, .slice none 0 0, .slice none 0 0, .int .i64 0, .slice none 0 0, .int .i64 0] 46)) = w4 at *
  go_wp2_with (go_at_call 24; fail)
  refine (HBG.out _ (hT.below H4)).mono ?_
  rintro e w5 ⟨rfl, hb5⟩
  have H5 := H4.trans (hb5.mono H4.size)
  obtain ⟨⟨r0, r1, r2, r3, r4, r5⟩, rz, -⟩ := id (Q3.call hb5)
  obtain ⟨⟨y0, y1, y2, y3, y4, y5⟩, yz, -⟩ := id (Y3.call hb5)
  have HI := hideK (runIs_err 3 zeroSt none 0 none 0 none 0 w5 (by rfl))
  unfold runV zeroSt at HI
  simp only [List.length_nil] at HI
  clear Q2 Q3 Y3 P2 hc2 H2 H3 H4 hb5 hb3 hb2 hb1
  go_wp2_with (go_at_call 26; fail)
  refine HI.out.mono ?_
  rintro e w6 ⟨rfl, hb6⟩
  go_wp2
  go_ret
  exact ⟨rfl, H5.trans (hb6.mono H5.size)⟩
end Go.Proofs.YtmapdpcfanecdaaDoor
