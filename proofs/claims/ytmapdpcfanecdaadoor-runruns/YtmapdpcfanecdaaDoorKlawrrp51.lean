/- Walks over package run: what the machine does, kind by kind. -/
import Derived.Test.YtmapdpcfanecdaaDoorKlawrrp49
import Derived.Test.YtmapdpcfanecdaaDoorKlawrrp50
import Derived.Deep.DeepCutAuto
import Derived.Test.YtmapdpcfanecdaaDoorKlawrrp11
import Derived.Test.YtmapdpcfanecdaaDoorKlawrrp17
import Derived.Test.YtmapdpcfanecdaaDoorKlawrrp15
import Derived.Test.YtmapdpcfanecdaaDoorKlawrrp19
import Derived.Test.YtmapdpcfanecdaaDoorKlawrrp05
namespace Go.Proofs.YtmapdpcfanecdaaDoor
set_option linter.unusedVariables false
set_option linter.unusedSimpArgs false
open Go.RowKit
attribute [local go_sem ↓] Go.wp_at_zero Go.wp_at_succ

/-- What is known at the head of a round of the document's loop. -/
structure RoundR (w0 wr : World) (m : Nat) (v f : Nat) (c : List Ins) (ins : List Int) (fuel k : Nat) (st : St) : Prop where
  own : ∃ vv tv lv fv, OwnRun wr w0.heap.size m st vv tv lv fv
  low : Below w0.heap.size w0 wr
  ok : RunOk v f c st
  le : k ≤ fuel
  rel : stepsSt f c ins fuel (beginSt v) = ((stepsSt f c ins (fuel - k) st).1, (stepsSt f c ins (fuel - k) st).2 + k)
  lines : st.lines.length ≤ k
  taken : st.taken ≤ k
theorem RoundR.next {w0 wr w' : World} {m v f : Nat} {c : List Ins} {ins : List Int} {fuel k : Nat} {st : St} (h : RoundR w0 wr m v f c ins fuel k st) (hp : ProgOk v f c) (hf : st.fin = 0) (hk : k < fuel) (hf5 : fuel ≤ 5000) (own : ∃ vv tv lv fv, OwnRun w' w0.heap.size m (stepSt f c ins st) vv tv lv fv) (low : Below w0.heap.size w0 w') : RoundR w0 w' m v f c ins fuel (k + 1) (stepSt f c ins st) := by
  have ht := h.taken
  have hl := h.lines
  refine ⟨own, low, stepSt_ok ins hp h.ok (by omega), hk, ?_, ?_, ?_⟩
  · rw [h.rel, show fuel - k = (fuel - (k + 1)) + 1 by omega, stepsSt_go hf]
    simp only [Prod.mk.injEq, true_and]
    omega
  · have := stepSt_lines f c ins st; omega
  · have := stepSt_taken f c ins st h.ok.tk (by omega); omega
set_option maxHeartbeats 4000000 in
set_option maxRecDepth 20000 in
theorem runOf_any (v f : Nat) (s : Option Addr) (c : List Ins) (cap : Nat) (is : Option Addr) (ic : Nat) (ins : List Int) (fuel : Nat) (w : World) (hc : CodeAt w s c) (hI : IntsAt w is ins) (hp : ProgOk v f c) (hf5 : fuel ≤ 5000) :
    Calls Tryd.prog 28 #[.agg #[.int .i64 (v : Int), .int .i64 (f : Int), .slice s c.length cap], .slice is ins.length ic, .int .i64 (fuel : Int)] w fun e w' => ∃ vv tv lv fv, e = .returned (.tuple #[.agg #[.int .i64 (runSt v f c ins fuel).1.at_, vv, tv, .int .i64 (runSt v f c ins fuel).1.taken, lv, .int .i64 (runSt v f c ins fuel).1.fin], .int .i64 (runSt v f c ins fuel).2]) ∧ OwnRows w' w.heap.size (runSt v f c ins fuel).1 vv tv lv fv ∧ RunOk v f c (runSt v f c ins fuel).1 ∧ (runSt v f c ins fuel).1.lines.length ≤ 5000 ∧ Below w.heap.size w w' := by
  have hv8 : v ≤ 8 := by have := hp.v8; omega
  have hb0 : Below w.heap.size w ((w.alloc (.cells #[.int .i64 (v : Int), .int .i64 (f : Int), .slice s c.length cap] 24)).alloc (.cells #[.int .i64 0, .slice none 0 0, .slice none 0 0, .int .i64 0, .slice none 0 0, .int .i64 0] 46)) := by go_grown
  have Z0 := R6.new (w.alloc (.cells #[.int .i64 (v : Int), .int .i64 (f : Int), .slice s c.length cap] 24)) 46 (.int .i64 0) (.slice none 0 0) (.slice none 0 0) (.int .i64 0) (.slice none 0 0) (.int .i64 0)
  rw [World.size_alloc] at Z0
  have P0 := (P3.new w v f s c.length cap).call (w' := ((w.alloc (.cells #[.int .i64 (v : Int), .int .i64 (f : Int), .slice s c.length cap] 24)).alloc (.cells #[.int .i64 0, .slice none 0 0, .slice none 0 0, .int .i64 0, .slice none 0 0, .int .i64 0] 46))) (by go_grown)
  have hc0 := hc.below hb0 (Nat.le_refl _)
  have hI0 := hI.below hb0 (Nat.le_refl _)
  have HB := hideK (beginOf_any f s c.length cap ((w.alloc (.cells #[.int .i64 (v : Int), .int .i64 (f : Int), .slice s c.length cap] 24)).alloc (.cells #[.int .i64 0, .slice none 0 0, .slice none 0 0, .int .i64 0, .slice none 0 0, .int .i64 0] 46)) v hv8)
  have HZ := hideK (show ((w.alloc (.cells #[.int .i64 (v : Int), .int .i64 (f : Int), .slice s c.length cap] 24)).alloc (.cells #[.int .i64 0, .slice none 0 0, .slice none 0 0, .int .i64 0, .slice none 0 0, .int .i64 0] 46)).heap.size = w.heap.size + 1 + 1 by simp)
  have HQ := hideK hp
  clear hc hI hp
  go_enter Tryd.func28, Tryd.ntmps28
  go_wp2_with (go_at_call 22; fail)
  generalize ((w.alloc (.cells #[.int .i64 (v : Int), .int .i64 (f : Int), .slice s c.length cap] 24)).alloc (.cells #[.int .i64 0, .slice none 0 0, .slice none 0 0, .int .i64 0, .slice none 0 0, .int .i64 0] 46)) = w0 at *
  refine HB.out.mono ?_
  rintro e w1 ⟨g, rfl, hown, hb1⟩
  clear HB
  have hzw := HZ.out
  rw [made_zero v hv8] at hown
  have hz1 : w0.heap.size ≤ w1.heap.size := hb1.size
  have H2 : Below w0.heap.size w0 (w1.alloc (.cells #[.int .i64 0, .slice (some ⟨g, 0, none⟩) v v, .slice none 0 0, .int .i64 0, .slice none 0 0, .int .i64 0] 46)) := hb1.alloc hz1 _
  have R1 := begin_rows hv8 hown
  have R3 := R1.below (w' := w1.alloc (.cells #[.int .i64 0, .slice (some ⟨g, 0, none⟩) v v, .slice none 0 0, .int .i64 0, .slice none 0 0, .int .i64 0] 46)) (by go_grown)
  have C3 : RunCells (w1.alloc (.cells #[.int .i64 0, .slice (some ⟨g, 0, none⟩) v v, .slice none 0 0, .int .i64 0, .slice none 0 0, .int .i64 0] 46)) w1.heap.size (beginSt v) (.slice (some ⟨g, 0, none⟩) v v) (.slice none 0 0) (.slice none 0 0) := by
    refine ⟨⟨?_, ?_, ?_, ?_, ?_, ?_⟩, fun j => ?_⟩ <;> simp [go_sem, beginSt]
  have O3 := R3.run' C3 (by omega) (fun hm => by have := (R1.lt hm).1; omega)
  have RR : RoundR w0 (w1.alloc (.cells #[.int .i64 0, .slice (some ⟨g, 0, none⟩) v v, .slice none 0 0, .int .i64 0, .slice none 0 0, .int .i64 0] 46)) w1.heap.size v f c ins fuel 0 (beginSt v) :=
    ⟨⟨_, _, _, _, O3⟩, H2, beginSt_ok HQ.out, Nat.zero_le _, by simp, by simp [beginSt], by simp [beginSt]⟩
  have HRR := hideK RR
  clear R1 R3 C3 O3 H2 hown RR HZ
  go_upto_region 2 with fail
  generalize w1.alloc (.cells #[.int .i64 0, .slice (some ⟨g, 0, none⟩) v v, .slice none 0 0, .int .i64 0, .slice none 0 0, .int .i64 0] 46) = w3 at *
  go_wp2
  go_loopw [9] (fun i wr => ∃ (k : Nat) (st : St), i = .int .i64 k ∧ RoundR w0 wr w1.heap.size v f c ins fuel k st) (fun i _ => fuel - (intOf i).toNat)
  case atStart => exact ⟨0, _, rfl, HRR.out⟩
  case round =>
    obtain ⟨k, st, rfl, hR⟩ := hrel
    obtain ⟨vv, tv, lv, fv, O⟩ := hR.own
    obtain ⟨vs, vc, ts, tc, ls, lc, rfl, rfl, rfl, hat⟩ := O.rows.at
    have l5 := O.fin_
    have hkf := hR.le
    by_cases hfin : st.fin = 0
    · by_cases hlt : k < fuel
      · have n1 : (k : Int) < (fuel : Int) := by omega
        have HS := hideK (stepOf_any v f s c cap st vs vc ts tc ls lc is ic ins wr (hc0.below hR.low (Nat.le_refl _)) hat HQ.out hR.ok (hI0.below hR.low (Nat.le_refl _)) (by have := hR.lines; omega))
        unfold runV at HS
        have HN := hideK (fun (w' : World) own low => hR.next (w' := w') HQ.out hfin hlt hf5 own low)
        have HLO := hideK hR.low
        have hmz : w1.heap.size < wr.heap.size := O.lt (by simp [ownBlocks])
        have Q4 := O.r6
        obtain ⟨⟨m0, m1, m2, m3, m4, m5⟩, mz, -⟩ := id Q4
        obtain ⟨⟨p0, p1, p2⟩, pz⟩ := id (P0.below hR.low P0.2)
        have m5' : wr.cell? ⟨w1.heap.size, 5, none⟩ = some (.int .i64 st.fin) := m5
        have b5 : (st.fin == 0) = true := by simpa using hfin
        have HFI := hideK hfin
        clear O hR hat hfin l5 m5'
        go_wp2_with (go_at_call 23; fail)
        refine HS.out.mono ?_
        rintro e w5 ⟨vv2, tv2, lv2, fv2, rfl, OR, hb5⟩
        clear HS
        obtain ⟨vs2, vc2, ts2, tc2, ls2, lc2, rfl, rfl, rfl, -⟩ := OR.at
        have Q5 := Q4.call hb5
        generalize stepSt f c ins st = s2 at *
        have HR5 := hideK (HN.out (set6 w5 w1.heap.size (.int .i64 s2.at_) (.slice vs2 s2.vars.length vc2) (.slice ts2 s2.things.length tc2) (.int .i64 s2.taken) (.slice ls2 s2.lines.length lc2) (.int .i64 s2.fin)) ⟨_, _, _, _, (OR.set6 (b := w1.heap.size) hmz _ _ _ _ _ _).run (Q5.put (.int .i64 s2.at_) (.slice vs2 s2.vars.length vc2) (.slice ts2 s2.things.length tc2) (.int .i64 s2.taken) (.slice ls2 s2.lines.length lc2) (.int .i64 s2.fin)).cells HLO.out.size hz1 hmz⟩ (below_set6 (HLO.out.trans (hb5.mono HLO.out.size)) hz1 _ _ _ _ _ _))
        obtain ⟨⟨q0, q1, q2, q3, q4, q5⟩, qz, qf⟩ := id Q5
        have g0 := qf 0
        have g1 := qf 1
        have g2 := qf 2
        have g3 := qf 3
        have g4 := qf 4
        have g5 := qf 5
        clear HN qf OR hb5 Q4 Q5 m0 m1 m2 m3 m4 m5 p0 p1 p2
        go_wp2
        go_roundw
        case rel => exact ⟨k + 1, _, by go_num, HR5.out⟩
        case measure => simp [intOf]; omega
      · have hkk : k = fuel := by omega
        subst hkk
        have HE : Hid (runSt v f c ins k = ({ st with fin := 4 }, k)) := by
          show _ = _
          rw [runSt_of (s := st) (k := k) (by rw [hR.rel, Nat.sub_self, stepsSt_done (.inl rfl)]; simp), if_pos hfin]
        have d5 := O.thaw 5
        obtain ⟨⟨r0, r1, r2, r3, r4, r5⟩, rz, rf⟩ := id (Z0.below hR.low Z0.2.1)
        have g0 := rf 0
        have g1 := rf 1
        have g2 := rf 2
        have g3 := rf 3
        have g4 := rf 4
        have g5 := rf 5
        obtain ⟨⟨m0, m1, m2, m3, m4, m5⟩, mz, mf⟩ := id O.r6
        rw [hfin] at m5
        have hbne : w.heap.size + 1 ≠ w1.heap.size := by omega
        have nk : ¬ ((k : Int) < (k : Int)) := by omega
        clear l5
        have R6' := ((O.withFin 4).rows.set6 (b := w.heap.size + 1) (by omega) (.int .i64 st.at_) (.slice vs st.vars.length vc) (.slice ts st.things.length tc) (.int .i64 st.taken) (.slice ls st.lines.length lc) (.int .i64 4)).down (show w.heap.size ≤ w0.heap.size by omega)
        have HL : Below w.heap.size w (set6 (wr.setCell ⟨w1.heap.size, 5, none⟩ (.int .i64 4)) (w.heap.size + 1) (.int .i64 st.at_) (.slice vs st.vars.length vc) (.slice ts st.things.length tc) (.int .i64 st.taken) (.slice ls st.lines.length lc) (.int .i64 4)) := below_set6 ((hb0.trans (hR.low.mono (by omega))).setCell (by simp; omega) _) (by omega) _ _ _ _ _ _
        have HY := hideK (And.intro R6' (And.intro HL (hR.ok.finish 4 (by omega) (by omega))))
        have hln := hR.lines
        clear O hR R6' HL
        go_wp2
        refine bodyPost_ret (v := .tuple #[.agg #[.int .i64 st.at_, .slice vs st.vars.length vc, .slice ts st.things.length tc, .int .i64 st.taken, .slice ls st.lines.length lc, .int .i64 4], .int .i64 k]) (by simp [results, Tryd.results28, go_sem, r0, r1, r2, r3, r4, r5]) rfl ?_
        rw [HE.out]
        first | exact ⟨_, _, _, fv, rfl, HY.out.1, HY.out.2.2, by show st.lines.length ≤ 5000; omega, HY.out.2.1⟩ | exact ⟨_, _, _, rfl, ⟨fv, HY.out.1⟩, HY.out.2.2, by show st.lines.length ≤ 5000; omega, HY.out.2.1⟩
    · by_cases hx : True
      · have b5 : (st.fin == 0) = false := by simpa using hfin
        have HE : Hid (runSt v f c ins fuel = (st, k)) := by
          show _ = _
          rw [runSt_of (s := st) (k := k) (by rw [hR.rel, stepsSt_done (.inr hfin)]; simp), if_neg hfin]
        obtain ⟨⟨r0, r1, r2, r3, r4, r5⟩, rz, rf⟩ := id (Z0.below hR.low Z0.2.1)
        have g0 := rf 0
        have g1 := rf 1
        have g2 := rf 2
        have g3 := rf 3
        have g4 := rf 4
        have g5 := rf 5
        obtain ⟨⟨m0, m1, m2, m3, m4, m5⟩, mz, mf⟩ := id O.r6
        have hbne : w.heap.size + 1 ≠ w1.heap.size := by omega
        rcases Bool.eq_false_or_eq_true (decide ((k : Int) < (fuel : Int))) with hd | hd
        all_goals simp only [decide_eq_true_eq, decide_eq_false_iff_not] at hd
        all_goals skip
        · clear l5
          have R6' := ((O).rows.set6 (b := w.heap.size + 1) (by omega) (.int .i64 st.at_) (.slice vs st.vars.length vc) (.slice ts st.things.length tc) (.int .i64 st.taken) (.slice ls st.lines.length lc) (.int .i64 st.fin)).down (show w.heap.size ≤ w0.heap.size by omega)
          have HL : Below w.heap.size w (set6 wr (w.heap.size + 1) (.int .i64 st.at_) (.slice vs st.vars.length vc) (.slice ts st.things.length tc) (.int .i64 st.taken) (.slice ls st.lines.length lc) (.int .i64 st.fin)) := below_set6 (hb0.trans (hR.low.mono (by omega))) (by omega) _ _ _ _ _ _
          have HY := hideK (And.intro R6' (And.intro HL (hR.ok)))
          have hln := hR.lines
          clear O hR R6' HL
          go_wp2
          refine bodyPost_ret (v := .tuple #[.agg #[.int .i64 st.at_, .slice vs st.vars.length vc, .slice ts st.things.length tc, .int .i64 st.taken, .slice ls st.lines.length lc, .int .i64 st.fin], .int .i64 k]) (by simp [results, Tryd.results28, go_sem, r0, r1, r2, r3, r4, r5]) rfl ?_
          rw [HE.out]
          first | exact ⟨_, _, _, fv, rfl, HY.out.1, HY.out.2.2, by show st.lines.length ≤ 5000; omega, HY.out.2.1⟩ | exact ⟨_, _, _, rfl, ⟨fv, HY.out.1⟩, HY.out.2.2, by show st.lines.length ≤ 5000; omega, HY.out.2.1⟩
        · clear l5
          have R6' := ((O).rows.set6 (b := w.heap.size + 1) (by omega) (.int .i64 st.at_) (.slice vs st.vars.length vc) (.slice ts st.things.length tc) (.int .i64 st.taken) (.slice ls st.lines.length lc) (.int .i64 st.fin)).down (show w.heap.size ≤ w0.heap.size by omega)
          have HL : Below w.heap.size w (set6 wr (w.heap.size + 1) (.int .i64 st.at_) (.slice vs st.vars.length vc) (.slice ts st.things.length tc) (.int .i64 st.taken) (.slice ls st.lines.length lc) (.int .i64 st.fin)) := below_set6 (hb0.trans (hR.low.mono (by omega))) (by omega) _ _ _ _ _ _
          have HY := hideK (And.intro R6' (And.intro HL (hR.ok)))
          have hln := hR.lines
          clear O hR R6' HL
          go_wp2
          refine bodyPost_ret (v := .tuple #[.agg #[.int .i64 st.at_, .slice vs st.vars.length vc, .slice ts st.things.length tc, .int .i64 st.taken, .slice ls st.lines.length lc, .int .i64 st.fin], .int .i64 k]) (by simp [results, Tryd.results28, go_sem, r0, r1, r2, r3, r4, r5]) rfl ?_
          rw [HE.out]
          first | exact ⟨_, _, _, fv, rfl, HY.out.1, HY.out.2.2, by show st.lines.length ≤ 5000; omega, HY.out.2.1⟩ | exact ⟨_, _, _, rfl, ⟨fv, HY.out.1⟩, HY.out.2.2, by show st.lines.length ≤ 5000; omega, HY.out.2.1⟩
      · exact absurd trivial hx
end Go.Proofs.YtmapdpcfanecdaaDoor

namespace Go.Proofs.YtmapdpcfanecdaaDoor
set_option linter.unusedVariables false
set_option linter.unusedSimpArgs false
open Go.RowKit
attribute [local go_sem ↓] Go.wp_at_zero Go.wp_at_succ

set_option maxHeartbeats 2000000 in
set_option maxRecDepth 20000 in
theorem runM_err (V F : Int) (s : Option Addr) (c : List Ins) (cap : Nat) (is : Option Addr) (ic : Nat) (ins : List Int) (fuel : Int) (w : World) (hc : CodeAt w s c) (h0 : ckProg V F c ≠ 0) :
    Calls Tryd.prog 27 #[.agg #[.int .i64 V, .int .i64 F, .slice s c.length cap], .slice is ins.length ic, .int .i64 fuel] w fun e w' => e = .returned (.tuple #[.agg #[.int .i64 0, .slice none 0 0, .slice none 0 0, .int .i64 0, .slice none 0 0, .int .i64 0], .int .i64 0, .int .i64 (ckProg V F c)]) ∧ Below w.heap.size w w' := by
  have hb0 : Below w.heap.size w ((w.alloc (.cells #[.int .i64 V, .int .i64 F, .slice s c.length cap] 24)).alloc (.cells #[.int .i64 0, .slice none 0 0, .slice none 0 0, .int .i64 0, .slice none 0 0, .int .i64 0] 46)) := by go_grown
  have Z0 := R6.new (w.alloc (.cells #[.int .i64 V, .int .i64 F, .slice s c.length cap] 24)) 46 (.int .i64 0) (.slice none 0 0) (.slice none 0 0) (.int .i64 0) (.slice none 0 0) (.int .i64 0)
  rw [World.size_alloc] at Z0
  have HB := hideK (begin_err V F s c cap ((w.alloc (.cells #[.int .i64 V, .int .i64 F, .slice s c.length cap] 24)).alloc (.cells #[.int .i64 0, .slice none 0 0, .slice none 0 0, .int .i64 0, .slice none 0 0, .int .i64 0] 46)) (hc.below hb0 (Nat.le_refl _)) h0)
  have hk : (ckProg V F c != 0) = true := by simpa using h0
  go_enter Tryd.func27, Tryd.ntmps27
  go_wp2_with (go_at_call 19; fail)
  refine HB.out.mono ?_
  rintro e w1 ⟨rfl, hb1⟩
  clear HB
  have H1 := hb0.trans (hb1.mono hb0.size)
  have hz1 : w.heap.size + 1 < w1.heap.size := by have := hb1.size; simp at this; omega
  have Z1 := (Z0.call hb1).call (w' := w1.alloc (.cells #[.int .i64 0, .slice none 0 0, .slice none 0 0, .int .i64 0, .slice none 0 0, .int .i64 0] 46)) (by go_grown)
  have H2 : Below w.heap.size w (w1.alloc (.cells #[.int .i64 0, .slice none 0 0, .slice none 0 0, .int .i64 0, .slice none 0 0, .int .i64 0] 46)) := H1.alloc H1.size _
  clear Z0 hb1
  go_upto_region 2 with fail
  generalize w1.alloc (.cells #[.int .i64 0, .slice none 0 0, .slice none 0 0, .int .i64 0, .slice none 0 0, .int .i64 0] 46) = w2 at *
  obtain ⟨⟨r0, r1, r2, r3, r4, r5⟩, rz, rf⟩ := id Z1
  have g0 := rf 0
  have g1 := rf 1
  have g2 := rf 2
  have g3 := rf 3
  have g4 := rf 4
  have g5 := rf 5
  go_wp2
  clear rf
  refine bodyPost_ret (v := .tuple #[.agg #[.int .i64 0, .slice none 0 0, .slice none 0 0, .int .i64 0, .slice none 0 0, .int .i64 0], .int .i64 0, .int .i64 (ckProg V F c)]) (by simp [results, Tryd.results27, go_sem, r0, r1, r2, r3, r4, r5]) rfl ⟨rfl, ?_⟩
  exact below_set6 H2 (by omega) _ _ _ _ _ _

set_option maxHeartbeats 2000000 in
set_option maxRecDepth 20000 in
theorem runM_range (v f : Nat) (s : Option Addr) (c : List Ins) (cap : Nat) (is : Option Addr) (ic : Nat) (ins : List Int) (fuel : Int) (w : World) (hc : CodeAt w s c) (h0 : ckProg v f c = 0) (hf : fuel < 0 ∨ 5000 < fuel) :
    Calls Tryd.prog 27 #[.agg #[.int .i64 (v : Int), .int .i64 (f : Int), .slice s c.length cap], .slice is ins.length ic, .int .i64 fuel] w fun e w' => e = .returned (.tuple #[.agg #[.int .i64 0, .slice none 0 0, .slice none 0 0, .int .i64 0, .slice none 0 0, .int .i64 0], .int .i64 0, .int .i64 3]) ∧ Below w.heap.size w w' := by
  have hb0 : Below w.heap.size w ((w.alloc (.cells #[.int .i64 (v : Int), .int .i64 (f : Int), .slice s c.length cap] 24)).alloc (.cells #[.int .i64 0, .slice none 0 0, .slice none 0 0, .int .i64 0, .slice none 0 0, .int .i64 0] 46)) := by go_grown
  have Z0 := R6.new (w.alloc (.cells #[.int .i64 (v : Int), .int .i64 (f : Int), .slice s c.length cap] 24)) 46 (.int .i64 0) (.slice none 0 0) (.slice none 0 0) (.int .i64 0) (.slice none 0 0) (.int .i64 0)
  rw [World.size_alloc] at Z0
  have HB := hideK (begin_ok v f s c cap ((w.alloc (.cells #[.int .i64 (v : Int), .int .i64 (f : Int), .slice s c.length cap] 24)).alloc (.cells #[.int .i64 0, .slice none 0 0, .slice none 0 0, .int .i64 0, .slice none 0 0, .int .i64 0] 46)) (hc.below hb0 (Nat.le_refl _)) h0)
  go_enter Tryd.func27, Tryd.ntmps27
  go_wp2_with (go_at_call 19; fail)
  refine HB.out.mono ?_
  rintro e w1 ⟨g, rfl, -, hb1⟩
  clear HB
  have H1 := hb0.trans (hb1.mono hb0.size)
  have hz1 : w.heap.size + 1 < w1.heap.size := by have := hb1.size; simp at this; omega
  have Z1 := (Z0.call hb1).call (w' := w1.alloc (.cells #[.int .i64 0, .slice (some ⟨g, 0, none⟩) v v, .slice none 0 0, .int .i64 0, .slice none 0 0, .int .i64 0] 46)) (by go_grown)
  have H2 : Below w.heap.size w (w1.alloc (.cells #[.int .i64 0, .slice (some ⟨g, 0, none⟩) v v, .slice none 0 0, .int .i64 0, .slice none 0 0, .int .i64 0] 46)) := H1.alloc H1.size _
  clear Z0 hb1
  go_upto_region 2 with fail
  generalize w1.alloc (.cells #[.int .i64 0, .slice (some ⟨g, 0, none⟩) v v, .slice none 0 0, .int .i64 0, .slice none 0 0, .int .i64 0] 46) = w2 at *
  obtain ⟨⟨r0, r1, r2, r3, r4, r5⟩, rz, rf⟩ := id Z1
  have g0 := rf 0
  have g1 := rf 1
  have g2 := rf 2
  have g3 := rf 3
  have g4 := rf 4
  have g5 := rf 5
  clear rf
  rcases hf with hf | hf
  · go_wp2
    refine bodyPost_ret (v := .tuple #[.agg #[.int .i64 0, .slice none 0 0, .slice none 0 0, .int .i64 0, .slice none 0 0, .int .i64 0], .int .i64 0, .int .i64 3]) (by simp [results, Tryd.results27, go_sem, r0, r1, r2, r3, r4, r5]) rfl ⟨rfl, ?_⟩
    exact below_set6 H2 (by omega) _ _ _ _ _ _
  · have hf0 : ¬ (fuel < 0) := by omega
    go_wp2
    refine bodyPost_ret (v := .tuple #[.agg #[.int .i64 0, .slice none 0 0, .slice none 0 0, .int .i64 0, .slice none 0 0, .int .i64 0], .int .i64 0, .int .i64 3]) (by simp [results, Tryd.results27, go_sem, r0, r1, r2, r3, r4, r5]) rfl ⟨rfl, ?_⟩
    exact below_set6 H2 (by omega) _ _ _ _ _ _
end Go.Proofs.YtmapdpcfanecdaaDoor

namespace Go.Proofs.YtmapdpcfanecdaaDoor
set_option linter.unusedVariables false
set_option linter.unusedSimpArgs false
open Go.RowKit
attribute [local go_sem ↓] Go.wp_at_zero Go.wp_at_succ

set_option maxHeartbeats 2000000 in
set_option maxRecDepth 20000 in
theorem runRuns_err (V F : Int) (s : Option Addr) (c : List Ins) (cap : Nat) (is : Option Addr) (ic : Nat) (ins : List Int) (fuel : Int) (w : World) (hc : CodeAt w s c) (hT : Tab w) (h0 : ckProg V F c ≠ 0) (hbg : ∀ wx, Tab wx → Calls Tryd.prog 24 #[] wx fun e w' => e = .returned (.bool true) ∧ Below wx.heap.size wx w') :
    Calls Tryd.prog 7 #[.agg #[.int .i64 V, .int .i64 F, .slice s c.length cap], .slice is ins.length ic, .int .i64 fuel] w fun e w' => e = .returned (.bool true) ∧ Below w.heap.size w w' := by
  have hb0 : Below w.heap.size w (w.alloc (.cells #[.int .i64 V, .int .i64 F, .slice s c.length cap] 24)) := by go_grown
  have P0 := P3.new w V F s c.length cap
  have hc0 := hc.below hb0 (Nat.le_refl _)
  have HR := hideK (runM_err V F s c cap is ic ins fuel (w.alloc (.cells #[.int .i64 V, .int .i64 F, .slice s c.length cap] 24)) hc0 h0)
  have HBG := hideK hbg
  have HCK := hideK (fun wx hx => checkProgram_any V F s cap c wx hx)
  have e0 : (ckProg V F c == 0) = false := by simpa using h0
  clear hbg
  go_enter Tryd.func7, Tryd.ntmps7
  go_wp2_with (go_at_call 27; fail)
  generalize (w.alloc (.cells #[.int .i64 V, .int .i64 F, .slice s c.length cap] 24)) = w0 at *
  refine HR.out.mono ?_
  rintro e w1 ⟨rfl, hb1⟩
  clear HR
  have hb2 : Below w0.heap.size w0 (w1.alloc (.cells #[.int .i64 0, .slice none 0 0, .slice none 0 0, .int .i64 0, .slice none 0 0, .int .i64 0] 46)) := hb1.alloc hb1.size _
  have P2 := P0.call hb2
  have Q2 := R6.new w1 46 (.int .i64 0) (.slice none 0 0) (.slice none 0 0) (.int .i64 0) (.slice none 0 0) (.int .i64 0)
  have hc2 := hc0.below hb2 (Nat.le_refl _)
  have H2 := hb0.trans (hb2.mono hb0.size)
  go_upto_region 2 with fail
  generalize (w1.alloc (.cells #[.int .i64 0, .slice none 0 0, .slice none 0 0, .int .i64 0, .slice none 0 0, .int .i64 0] 46)) = w2 at *
  obtain ⟨⟨p0, p1, p2⟩, pz⟩ := id P2
  go_wp2_with (go_at_call 10; fail)
  refine (HCK.out _ hc2).mono ?_
  rintro e w3 ⟨rfl, hb3⟩
  clear p0 p1 p2 pz
  have H3 := H2.trans (hb3.mono H2.size)
  have Q3 := (Q2.call hb3).call (w' := w3.alloc (.cells #[.int .i64 0, .slice none 0 0, .slice none 0 0, .int .i64 0, .slice none 0 0, .int .i64 0] 46)) (by go_grown)
  have Y3 := R6.new w3 46 (.int .i64 0) (.slice none 0 0) (.slice none 0 0) (.int .i64 0) (.slice none 0 0) (.int .i64 0)
  have H4 : Below w.heap.size w (w3.alloc (.cells #[.int .i64 0, .slice none 0 0, .slice none 0 0, .int .i64 0, .slice none 0 0, .int .i64 0] 46)) := H3.alloc H3.size _
  go_upto_region 9 with fail
  generalize (w3.alloc (.cells #[.int .i64 0, .slice none 0 0, .slice none 0 0, .int .i64 0, .slice none 0 0, .int .i64 0] 46)) = w4 at *
  go_wp2_with (go_at_call 24; fail)
  refine (HBG.out _ (hT.below H4)).mono ?_
  rintro e w5 ⟨rfl, hb5⟩
  have H5 := H4.trans (hb5.mono H4.size)
  obtain ⟨⟨r0, r1, r2, r3, r4, r5⟩, rz, -⟩ := id (Q3.call hb5)
  obtain ⟨⟨y0, y1, y2, y3, y4, y5⟩, yz, -⟩ := id (Y3.call hb5)
  have HI := hideK (runIs_err (ckProg V F c) zeroSt none 0 none 0 none 0 w5 (by simpa using h0))
  unfold runV zeroSt at HI
  simp only [List.length_nil] at HI
  clear Q2 Q3 Y3 P2 hc2 H2 H3 H4 hb5 hb3 hb2 hb1
  go_wp2_with (go_at_call 26; fail)
  refine HI.out.mono ?_
  rintro e w6 ⟨rfl, hb6⟩
  go_wp2
  go_ret
  exact ⟨rfl, H5.trans (hb6.mono H5.size)⟩

set_option maxHeartbeats 2000000 in
set_option maxRecDepth 20000 in
theorem runRuns_low (v f : Nat) (s : Option Addr) (c : List Ins) (cap : Nat) (is : Option Addr) (ic : Nat) (ins : List Int) (fuel : Int) (w : World) (hc : CodeAt w s c) (hT : Tab w) (h0 : ckProg v f c = 0) (hf : fuel < 0) (hbg : ∀ wx, Tab wx → Calls Tryd.prog 24 #[] wx fun e w' => e = .returned (.bool true) ∧ Below wx.heap.size wx w') :
    Calls Tryd.prog 7 #[.agg #[.int .i64 (v : Int), .int .i64 (f : Int), .slice s c.length cap], .slice is ins.length ic, .int .i64 fuel] w fun e w' => e = .returned (.bool true) ∧ Below w.heap.size w w' := by
  have hb0 : Below w.heap.size w (w.alloc (.cells #[.int .i64 (v : Int), .int .i64 (f : Int), .slice s c.length cap] 24)) := by go_grown
  have P0 := P3.new w (v : Int) (f : Int) s c.length cap
  have hc0 := hc.below hb0 (Nat.le_refl _)
  have HR := hideK (runM_range v f s c cap is ic ins fuel (w.alloc (.cells #[.int .i64 (v : Int), .int .i64 (f : Int), .slice s c.length cap] 24)) hc0 h0 (.inl hf))
  have HBG := hideK hbg
  have HCK := hideK (fun wx hx => checkProgram_any (v : Int) (f : Int) s cap c wx hx)
  rw [h0] at HCK
  clear hbg
  go_enter Tryd.func7, Tryd.ntmps7
  go_wp2_with (go_at_call 27; fail)
  generalize (w.alloc (.cells #[.int .i64 (v : Int), .int .i64 (f : Int), .slice s c.length cap] 24)) = w0 at *
  refine HR.out.mono ?_
  rintro e w1 ⟨rfl, hb1⟩
  clear HR
  have hb2 : Below w0.heap.size w0 (w1.alloc (.cells #[.int .i64 0, .slice none 0 0, .slice none 0 0, .int .i64 0, .slice none 0 0, .int .i64 0] 46)) := hb1.alloc hb1.size _
  have P2 := P0.call hb2
  have Q2 := R6.new w1 46 (.int .i64 0) (.slice none 0 0) (.slice none 0 0) (.int .i64 0) (.slice none 0 0) (.int .i64 0)
  have hc2 := hc0.below hb2 (Nat.le_refl _)
  have H2 := hb0.trans (hb2.mono hb0.size)
  go_upto_region 2 with fail
  generalize (w1.alloc (.cells #[.int .i64 0, .slice none 0 0, .slice none 0 0, .int .i64 0, .slice none 0 0, .int .i64 0] 46)) = w2 at *
  obtain ⟨⟨p0, p1, p2⟩, pz⟩ := id P2
  go_wp2_with (go_at_call 10; fail)
  refine (HCK.out _ hc2).mono ?_
  rintro e w3 ⟨rfl, hb3⟩
  clear p0 p1 p2 pz
  have H3 := H2.trans (hb3.mono H2.size)
  have Q3 := (Q2.call hb3).call (w' := w3.alloc (.cells #[.int .i64 0, .slice none 0 0, .slice none 0 0, .int .i64 0, .slice none 0 0, .int .i64 0] 46)) (by go_grown)
  have Y3 := R6.new w3 46 (.int .i64 0) (.slice none 0 0) (.slice none 0 0) (.int .i64 0) (.slice none 0 0) (.int .i64 0)
  have H4 : Below w.heap.size w (w3.alloc (.cells #[.int .i64 0, .slice none 0 0, .slice none 0 0, .int .i64 0, .slice none 0 0, .int .i64 0] 46)) := H3.alloc H3.size _
  go_upto_region 9 with fail
  generalize (w3.alloc (.cells #[.int .i64 0, .slice none 0 0, .slice none 0 0, .int .i64 0, .slice none 0 0, .int .i64 0] 46)) = w4 at *
  go_wp2_with (go_at_call 24; fail)
  refine (HBG.out _ (hT.below H4)).mono ?_
  rintro e w5 ⟨rfl, hb5⟩
  have H5 := H4.trans (hb5.mono H4.size)
  obtain ⟨⟨r0, r1, r2, r3, r4, r5⟩, rz, -⟩ := id (Q3.call hb5)
  obtain ⟨⟨y0, y1, y2, y3, y4, y5⟩, yz, -⟩ := id (Y3.call hb5)
  have HI := hideK (runIs_err 3 zeroSt none 0 none 0 none 0 w5 (by rfl))
  unfold runV zeroSt at HI
  simp only [List.length_nil] at HI
  clear Q2 Q3 Y3 P2 hc2 H2 H3 H4 hb5 hb3 hb2 hb1
  go_wp2_with (go_at_call 26; fail)
  refine HI.out.mono ?_
  rintro e w6 ⟨rfl, hb6⟩
  go_wp2
  go_ret
  exact ⟨rfl, H5.trans (hb6.mono H5.size)⟩

set_option maxHeartbeats 2000000 in
set_option maxRecDepth 20000 in
theorem runRuns_high (v f : Nat) (s : Option Addr) (c : List Ins) (cap : Nat) (is : Option Addr) (ic : Nat) (ins : List Int) (fuel : Int) (w : World) (hc : CodeAt w s c) (hT : Tab w) (h0 : ckProg v f c = 0) (hf : 5000 < fuel) (hbg : ∀ wx, Tab wx → Calls Tryd.prog 24 #[] wx fun e w' => e = .returned (.bool true) ∧ Below wx.heap.size wx w') :
    Calls Tryd.prog 7 #[.agg #[.int .i64 (v : Int), .int .i64 (f : Int), .slice s c.length cap], .slice is ins.length ic, .int .i64 fuel] w fun e w' => e = .returned (.bool true) ∧ Below w.heap.size w w' := by
  have hb0 : Below w.heap.size w (w.alloc (.cells #[.int .i64 (v : Int), .int .i64 (f : Int), .slice s c.length cap] 24)) := by go_grown
  have P0 := P3.new w (v : Int) (f : Int) s c.length cap
  have hc0 := hc.below hb0 (Nat.le_refl _)
  have HR := hideK (runM_range v f s c cap is ic ins fuel (w.alloc (.cells #[.int .i64 (v : Int), .int .i64 (f : Int), .slice s c.length cap] 24)) hc0 h0 (.inr hf))
  have HBG := hideK hbg
  have HCK := hideK (fun wx hx => checkProgram_any (v : Int) (f : Int) s cap c wx hx)
  rw [h0] at HCK
  have hf0 : ¬ (fuel < 0) := by omega
  clear hbg
  go_enter Tryd.func7, Tryd.ntmps7
  go_wp2_with (go_at_call 27; fail)
  generalize (w.alloc (.cells #[.int .i64 (v : Int), .int .i64 (f : Int), .slice s c.length cap] 24)) = w0 at *
  refine HR.out.mono ?_
  rintro e w1 ⟨rfl, hb1⟩
  clear HR
  have hb2 : Below w0.heap.size w0 (w1.alloc (.cells #[.int .i64 0, .slice none 0 0, .slice none 0 0, .int .i64 0, .slice none 0 0, .int .i64 0] 46)) := hb1.alloc hb1.size _
  have P2 := P0.call hb2
  have Q2 := R6.new w1 46 (.int .i64 0) (.slice none 0 0) (.slice none 0 0) (.int .i64 0) (.slice none 0 0) (.int .i64 0)
  have hc2 := hc0.below hb2 (Nat.le_refl _)
  have H2 := hb0.trans (hb2.mono hb0.size)
  go_upto_region 2 with fail
  generalize (w1.alloc (.cells #[.int .i64 0, .slice none 0 0, .slice none 0 0, .int .i64 0, .slice none 0 0, .int .i64 0] 46)) = w2 at *
  obtain ⟨⟨p0, p1, p2⟩, pz⟩ := id P2
  go_wp2_with (go_at_call 10; fail)
  refine (HCK.out _ hc2).mono ?_
  rintro e w3 ⟨rfl, hb3⟩
  clear p0 p1 p2 pz
  have H3 := H2.trans (hb3.mono H2.size)
  have Q3 := (Q2.call hb3).call (w' := w3.alloc (.cells #[.int .i64 0, .slice none 0 0, .slice none 0 0, .int .i64 0, .slice none 0 0, .int .i64 0] 46)) (by go_grown)
  have Y3 := R6.new w3 46 (.int .i64 0) (.slice none 0 0) (.slice none 0 0) (.int .i64 0) (.slice none 0 0) (.int .i64 0)
  have H4 : Below w.heap.size w (w3.alloc (.cells #[.int .i64 0, .slice none 0 0, .slice none 0 0, .int .i64 0, .slice none 0 0, .int .i64 0] 46)) := H3.alloc H3.size _
  go_upto_region 9 with fail
  generalize (w3.alloc (.cells #[.int .i64 0, .slice none 0 0, .slice none 0 0, .int .i64 0, .slice none 0 0, .int .i64 0] 46)) = w4 at *
  go_wp2_with (go_at_call 24; fail)
  refine (HBG.out _ (hT.below H4)).mono ?_
  rintro e w5 ⟨rfl, hb5⟩
  have H5 := H4.trans (hb5.mono H4.size)
  obtain ⟨⟨r0, r1, r2, r3, r4, r5⟩, rz, -⟩ := id (Q3.call hb5)
  obtain ⟨⟨y0, y1, y2, y3, y4, y5⟩, yz, -⟩ := id (Y3.call hb5)
  have HI := hideK (runIs_err 3 zeroSt none 0 none 0 none 0 w5 (by rfl))
  unfold runV zeroSt at HI
  simp only [List.length_nil] at HI
  clear Q2 Q3 Y3 P2 hc2 H2 H3 H4 hb5 hb3 hb2 hb1
  go_wp2_with (go_at_call 26; fail)
  refine HI.out.mono ?_
  rintro e w6 ⟨rfl, hb6⟩
  go_wp2
  go_ret
  exact ⟨rfl, H5.trans (hb6.mono H5.size)⟩
end Go.Proofs.YtmapdpcfanecdaaDoor
