/- Walks over values of runs: is it one? -/
import Derived.Test.YtmapdpcfanecdaaDoorKlawrsp21
import Derived.Test.YtmapdpcfanecdaaDoorKlawrsp25
import Derived.Test.YtmapdpcfanecdaaDoorKlawrsp16
import Derived.Test.YtmapdpcfanecdaaDoorKlawrsp14
import Derived.Test.YtmapdpcfanecdaaDoorKlawrsp15
import Derived.Test.YtmapdpcfanecdaaDoorKlawrsp11
import Derived.Test.YtmapdpcfanecdaaDoorKlawrsp26
import Derived.Test.YtmapdpcfanecdaaDoorKlawrsp03
import Derived.Test.YtmapdpcfanecdaaDoorKlawrsp09
namespace Go.Proofs.YtmapdpcfanecdaaDoor
set_option linter.unusedVariables false
set_option linter.unusedSimpArgs false

theorem stepsSt_done {F : Int} {c : List Ins} {ins : List Int} {n : Nat} {r : St} (h : n = 0 ∨ r.fin ≠ 0) : stepsSt F c ins n r = (r, 0) := by
  cases n with
  | zero => rfl
  | succ n => unfold stepsSt; rw [if_pos (by rcases h with h | h; exact absurd h (by omega); exact h)]
theorem stepsSt_go {F : Int} {c : List Ins} {ins : List Int} {n : Nat} {r : St} (h : r.fin = 0) : stepsSt F c ins (n + 1) r = ((stepsSt F c ins n (stepSt F c ins r)).1, (stepsSt F c ins n (stepSt F c ins r)).2 + 1) := by
  rw [stepsSt.eq_def]
  simp [h]
theorem effSt_lines (F : Int) (ins : List Int) (r : St) (i : Ins) (a b : Val) : (effSt F ins r i a b).lines.length ≤ r.lines.length + 1 := by
  have h : ∀ q : St, q.lines.length ≤ r.lines.length + 1 → (if nTo i.k then putVar q i.to (makes r ins i a b) else q).lines.length ≤ r.lines.length + 1 := fun q h => by split <;> exact h
  unfold effSt
  simp only
  apply h
  split
  · simp
  split
  · simp [putField]
  split
  · simp
  split
  · simp
  · simp
theorem effSt_taken (F : Int) (ins : List Int) (r : St) (i : Ins) (a b : Val) (h0 : 0 ≤ r.taken) (h1 : r.taken < 9223372036854775807) : (effSt F ins r i a b).taken ≤ r.taken + 1 := by
  have h : ∀ q : St, q.taken ≤ r.taken + 1 → (if nTo i.k then putVar q i.to (makes r ins i a b) else q).taken ≤ r.taken + 1 := fun q h => by split <;> exact h
  unfold effSt
  simp only
  apply h
  split
  · simp only; omega
  split
  · simp only [putField]; omega
  split
  · simp only; rw [w64_of (by omega) (by omega)]; omega
  split
  · simp only; omega
  · omega
theorem stepSt_lines (F : Int) (c : List Ins) (ins : List Int) (r : St) : (stepSt F c ins r).lines.length ≤ r.lines.length + 1 := by
  rw [stepSt_eq]
  split
  · omega
  split
  · simp
  split
  · simp
  · exact effSt_lines F ins r _ _ _
theorem stepSt_taken (F : Int) (c : List Ins) (ins : List Int) (r : St) (h0 : 0 ≤ r.taken) (h1 : r.taken < 9223372036854775807) : (stepSt F c ins r).taken ≤ r.taken + 1 := by
  rw [stepSt_eq]
  split
  · omega
  split
  · simp only; omega
  split
  · simp only; omega
  · exact effSt_taken F ins r _ _ _ h0 h1
theorem beginSt_ok {V F : Int} {c : List Ins} (hp : ProgOk V F c) : RunOk V F c (beginSt V) := by
  have := hp.v1
  refine ⟨by simp [beginSt], by simp [beginSt], by simp [beginSt], by simp [beginSt], by simp [beginSt], by simp [beginSt]; omega, by simp [beginSt], fun t ht => ?_, fun t ht => ?_, fun v hv => ?_, fun t ht => ?_⟩
  · simp [beginSt] at ht
  · simp [beginSt] at ht
  · simp only [beginSt] at hv
    rw [(List.mem_replicate.1 hv).2]
    exact okVal_zero
  · simp [beginSt] at ht
theorem runSt_of {V F : Int} {c : List Ins} {ins : List Int} {fuel k : Nat} {s : St} (h : stepsSt F c ins fuel (beginSt V) = (s, k)) : runSt V F c ins fuel = (if s.fin = 0 then { s with fin := 4 } else s, k) := by
  unfold runSt
  rw [h]
end Go.Proofs.YtmapdpcfanecdaaDoor

namespace Go.Proofs.YtmapdpcfanecdaaDoor
set_option linter.unusedVariables false
set_option linter.unusedSimpArgs false
open Go.RowKit
attribute [local go_sem ↓] Go.wp_at_zero Go.wp_at_succ

/-- What is known at the head of a round of the run's loop. -/
structure RunRound (w0 wr : World) (m : Nat) (v f : Nat) (c : List Ins) (ins : List Int) (fuel k : Nat) (st : St) (s : Option Addr) (cap : Nat) (is : Option Addr) (ic : Nat) : Prop where
  own : ∃ vv tv lv fv, OwnRun wr w0.heap.size m st vv tv lv fv
  low : Below w0.heap.size w0 wr
  c7 : wr.cell? ⟨m, 7, none⟩ = some (.int .i64 f)
  c8 : wr.cell? ⟨m, 8, none⟩ = some (.slice s c.length cap)
  c9 : wr.cell? ⟨m, 9, none⟩ = some (.slice is ins.length ic)
  ok : RunOk v f c st
  le : k ≤ fuel
  rel : stepsSt f c ins fuel (beginSt v) = ((stepsSt f c ins (fuel - k) st).1, (stepsSt f c ins (fuel - k) st).2 + k)
  lines : st.lines.length ≤ k
  taken : st.taken ≤ k
theorem RunRound.next {w0 wr w' : World} {m v f : Nat} {c : List Ins} {ins : List Int} {fuel k : Nat} {st : St} {s : Option Addr} {cap : Nat} {is : Option Addr} {ic : Nat} {bs : List (Option Nat)} (h : RunRound w0 wr m v f c ins fuel k st s cap is ic) (hp : ProgOk v f c) (hf : st.fin = 0) (hk : k < fuel) (hf5 : fuel ≤ 5000) (hs : MStep wr w' w0.heap.size m bs (stepSt f c ins st)) : RunRound w0 w' m v f c ins fuel (k + 1) (stepSt f c ins st) s cap is ic := by
  have ht := h.taken
  have hl := h.lines
  refine ⟨hs.1, h.low.trans hs.2.1, by rw [hs.2.2.1 7 (by omega)]; exact h.c7, by rw [hs.2.2.1 8 (by omega)]; exact h.c8, by rw [hs.2.2.1 9 (by omega)]; exact h.c9, stepSt_ok ins hp h.ok (by omega), hk, ?_, ?_, ?_⟩
  · rw [h.rel, show fuel - k = (fuel - (k + 1)) + 1 by omega, stepsSt_go hf]
    simp only [Prod.mk.injEq, true_and]
    omega
  · have := stepSt_lines f c ins st; omega
  · have := stepSt_taken f c ins st h.ok.tk (by omega); omega
set_option maxHeartbeats 4000000 in
set_option maxRecDepth 20000 in
theorem runM_ok (v f : Nat) (s : Option Addr) (c : List Ins) (cap : Nat) (is : Option Addr) (ic : Nat) (ins : List Int) (fuel : Nat) (w : World) (hc : CodeAt w s c) (hI : IntsAt w is ins) (hT : Tab w) (h0 : ckProg v f c = 0) (hf5 : fuel ≤ 5000) :
    Calls Tryd.prog 27 #[.agg #[.int .i64 (v : Int), .int .i64 (f : Int), .slice s c.length cap], .slice is ins.length ic, .int .i64 (fuel : Int)] w fun e w' => ∃ vv tv lv fv, e = .returned (.tuple #[.agg #[.int .i64 (runSt v f c ins fuel).1.at_, vv, tv, .int .i64 (runSt v f c ins fuel).1.taken, lv, .int .i64 (runSt v f c ins fuel).1.fin], .int .i64 (runSt v f c ins fuel).2, .int .i64 0]) ∧ OwnRows w' w.heap.size (runSt v f c ins fuel).1 vv tv lv fv ∧ RunOk v f c (runSt v f c ins fuel).1 ∧ (runSt v f c ins fuel).1.lines.length ≤ 5000 ∧ Below w.heap.size w w' := by
  have hp := progOk_of h0
  have hv8 : v ≤ 8 := by have := hp.v8; omega
  have hb0 : Below w.heap.size w ((w.alloc (.cells #[.int .i64 (v : Int), .int .i64 (f : Int), .slice s c.length cap] 24)).alloc (.cells #[.int .i64 0, .slice none 0 0, .slice none 0 0, .int .i64 0, .slice none 0 0, .int .i64 0] 46)) := by go_grown
  have Z0 := R6.new (w.alloc (.cells #[.int .i64 (v : Int), .int .i64 (f : Int), .slice s c.length cap] 24)) 46 (.int .i64 0) (.slice none 0 0) (.slice none 0 0) (.int .i64 0) (.slice none 0 0) (.int .i64 0)
  rw [World.size_alloc] at Z0
  have hc0 := hc.below hb0 (Nat.le_refl _)
  have hI0 := hI.below hb0 (Nat.le_refl _)
  have hT0 := hT.below hb0
  have HB := hideK (begin_ok v f s c cap ((w.alloc (.cells #[.int .i64 (v : Int), .int .i64 (f : Int), .slice s c.length cap] 24)).alloc (.cells #[.int .i64 0, .slice none 0 0, .slice none 0 0, .int .i64 0, .slice none 0 0, .int .i64 0] 46)) hc0 h0)
  have p0 : ((w.alloc (.cells #[.int .i64 (v : Int), .int .i64 (f : Int), .slice s c.length cap] 24)).alloc (.cells #[.int .i64 0, .slice none 0 0, .slice none 0 0, .int .i64 0, .slice none 0 0, .int .i64 0] 46)).cell? ⟨w.heap.size, 0, none⟩ = some (.int .i64 v) := by simp [go_sem]
  have p1 : ((w.alloc (.cells #[.int .i64 (v : Int), .int .i64 (f : Int), .slice s c.length cap] 24)).alloc (.cells #[.int .i64 0, .slice none 0 0, .slice none 0 0, .int .i64 0, .slice none 0 0, .int .i64 0] 46)).cell? ⟨w.heap.size, 1, none⟩ = some (.int .i64 f) := by simp [go_sem]
  have p2 : ((w.alloc (.cells #[.int .i64 (v : Int), .int .i64 (f : Int), .slice s c.length cap] 24)).alloc (.cells #[.int .i64 0, .slice none 0 0, .slice none 0 0, .int .i64 0, .slice none 0 0, .int .i64 0] 46)).cell? ⟨w.heap.size, 2, none⟩ = some (.slice s c.length cap) := by simp [go_sem]
  have hzw : ((w.alloc (.cells #[.int .i64 (v : Int), .int .i64 (f : Int), .slice s c.length cap] 24)).alloc (.cells #[.int .i64 0, .slice none 0 0, .slice none 0 0, .int .i64 0, .slice none 0 0, .int .i64 0] 46)).heap.size = w.heap.size + 1 + 1 := by simp
  have HQ := hideK hp
  clear hc hI hT h0 hp
  go_enter Tryd.func27, Tryd.ntmps27
  go_wp2_with (go_at_call 19; fail)
  generalize ((w.alloc (.cells #[.int .i64 (v : Int), .int .i64 (f : Int), .slice s c.length cap] 24)).alloc (.cells #[.int .i64 0, .slice none 0 0, .slice none 0 0, .int .i64 0, .slice none 0 0, .int .i64 0] 46)) = w0 at *
  refine HB.out.mono ?_
  rintro e w1 ⟨g, rfl, hown, hb1⟩
  clear HB
  rw [made_zero v hv8] at hown
  have hz1 : w0.heap.size ≤ w1.heap.size := hb1.size
  have H2 : Below w0.heap.size w0 (w1.alloc (.cells #[.int .i64 0, .slice (some ⟨g, 0, none⟩) v v, .slice none 0 0, .int .i64 0, .slice none 0 0, .int .i64 0] 46)) := hb1.alloc hz1 _
  have H3 : Below w0.heap.size w0 ((w1.alloc (.cells #[.int .i64 0, .slice (some ⟨g, 0, none⟩) v v, .slice none 0 0, .int .i64 0, .slice none 0 0, .int .i64 0] 46)).alloc (.cells #[.int .i64 0, .slice (some ⟨g, 0, none⟩) v v, .slice none 0 0, .int .i64 0, .slice none 0 0, .int .i64 0, .int .i64 v, .int .i64 f, .slice s c.length cap, .slice is ins.length ic] 92)) := H2.alloc (by simp; omega) _
  have R1 := begin_rows hv8 hown
  have R3 := R1.below (w' := (w1.alloc (.cells #[.int .i64 0, .slice (some ⟨g, 0, none⟩) v v, .slice none 0 0, .int .i64 0, .slice none 0 0, .int .i64 0] 46)).alloc (.cells #[.int .i64 0, .slice (some ⟨g, 0, none⟩) v v, .slice none 0 0, .int .i64 0, .slice none 0 0, .int .i64 0, .int .i64 v, .int .i64 f, .slice s c.length cap, .slice is ins.length ic] 92)) (by go_grown)
  have C3 : RunCells ((w1.alloc (.cells #[.int .i64 0, .slice (some ⟨g, 0, none⟩) v v, .slice none 0 0, .int .i64 0, .slice none 0 0, .int .i64 0] 46)).alloc (.cells #[.int .i64 0, .slice (some ⟨g, 0, none⟩) v v, .slice none 0 0, .int .i64 0, .slice none 0 0, .int .i64 0, .int .i64 v, .int .i64 f, .slice s c.length cap, .slice is ins.length ic] 92)) (w1.heap.size + 1) (beginSt v) (.slice (some ⟨g, 0, none⟩) v v) (.slice none 0 0) (.slice none 0 0) := by
    refine ⟨⟨?_, ?_, ?_, ?_, ?_, ?_⟩, fun j => ?_⟩ <;> simp [go_sem, beginSt]
  have O3 := R3.run' C3 (by omega) (fun hm => by have := (R1.lt hm).1; omega)
  have RR : RunRound w0 ((w1.alloc (.cells #[.int .i64 0, .slice (some ⟨g, 0, none⟩) v v, .slice none 0 0, .int .i64 0, .slice none 0 0, .int .i64 0] 46)).alloc (.cells #[.int .i64 0, .slice (some ⟨g, 0, none⟩) v v, .slice none 0 0, .int .i64 0, .slice none 0 0, .int .i64 0, .int .i64 v, .int .i64 f, .slice s c.length cap, .slice is ins.length ic] 92)) (w1.heap.size + 1) v f c ins fuel 0 (beginSt v) s cap is ic :=
    ⟨⟨_, _, _, _, O3⟩, H3, by simp [go_sem], by simp [go_sem], by simp [go_sem], beginSt_ok HQ.out, Nat.zero_le _, by simp, by simp [beginSt], by simp [beginSt]⟩
  have nf0 : ¬ ((fuel : Int) < 0) := by omega
  have hl0 : w.heap.size < w1.heap.size := by omega
  have hl1 : w.heap.size + 1 < w1.heap.size := by omega
  have nf5 : ¬ (5000 < (fuel : Int)) := by omega
  have q0 : w1.cell? ⟨w.heap.size, 0, none⟩ = some (.int .i64 v) := by rw [hb1.cell (by simp; omega)]; exact p0
  have q1 : w1.cell? ⟨w.heap.size, 1, none⟩ = some (.int .i64 f) := by rw [hb1.cell (by simp; omega)]; exact p1
  have q2 : w1.cell? ⟨w.heap.size, 2, none⟩ = some (.slice s c.length cap) := by rw [hb1.cell (by simp; omega)]; exact p2
  have HRR := hideK RR
  clear R1 R3 C3 O3 H2 H3 hown p0 p1 p2 RR
  go_wp2

  generalize (w1.alloc (.cells #[.int .i64 0, .slice (some ⟨g, 0, none⟩) v v, .slice none 0 0, .int .i64 0, .slice none 0 0, .int .i64 0] 46)).alloc (.cells #[.int .i64 0, .slice (some ⟨g, 0, none⟩) v v, .slice none 0 0, .int .i64 0, .slice none 0 0, .int .i64 0, .int .i64 v, .int .i64 f, .slice s c.length cap, .slice is ins.length ic] 92) = w3 at *
  go_loopw [12] (fun i wr => ∃ (k : Nat) (st : St), i = .int .i64 k ∧ RunRound w0 wr (w1.heap.size + 1) v f c ins fuel k st s cap is ic) (fun i _ => fuel - (intOf i).toNat)
  case atStart => exact ⟨0, _, rfl, HRR.out⟩
  case round =>
    obtain ⟨k, st, rfl, hR⟩ := hrel
    obtain ⟨vv, tv, lv, fv, O⟩ := hR.own
    obtain ⟨vs, vc, ts, tc, ls, lc, rfl, rfl, rfl, -⟩ := O.rows.at
    have l5 := O.fin_
    have hkf := hR.le
    by_cases hfin : st.fin = 0
    · by_cases hlt : k < fuel
      · have n1 : (k : Int) < (fuel : Int) := by omega
        rw [hfin] at l5
        have HS := hideK (stepM_any v f c st HQ.out hR.ok ins (w1.heap.size + 1) w0.heap.size (.slice vs st.vars.length vc) (.slice ts st.things.length tc) (.slice ls st.lines.length lc) fv s cap is ic wr O hR.low.size hR.c7 hR.c8 hR.c9 (hc0.below hR.low (Nat.le_refl _)) (hI0.below hR.low (Nat.le_refl _)) (hT0.below hR.low) (by have := hR.lines; omega))
        have HN := hideK (fun (w' : World) (bs : List (Option Nat)) (hs : MStep wr w' w0.heap.size (w1.heap.size + 1) bs (stepSt f c ins st)) => hR.next HQ.out hfin hlt hf5 hs)
        clear O hR
        go_wp2_with (go_at_call 48; fail)
        refine HS.out.mono ?_
        rintro e w5 ⟨rfl, hms⟩
        have HR5 := hideK (HN.out _ _ hms)
        clear HS HN hms
        go_wp2
        go_roundw
        case rel => exact ⟨k + 1, _, by go_num, HR5.out⟩
        case measure => simp [intOf]; omega
      · have hkk : k = fuel := by omega
        subst hkk
        rw [hfin] at l5
        have HX := hideK (And.intro O hR)
        have HE : Hid (runSt v f c ins k = ({ st with fin := 4 }, k)) := by
          show _ = _
          rw [runSt_of (s := st) (k := k) (by rw [hR.rel, Nat.sub_self, stepsSt_done (.inl rfl)]; simp), if_pos hfin]
        have d5 := O.thaw 5
        have O4 := O.withFin 4
        have Z5 := ((Z0.below hR.low Z0.2.1).same (w' := wr.setCell ⟨w1.heap.size + 1, 5, none⟩ (.int .i64 4)) (Below.heap_setCell _ _ _ _ (by simp; omega)) (by simp [World.setCell]))
        obtain ⟨⟨r0, r1, r2, r3, r4, r5⟩, rz, rf⟩ := id (Z0.below hR.low Z0.2.1)
        have g0 := rf 0
        have g1 := rf 1
        have g2 := rf 2
        have g3 := rf 3
        have g4 := rf 4
        have g5 := rf 5
        obtain ⟨⟨m0, m1, m2, m3, m4, m5⟩, mz, mf⟩ := id O.r6
        rw [hfin] at m5
        have hbne : w.heap.size ≠ w1.heap.size := by omega
        have hbne' : w1.heap.size ≠ w.heap.size := by omega
        have Z6 := Z5.put (.int .i64 st.at_) (.slice vs st.vars.length vc) (.slice ts st.things.length tc) (.int .i64 st.taken) (.slice ls st.lines.length lc) (.int .i64 4)
        obtain ⟨⟨s0, s1, s2, s3, s4, s5⟩, sz, sf⟩ := id Z6
        have R6' := (O4.rows.set6 (b := w.heap.size + 1) (by omega) (.int .i64 st.at_) (.slice vs st.vars.length vc) (.slice ts st.things.length tc) (.int .i64 st.taken) (.slice ls st.lines.length lc) (.int .i64 4)).down (show w.heap.size ≤ w0.heap.size by omega)
        have HL : Below w.heap.size w (set6 (wr.setCell ⟨w1.heap.size + 1, 5, none⟩ (.int .i64 4)) (w.heap.size + 1) (.int .i64 st.at_) (.slice vs st.vars.length vc) (.slice ts st.things.length tc) (.int .i64 st.taken) (.slice ls st.lines.length lc) (.int .i64 4)) := below_set6 ((hb0.trans (hR.low.mono (by omega))).setCell (by simp; omega) _) (by omega) _ _ _ _ _ _
        have HY := hideK (And.intro R6' (And.intro HL (hR.ok.finish 4 (by omega) (by omega))))
        have hln := hR.lines
        clear O hR O4 Z5 Z6 R6' HL HX
        go_wp2
        refine bodyPost_ret (v := .tuple #[.agg #[.int .i64 st.at_, .slice vs st.vars.length vc, .slice ts st.things.length tc, .int .i64 st.taken, .slice ls st.lines.length lc, .int .i64 4], .int .i64 k, .int .i64 0]) (by simp [results, Tryd.results27, go_sem, r0, r1, r2, r3, r4, r5]) rfl ?_
        rw [HE.out]
        exact ⟨_, _, _, fv, rfl, HY.out.1, HY.out.2.2, by show st.lines.length ≤ 5000; omega, HY.out.2.1⟩
    · have b5 : (st.fin == 0) = false := by simpa using hfin
      have HE : Hid (runSt v f c ins fuel = (st, k)) := by
        show _ = _
        rw [runSt_of (s := st) (k := k) (by rw [hR.rel, stepsSt_done (.inr hfin)]; simp), if_neg hfin]
      have Z5 := Z0.below hR.low Z0.2.1
      obtain ⟨⟨r0, r1, r2, r3, r4, r5⟩, rz, rf⟩ := id Z5
      have g0 := rf 0
      have g1 := rf 1
      have g2 := rf 2
      have g3 := rf 3
      have g4 := rf 4
      have g5 := rf 5
      obtain ⟨⟨m0, m1, m2, m3, m4, m5⟩, mz, mf⟩ := id O.r6
      have Z6 := Z5.put (.int .i64 st.at_) (.slice vs st.vars.length vc) (.slice ts st.things.length tc) (.int .i64 st.taken) (.slice ls st.lines.length lc) (.int .i64 st.fin)
      obtain ⟨⟨s0, s1, s2, s3, s4, s5⟩, sz, sf⟩ := id Z6
      have R6' := (O.rows.set6 (b := w.heap.size + 1) (by omega) (.int .i64 st.at_) (.slice vs st.vars.length vc) (.slice ts st.things.length tc) (.int .i64 st.taken) (.slice ls st.lines.length lc) (.int .i64 st.fin)).down (show w.heap.size ≤ w0.heap.size by omega)
      have HL : Below w.heap.size w (set6 wr (w.heap.size + 1) (.int .i64 st.at_) (.slice vs st.vars.length vc) (.slice ts st.things.length tc) (.int .i64 st.taken) (.slice ls st.lines.length lc) (.int .i64 st.fin)) := below_set6 (hb0.trans (hR.low.mono (by omega))) (by omega) _ _ _ _ _ _
      have HY := hideK (And.intro R6' (And.intro HL hR.ok))
      have hln := hR.lines
      clear O hR Z5 Z6 R6' HL
      go_wp2
      refine bodyPost_ret (v := .tuple #[.agg #[.int .i64 st.at_, .slice vs st.vars.length vc, .slice ts st.things.length tc, .int .i64 st.taken, .slice ls st.lines.length lc, .int .i64 st.fin], .int .i64 k, .int .i64 0]) (by simp [results, Tryd.results27, go_sem, r0, r1, r2, r3, r4, r5]) rfl ?_
      rw [HE.out]
      exact ⟨_, _, _, fv, rfl, HY.out.1, HY.out.2.2, by show st.lines.length ≤ 5000; omega, HY.out.2.1⟩
end Go.Proofs.YtmapdpcfanecdaaDoor

namespace Go.Proofs.YtmapdpcfanecdaaDoor
set_option linter.unusedVariables false
set_option linter.unusedSimpArgs false
open Go.RowKit

/-- No run. -/
def zeroSt : St := ⟨0, [], [], 0, [], 0⟩
theorem zeroSt_at (w : World) : RunAt w zeroSt none none none := ⟨.inl rfl, .inl rfl, .inl rfl⟩
theorem zeroSt_len : LenSt zeroSt := ⟨by simp [zeroSt], by simp [zeroSt], by simp [zeroSt], fun t ht => by simp [zeroSt] at ht⟩

set_option maxHeartbeats 2000000 in
set_option maxRecDepth 10000 in
theorem runIs_ok (r : St) (vs1 : Option Addr) (vc1 : Nat) (ts1 : Option Addr) (tc1 : Nat) (ls1 : Option Addr) (lc1 : Nat) (vs2 : Option Addr) (vc2 : Nat) (ts2 : Option Addr) (tc2 : Nat) (ls2 : Option Addr) (lc2 : Nat) (w : World) (hl : LenSt r) (h1 : RunAt w r vs1 ts1 ls1) (h2 : RunAt w r vs2 ts2 ls2) :
    Calls Tryd.prog 26 #[runV r vs1 vc1 ts1 tc1 ls1 lc1, .int .i64 0, .int .i64 0, runV r vs2 vc2 ts2 tc2 ls2 lc2] w fun e w' => e = .returned (.bool true) ∧ Below w.heap.size w w' := by
  have HS : Hid (∀ wx, Below w.heap.size w wx → Calls Tryd.prog 59 #[runV r vs1 vc1 ts1 tc1 ls1 lc1, runV r vs2 vc2 ts2 tc2 ls2 lc2] wx fun e w' => e = .returned (.bool true) ∧ Below wx.heap.size wx w') := fun wx hx => sameRun_any r vs1 vc1 ts1 tc1 ls1 lc1 vs2 vc2 ts2 tc2 ls2 lc2 wx hl (h1.below hx (Nat.le_refl _)) (h2.below hx (Nat.le_refl _))
  clear hl h1 h2
  unfold runV at HS ⊢
  go_enter Tryd.func26, Tryd.ntmps26
  go_wp2_with (go_at_call 59; fail)
  refine (HS.out _ (by go_grown)).mono ?_
  rintro e w1 ⟨rfl, hb1⟩
  go_wp2
  go_ret
  exact ⟨rfl, Below.trans (by go_grown) (hb1.mono (by simp; omega))⟩

end Go.Proofs.YtmapdpcfanecdaaDoor

namespace Go.Proofs.YtmapdpcfanecdaaDoor
set_option linter.unusedVariables false
set_option linter.unusedSimpArgs false
open Go.RowKit

/-- A run, and the errno beside it. -/
def RunE (w' : World) (e : Ending) (st : St) (er : Int) : Prop := ∃ vs vc ts tc ls lc, e = .returned (.tuple #[.agg #[.int .i64 st.at_, .slice vs st.vars.length vc, .slice ts st.things.length tc, .int .i64 st.taken, .slice ls st.lines.length lc, .int .i64 st.fin], .int .i64 er]) ∧ RunAt w' st vs ts ls
def begOf (V F : Int) (c : List Ins) : St := if ckProg V F c = 0 then beginSt V else zeroSt
def stpOf (V F : Int) (c : List Ins) (ins : List Int) (r : St) : St := if ckBoth V F c r = 0 then stepSt F c ins r else zeroSt
theorem OwnRows.runAt {w : World} {B : Nat} {st : St} {cv ct cl : Option Addr} {n1 n2 n3 cvc ctc clc : Nat} {fv : List Value} (h : OwnRows w B st (.slice cv n1 cvc) (.slice ct n2 ctc) (.slice cl n3 clc) fv) : RunAt w st cv ct cl := by
  obtain ⟨_, _, _, _, _, _, e1, e2, e3, h1⟩ := h.at
  cases e1
  cases e2
  cases e3
  exact h1
theorem beginU (V F : Int) (s : Option Addr) (c : List Ins) (cap : Nat) (w : World) (hc : CodeAt w s c) :
    Calls Tryd.prog 19 #[.agg #[.int .i64 V, .int .i64 F, .slice s c.length cap]] w fun e w' => RunE w' e (begOf V F c) (ckProg V F c) ∧ Below w.heap.size w w' := by
  unfold begOf
  by_cases h0 : ckProg V F c = 0
  · have hp := progOk_of h0
    have hv8 := hp.v8
    obtain ⟨v, rfl⟩ := Int.eq_ofNat_of_zero_le (show 0 ≤ V by have := hp.v1; omega)
    refine (begin_ok v F s c cap w hc h0).mono ?_
    rintro e w' ⟨g, rfl, hown, hb⟩
    rw [made_zero v (by omega)] at hown
    obtain ⟨vs, vc, ts, tc, ls, lc, e1, e2, e3, hat⟩ := (begin_rows (by omega) hown).at
    rw [h0, if_pos rfl]
    refine ⟨⟨vs, vc, ts, tc, ls, lc, ?_, hat⟩, hb⟩
    rw [← e1, ← e2, ← e3]
    rfl
  · refine (begin_err V F s c cap w hc h0).mono ?_
    rintro e w' ⟨rfl, hb⟩
    rw [if_neg h0]
    exact ⟨⟨none, 0, none, 0, none, 0, rfl, zeroSt_at _⟩, hb⟩
theorem stepU (V F : Int) (s : Option Addr) (c : List Ins) (cap : Nat) (r : St) (vs : Option Addr) (vc : Nat) (ts : Option Addr) (tc : Nat) (ls : Option Addr) (lc : Nat) (is : Option Addr) (ic : Nat) (ins : List Int) (w : World) (hc : CodeAt w s c) (hl : LenSt r) (hr : RunAt w r vs ts ls) (hI : IntsAt w is ins) (hT : Tab w) (hln : (r.lines.length + 1) * 16 ≤ 140737488355328) :
    Calls Tryd.prog 20 #[.agg #[.int .i64 V, .int .i64 F, .slice s c.length cap], runV r vs vc ts tc ls lc, .slice is ins.length ic] w fun e w' => RunE w' e (stpOf V F c ins r) (ckBoth V F c r) ∧ Below w.heap.size w w' := by
  unfold stpOf
  by_cases h0 : ckBoth V F c r = 0
  · have hp0 : ckProg V F c = 0 := by
      unfold ckBoth at h0
      split at h0
      · assumption
      · exact h0
    have hp := progOk_of hp0
    obtain ⟨v, rfl⟩ := Int.eq_ofNat_of_zero_le (show 0 ≤ V by have := hp.v1; omega)
    obtain ⟨f, rfl⟩ := Int.eq_ofNat_of_zero_le hp.f0
    refine (runStep_ok v f s c cap r vs vc ts tc ls lc is ic ins w hc hl hr hI hT hln h0).mono ?_
    rintro e w' ⟨vv, tv, lv, fv, rfl, OR, hb⟩
    obtain ⟨vs2, vc2, ts2, tc2, ls2, lc2, rfl, rfl, rfl, hat⟩ := OR.at
    rw [h0, if_pos rfl]
    exact ⟨⟨_, _, _, _, _, _, rfl, hat⟩, hb⟩
  · refine (runStep_err V F s c cap r vs vc ts tc ls lc is ic ins w hc hl hr h0).mono ?_
    rintro e w' ⟨rfl, hb⟩
    rw [if_neg h0]
    exact ⟨⟨none, 0, none, 0, none, 0, rfl, zeroSt_at _⟩, hb⟩
end Go.Proofs.YtmapdpcfanecdaaDoor

namespace Go.Proofs.YtmapdpcfanecdaaDoor
set_option linter.unusedVariables false
set_option linter.unusedSimpArgs false
open Go.RowKit

theorem ret_boolR {a b : Bool} (h : a = b) : Ending.returned (.bool a) = .returned (.bool b) := by rw [h]

set_option maxHeartbeats 1000000 in
set_option maxRecDepth 10000 in
theorem isNewR_any (V F : Int) (s : Option Addr) (c : List Ins) (cap : Nat) (x : Int) (w : World) (hc : CodeAt w s c) (hl : c.length ≤ 60) :
    Calls Tryd.prog 77 #[.agg #[.int .i64 V, .int .i64 F, .slice s c.length cap], .int .i64 x] w fun e w' => e = .returned (.bool (isNew c x)) ∧ Below w.heap.size w w' := by
  have hl' : (c.length : Int) ≤ 60 := by omega
  by_cases hx : 0 ≤ x ∧ x ≤ (c.length : Int) - 1
  · have hb := btw_true hx.1 hx.2
    obtain ⟨k, rfl⟩ := Int.eq_ofNat_of_zero_le hx.1
    have hk : k < c.length := by omega
    have hg : Below w.heap.size w (w.alloc (.cells #[.int .i64 V, .int .i64 F, .slice s c.length cap] 24)) := by go_grown
    have CA := hc.below hg (Nat.le_refl _)
    rcases CA with CA | ⟨b, off, rfl, hbl, hi⟩
    · rw [CA] at hk; simp at hk
    · obtain ⟨i0, -, -, -, -, -⟩ := hi k hk
      have HR : Hid (isNew c k = decide (c[k].k = 11)) := by
        show _ = _
        unfold isNew insAt
        rw [hb, Int.toNat_natCast, show c.getD k zeroIns = c[k] by simp [List.getD, List.getElem?_eq_getElem hk]]
        simp
      have n0 : (0 : Int) ≤ (k : Int) := by omega
      have n1 : (k : Int) < (c.length : Int) := by omega
      clear hi hc hx hg
      go_enter Tryd.func77, Tryd.ntmps77
      go_wp2_with (go_at_call 36; fail)
      refine (between_any _ _ _ _).mono ?_
      rintro e w1 ⟨rfl, rfl⟩
      rw [hb]
      go_wp2
      go_ret
      exact ⟨ret_boolR (by rw [HR.out]; first | rfl | (simp; done) | exact (Bool.beq_eq_decide_eq _ _)), by go_grown⟩
  · have hb : btw x 0 ((c.length : Int) - 1) = false := by simp [btw]; omega
    have HR : Hid (isNew c x = false) := by
      show _ = _
      unfold isNew
      rw [hb]
      rfl
    clear hc hx
    go_enter Tryd.func77, Tryd.ntmps77
    go_wp2_with (go_at_call 36; fail)
    refine (between_any _ _ _ _).mono ?_
    rintro e w1 ⟨rfl, rfl⟩
    rw [hb]
    go_wp2
    go_ret
    exact ⟨ret_boolR (by rw [HR.out]), by go_grown⟩
end Go.Proofs.YtmapdpcfanecdaaDoor

namespace Go.Proofs.YtmapdpcfanecdaaDoor
set_option linter.unusedVariables false
set_option linter.unusedSimpArgs false
open Go.RowKit

set_option maxHeartbeats 1000000 in
set_option maxRecDepth 10000 in
theorem isValueR_any (k n : Int) (T : Nat) (w : World) (hT : T ≤ 1000000) :
    Calls Tryd.prog 78 #[.agg #[.int .i64 k, .int .i64 n], .int .i64 T] w fun e w' => e = .returned (.bool (okValB T ⟨k, n⟩)) ∧ Below w.heap.size w w' := by
  have b0 : -9223372036854775808 ≤ (T : Int) - 1 := by omega
  have b1 : (T : Int) - 1 ≤ 9223372036854775807 := by omega
  by_cases h0 : k = 0
  · subst h0
    have e0 : okValB T ⟨0, n⟩ = decide (n = 0) := by simp [okValB]
    rw [e0]
    clear e0
    by_cases hn : n = 0
    · subst hn
      go_enter Tryd.func78, Tryd.ntmps78
      go_wp2_with (go_at_call 36; refine (between_any _ _ _ _).mono ?_; rintro e w' ⟨rfl, rfl⟩)
      go_ret
      exact ⟨rfl, by go_grown⟩
    · rw [decide_eq_false hn]
      have hb : (n == 0) = false := by simpa using hn
      clear hn
      go_enter Tryd.func78, Tryd.ntmps78
      go_wp2_with (go_at_call 36; refine (between_any _ _ _ _).mono ?_; rintro e w' ⟨rfl, rfl⟩)
      go_ret
      exact ⟨rfl, by go_grown⟩
  by_cases h1 : k = 1
  · subst h1
    have e0 : okValB T ⟨1, n⟩ = btw n (-2147483648) 2147483647 := by simp [okValB]
    rw [e0]
    clear e0
    go_enter Tryd.func78, Tryd.ntmps78
    go_wp2_with (go_at_call 36; refine (between_any _ _ _ _).mono ?_; rintro e w' ⟨rfl, rfl⟩)
    go_ret
    exact ⟨rfl, by go_grown⟩
  by_cases h2 : k = 2
  · subst h2
    have e0 : okValB T ⟨2, n⟩ = btw n 0 1 := by simp [okValB]
    rw [e0]
    clear e0
    go_enter Tryd.func78, Tryd.ntmps78
    go_wp2_with (go_at_call 36; refine (between_any _ _ _ _).mono ?_; rintro e w' ⟨rfl, rfl⟩)
    go_ret
    exact ⟨rfl, by go_grown⟩
  by_cases h3 : k = 3
  · subst h3
    have e0 : okValB T ⟨3, n⟩ = btw n 0 ((T : Int) - 1) := by simp [okValB]
    rw [e0]
    clear e0
    go_enter Tryd.func78, Tryd.ntmps78
    go_wp2_with (go_at_call 36; refine (between_any _ _ _ _).mono ?_; rintro e w' ⟨rfl, rfl⟩)
    go_ret
    exact ⟨rfl, by go_grown⟩
  have e0 : okValB T ⟨k, n⟩ = false := by simp [okValB, h0, h1, h2, h3]
  rw [e0]
  have q0 : (k == 0) = false := by simpa using h0
  have q1 : (k == 1) = false := by simpa using h1
  have q2 : (k == 2) = false := by simpa using h2
  have q3 : (k == 3) = false := by simpa using h3
  clear e0 h0 h1 h2 h3
  go_enter Tryd.func78, Tryd.ntmps78
  go_wp2
  go_ret
  exact ⟨rfl, by go_grown⟩
end Go.Proofs.YtmapdpcfanecdaaDoor
