/- Walks over package run: what the machine does, kind by kind. -/
import Derived.Test.YtmapdpcfanecdaaDoorKlawrrp09
import Derived.Test.YtmapdpcfanecdaaDoorKlawrrp28
import Derived.Test.YtmapdpcfanecdaaDoorKlawrrp32
import Derived.Deep.DeepCutAuto
import Derived.Laws.EntriesVeiled
namespace Go.Proofs.YtmapdpcfanecdaaDoor
set_option linter.unusedVariables false
set_option linter.unusedSimpArgs false
open Go.RowKit
attribute [local go_sem ↓] Go.wp_at_zero Go.wp_at_succ

set_option maxHeartbeats 4000000 in
set_option maxRecDepth 20000 in
theorem stepR_ended (v f : Nat) (s : Option Addr) (c : List Ins) (cap : Nat) (r : St) (vs : Option Addr) (vc : Nat) (ts : Option Addr) (tc : Nat) (ls : Option Addr) (lc : Nat) (is : Option Addr) (ic : Nat) (ins : List Int) (w : World) (hc : CodeAt w s c) (hr : RunAt w r vs ts ls) (hp : ProgOk v f c) (hk : RunOk v f c r) (hI : IntsAt w is ins) (hln : (r.lines.length + 1) * 16 ≤ 140737488355328) (hf : r.fin ≠ 0) :
    Calls Tryd.prog 23 #[.agg #[.int .i64 (v : Int), .int .i64 (f : Int), .slice s c.length cap], runV r vs vc ts tc ls lc, .slice is ins.length ic] w fun e w' => ∃ vv tv lv fv, e = .returned (.agg #[.int .i64 (stepSt f c ins r).at_, vv, tv, .int .i64 (stepSt f c ins r).taken, lv, .int .i64 (stepSt f c ins r).fin]) ∧ OwnRows w' w.heap.size (stepSt f c ins r) vv tv lv fv ∧ Below w.heap.size w w' := by
  have HF0 := hideK hf
  clear hf
  unfold runV
  obtain ⟨w3, e3, hb0, P0, Q0, Z0, HZ3, HCR⟩ := stPre v f s c cap r vs vc ts tc ls lc w hr hp hk hln
  clear hr
  go_enter Tryd.func23, Tryd.ntmps23
  go_wp2_with (go_at_call 50; fail)
  rw [← e3.out]
  clear e3
  refine HCR.out.mono ?_
  rintro e w4 ⟨vv, tv, lv, fv, rfl, OR, hb4⟩
  clear HCR
  obtain ⟨vs1, vc1, ts1, tc1, ls1, lc1, rfl, rfl, rfl, -⟩ := OR.at
  obtain ⟨w5, e5, O5, P5, Z5, H5, C5, I5, hz5, NRES⟩ := stPost HZ3.out OR P0 Q0 Z0 hb0 hb4 hc hI
  obtain ⟨⟨q0, q1, q2, q3, q4, q5⟩, qz, qf⟩ := id (Q0.call hb4)
  have g0 := qf 0
  have g1 := qf 1
  have g2 := qf 2
  have g3 := qf 3
  have g4 := qf 4
  have g5 := qf 5
  clear HZ3 P0 Q0 Z0 hb4 hc hI OR hb0 qf
  go_upto_region 2 with fail
  clear q0 q1 q2 q3 q4 q5 qz g0 g1 g2 g3 g4 g5
  rw [← e5.out]
  clear e5
  obtain ⟨⟨m0, m1, m2, m3, m4, m5⟩, mz, mf⟩ := id O5.r6
  obtain ⟨⟨p0, p1, p2⟩, pz⟩ := id P5
  have hfb : (r.fin != 0) = true := by simpa using HF0.out
  clear mf C5 I5
  go_upto_region 3 with fail
  clear m0 m1 m2 m3 m4 m5 mz p0 p1 p2 pz P5
  generalize w5 = wf at *
  have O10 := O5
  have res10 := Z5
  have low10 := H5
  have nres9 := NRES
  clear O5 Z5 H5 NRES
  obtain ⟨⟨m0, m1, m2, m3, m4, m5⟩, mz, -⟩ := id O10.r6
  (try simp only at m0)
  (try simp only at m1)
  (try simp only at m2)
  (try simp only at m3)
  (try simp only at m4)
  (try simp only at m5)
  obtain ⟨⟨z0, z1, z2, z3, z4, z5⟩, zz, zf⟩ := id res10
  have g0 := zf 0
  have g1 := zf 1
  have g2 := zf 2
  have g3 := zf 3
  have g4 := zf 4
  have g5 := zf 5
  have HBK := hideK (own_back O10 nres9 low10)
  clear zf O10 res10 low10 nres9
  rename_i K0 hK0
  refine wp_region_lit ?_
  refine wpList_plain rfl (fun K2 hK2 => ?_)
  go_simp
  refine hK2 _ _ ?_
  clear hK2 K2
  (try simp only [Act.put, List.getElem_toArray, List.getElem_cons_zero, List.getElem_cons_succ, List.setIfInBounds_toArray, List.set_cons_zero, List.set_cons_succ])
  refine wpList_plain rfl (fun K2 hK2 => ?_)
  go_simp
  refine hK2 _ _ ?_
  clear hK2 K2
  refine hK0 _ _ ?_
  refine wp_ret ?_
  (try simp only [Exit.then])
  refine bodyPost_ret (v := .agg #[.int .i64 (r.at_), .slice vs1 r.vars.length vc1, .slice ts1 r.things.length tc1, .int .i64 r.taken, .slice ls1 r.lines.length lc1, .int .i64 (r.fin)]) (by simp [results, Tryd.results23, go_sem, z0, z1, z2, z3, z4, z5]) rfl ?_
  have HQ : stepSt f c ins r = r := by
    rw [stepSt_eq, if_pos HF0.out]
  rw [HQ]
  exact ⟨_, _, _, _, rfl, HBK.out.1, HBK.out.2⟩

set_option maxHeartbeats 4000000 in
set_option maxRecDepth 20000 in
theorem stepR_last (v f : Nat) (s : Option Addr) (c : List Ins) (cap : Nat) (r : St) (vs : Option Addr) (vc : Nat) (ts : Option Addr) (tc : Nat) (ls : Option Addr) (lc : Nat) (is : Option Addr) (ic : Nat) (ins : List Int) (w : World) (hc : CodeAt w s c) (hr : RunAt w r vs ts ls) (hp : ProgOk v f c) (hk : RunOk v f c r) (hI : IntsAt w is ins) (hln : (r.lines.length + 1) * 16 ≤ 140737488355328) (hf : r.fin = 0) (ha : r.at_ = c.length) :
    Calls Tryd.prog 23 #[.agg #[.int .i64 (v : Int), .int .i64 (f : Int), .slice s c.length cap], runV r vs vc ts tc ls lc, .slice is ins.length ic] w fun e w' => ∃ vv tv lv fv, e = .returned (.agg #[.int .i64 (stepSt f c ins r).at_, vv, tv, .int .i64 (stepSt f c ins r).taken, lv, .int .i64 (stepSt f c ins r).fin]) ∧ OwnRows w' w.heap.size (stepSt f c ins r) vv tv lv fv ∧ Below w.heap.size w w' := by
  have HF0 := hideK hf
  have HA0 := hideK ha
  clear hf ha
  unfold runV
  obtain ⟨w3, e3, hb0, P0, Q0, Z0, HZ3, HCR⟩ := stPre v f s c cap r vs vc ts tc ls lc w hr hp hk hln
  clear hr
  go_enter Tryd.func23, Tryd.ntmps23
  go_wp2_with (go_at_call 50; fail)
  rw [← e3.out]
  clear e3
  refine HCR.out.mono ?_
  rintro e w4 ⟨vv, tv, lv, fv, rfl, OR, hb4⟩
  clear HCR
  obtain ⟨vs1, vc1, ts1, tc1, ls1, lc1, rfl, rfl, rfl, -⟩ := OR.at
  obtain ⟨w5, e5, O5, P5, Z5, H5, C5, I5, hz5, NRES⟩ := stPost HZ3.out OR P0 Q0 Z0 hb0 hb4 hc hI
  obtain ⟨⟨q0, q1, q2, q3, q4, q5⟩, qz, qf⟩ := id (Q0.call hb4)
  have g0 := qf 0
  have g1 := qf 1
  have g2 := qf 2
  have g3 := qf 3
  have g4 := qf 4
  have g5 := qf 5
  clear HZ3 P0 Q0 Z0 hb4 hc hI OR hb0 qf
  go_upto_region 2 with fail
  clear q0 q1 q2 q3 q4 q5 qz g0 g1 g2 g3 g4 g5
  rw [← e5.out]
  clear e5
  obtain ⟨⟨m0, m1, m2, m3, m4, m5⟩, mz, mf⟩ := id O5.r6
  obtain ⟨⟨p0, p1, p2⟩, pz⟩ := id P5
  have hfb : (r.fin != 0) = false := by rw [HF0.out]; rfl
  rw [HA0.out] at m0
  clear C5
  have mf5 := mf 5
  clear mf I5
  go_upto_region 6 with fail
  clear m0 m1 m2 m3 m4 m5 mz p0 p1 p2 pz P5 mf5
  have O10 := O5.withFin 1
  have res10 := Z5.far (a := ⟨w.heap.size + 1, 5, none⟩) (by simp) (.int .i64 1)
  have low10 : Below w.heap.size w (w5.setCell ⟨w.heap.size + 1, 5, none⟩ (.int .i64 1)) := H5.setCell (by simp only; omega) _
  have nres9 := NRES
  clear O5 Z5 H5 NRES
  generalize (w5.setCell ⟨w.heap.size + 1, 5, none⟩ (.int .i64 1)) = wf at *
  obtain ⟨⟨m0, m1, m2, m3, m4, m5⟩, mz, -⟩ := id O10.r6
  (try simp only at m0)
  (try simp only at m1)
  (try simp only at m2)
  (try simp only at m3)
  (try simp only at m4)
  (try simp only at m5)
  obtain ⟨⟨z0, z1, z2, z3, z4, z5⟩, zz, zf⟩ := id res10
  have g0 := zf 0
  have g1 := zf 1
  have g2 := zf 2
  have g3 := zf 3
  have g4 := zf 4
  have g5 := zf 5
  have HBK := hideK (own_back O10 nres9 low10)
  clear zf O10 res10 low10 nres9
  rename_i K0 hK0
  refine wp_region_lit ?_
  refine wpList_plain rfl (fun K2 hK2 => ?_)
  go_simp
  refine hK2 _ _ ?_
  clear hK2 K2
  (try simp only [Act.put, List.getElem_toArray, List.getElem_cons_zero, List.getElem_cons_succ, List.setIfInBounds_toArray, List.set_cons_zero, List.set_cons_succ])
  refine wpList_plain rfl (fun K2 hK2 => ?_)
  go_simp
  refine hK2 _ _ ?_
  clear hK2 K2
  refine hK0 _ _ ?_
  refine wp_ret ?_
  (try simp only [Exit.then])
  refine bodyPost_ret (v := .agg #[.int .i64 (r.at_), .slice vs1 r.vars.length vc1, .slice ts1 r.things.length tc1, .int .i64 r.taken, .slice ls1 r.lines.length lc1, .int .i64 (1)]) (by simp [results, Tryd.results23, go_sem, z0, z1, z2, z3, z4, z5]) rfl ?_
  have HQ : stepSt f c ins r = { r with fin := 1 } := by
    rw [stepSt_eq, if_neg (by rw [HF0.out]; simp), if_pos HA0.out]
  rw [HQ]
  exact ⟨_, _, _, _, rfl, HBK.out.1, HBK.out.2⟩

set_option maxHeartbeats 4000000 in
set_option maxRecDepth 20000 in
theorem stepR_19 (v f : Nat) (s : Option Addr) (c : List Ins) (cap : Nat) (r : St) (vs : Option Addr) (vc : Nat) (ts : Option Addr) (tc : Nat) (ls : Option Addr) (lc : Nat) (is : Option Addr) (ic : Nat) (ins : List Int) (w : World) (hc : CodeAt w s c) (hr : RunAt w r vs ts ls) (hp : ProgOk v f c) (hk : RunOk v f c r) (hI : IntsAt w is ins) (hln : (r.lines.length + 1) * 16 ≤ 140737488355328) (k : Nat) (tt a b n g : Int) (hf : r.fin = 0) (ha : r.at_ = (k : Int)) (hkl : k < c.length) (hck : c[k] = ⟨19, tt, a, b, n, g⟩) :
    Calls Tryd.prog 23 #[.agg #[.int .i64 (v : Int), .int .i64 (f : Int), .slice s c.length cap], runV r vs vc ts tc ls lc, .slice is ins.length ic] w fun e w' => ∃ vv tv lv fv, e = .returned (.agg #[.int .i64 (stepSt f c ins r).at_, vv, tv, .int .i64 (stepSt f c ins r).taken, lv, .int .i64 (stepSt f c ins r).fin]) ∧ OwnRows w' w.heap.size (stepSt f c ins r) vv tv lv fv ∧ Below w.heap.size w w' := by
  have HF0 := hideK hf
  have HA0 := hideK ha
  have HK0 := hideK hck
  have HST := hideK (stepSt_at (F := f) (ins := ins) hf ha hkl hck)
  clear hf ha hck
  unfold runV
  obtain ⟨w3, e3, hb0, P0, Q0, Z0, HZ3, HCR⟩ := stPre v f s c cap r vs vc ts tc ls lc w hr hp hk hln
  clear hr
  go_enter Tryd.func23, Tryd.ntmps23
  go_wp2_with (go_at_call 50; fail)
  rw [← e3.out]
  clear e3
  refine HCR.out.mono ?_
  rintro e w4 ⟨vv, tv, lv, fv, rfl, OR, hb4⟩
  clear HCR
  obtain ⟨vs1, vc1, ts1, tc1, ls1, lc1, rfl, rfl, rfl, -⟩ := OR.at
  obtain ⟨w5, e5, O5, P5, Z5, H5, C5, I5, hz5, NRES⟩ := stPost HZ3.out OR P0 Q0 Z0 hb0 hb4 hc hI
  obtain ⟨⟨q0, q1, q2, q3, q4, q5⟩, qz, qf⟩ := id (Q0.call hb4)
  have g0 := qf 0
  have g1 := qf 1
  have g2 := qf 2
  have g3 := qf 3
  have g4 := qf 4
  have g5 := qf 5
  clear HZ3 P0 Q0 Z0 hb4 hc hI OR hb0 qf
  go_upto_region 2 with fail
  clear q0 q1 q2 q3 q4 q5 qz g0 g1 g2 g3 g4 g5
  rw [← e5.out]
  clear e5
  obtain ⟨⟨m0, m1, m2, m3, m4, m5⟩, mz, mf⟩ := id O5.r6
  obtain ⟨⟨p0, p1, p2⟩, pz⟩ := id P5
  have hfb : (r.fin != 0) = false := by rw [HF0.out]; rfl
  rw [HA0.out] at m0
  rcases C5 with C5 | ⟨cb, co, rfl, hcb, hci⟩
  · rw [C5] at hkl; simp at hkl
  obtain ⟨i0, -, -, -, -, -⟩ := hci k hkl
  rw [HK0.out] at i0
  have n0 : (0 : Int) ≤ (k : Int) := by omega
  have n1 : (k : Int) < (c.length : Int) := by omega
  have nk : ((k : Int) == (c.length : Int)) = false := by simp; omega
  clear hci
  have mf5 := mf 5
  clear mf I5
  go_upto_region 6 with fail
  clear m0 m1 m2 m3 m4 m5 mz p0 p1 p2 pz P5 mf5
  have O10 := O5.withFin 1
  have res10 := Z5.far (a := ⟨w.heap.size + 1, 5, none⟩) (by simp) (.int .i64 1)
  have low10 : Below w.heap.size w (w5.setCell ⟨w.heap.size + 1, 5, none⟩ (.int .i64 1)) := H5.setCell (by simp only; omega) _
  have nres9 := NRES
  clear O5 Z5 H5 NRES
  generalize (w5.setCell ⟨w.heap.size + 1, 5, none⟩ (.int .i64 1)) = wf at *
  obtain ⟨⟨m0, m1, m2, m3, m4, m5⟩, mz, -⟩ := id O10.r6
  (try simp only at m0)
  (try simp only at m1)
  (try simp only at m2)
  (try simp only at m3)
  (try simp only at m4)
  (try simp only at m5)
  obtain ⟨⟨z0, z1, z2, z3, z4, z5⟩, zz, zf⟩ := id res10
  have g0 := zf 0
  have g1 := zf 1
  have g2 := zf 2
  have g3 := zf 3
  have g4 := zf 4
  have g5 := zf 5
  have HBK := hideK (own_back O10 nres9 low10)
  clear zf O10 res10 low10 nres9
  rename_i K0 hK0
  refine wp_region_lit ?_
  refine wpList_plain rfl (fun K2 hK2 => ?_)
  go_simp
  refine hK2 _ _ ?_
  clear hK2 K2
  (try simp only [Act.put, List.getElem_toArray, List.getElem_cons_zero, List.getElem_cons_succ, List.setIfInBounds_toArray, List.set_cons_zero, List.set_cons_succ])
  refine wpList_plain rfl (fun K2 hK2 => ?_)
  go_simp
  refine hK2 _ _ ?_
  clear hK2 K2
  refine hK0 _ _ ?_
  refine wp_ret ?_
  (try simp only [Exit.then])
  refine bodyPost_ret (v := .agg #[.int .i64 (r.at_), .slice vs1 r.vars.length vc1, .slice ts1 r.things.length tc1, .int .i64 r.taken, .slice ls1 r.lines.length lc1, .int .i64 (1)]) (by simp [results, Tryd.results23, go_sem, z0, z1, z2, z3, z4, z5]) rfl ?_
  have HQ : stepSt f c ins r = { r with fin := 1 } := by
    rw [HST.out, show endI r ⟨19, tt, a, b, n, g⟩ = 1 from rfl, if_pos (by simp)]
  rw [HQ]
  exact ⟨_, _, _, _, rfl, HBK.out.1, HBK.out.2⟩
end Go.Proofs.YtmapdpcfanecdaaDoor
