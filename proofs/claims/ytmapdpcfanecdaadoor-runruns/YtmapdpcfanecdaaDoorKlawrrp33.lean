/- Walks over package run: what the machine does, kind by kind. -/
import Derived.Test.YtmapdpcfanecdaaDoorKlawrrp09
import Derived.Test.YtmapdpcfanecdaaDoorKlawrrp28
import Derived.Test.YtmapdpcfanecdaaDoorKlawrrp32
import Derived.Deep.DeepCutAuto
import Derived.Laws.EntriesVeiled
namespace Go.Proofs.YtmapdpcfanecdaaDoor
set_option linter.unusedVariables false
set_option linter.unusedSimpArgs false
open Go.RowKit
attribute [local go_sem ↓] Go.wp_at_zero Go.wp_at_succ

set_option maxHeartbeats 4000000 in
set_option maxRecDepth 20000 in
theorem stepR_10 (v f : Nat) (s : Option Addr) (c : List Ins) (cap : Nat) (r : St) (vs : Option Addr) (vc : Nat) (ts : Option Addr) (tc : Nat) (ls : Option Addr) (lc : Nat) (is : Option Addr) (ic : Nat) (ins : List Int) (w : World) (hc : CodeAt w s c) (hr : RunAt w r vs ts ls) (hp : ProgOk v f c) (hk : RunOk v f c r) (hI : IntsAt w is ins) (hln : (r.lines.length + 1) * 16 ≤ 140737488355328) (t x : Nat) (k : Nat) (b n g : Int) (hf : r.fin = 0) (ha : r.at_ = (k : Int)) (hkl : k < c.length) (hck : c[k] = ⟨10, t, x, b, n, g⟩) (ht : t < r.vars.length) (hx : x < r.vars.length) :
    Calls Tryd.prog 23 #[.agg #[.int .i64 (v : Int), .int .i64 (f : Int), .slice s c.length cap], runV r vs vc ts tc ls lc, .slice is ins.length ic] w fun e w' => ∃ vv tv lv fv, e = .returned (.agg #[.int .i64 (stepSt f c ins r).at_, vv, tv, .int .i64 (stepSt f c ins r).taken, lv, .int .i64 (stepSt f c ins r).fin]) ∧ OwnRows w' w.heap.size (stepSt f c ins r) vv tv lv fv ∧ Below w.heap.size w w' := by
  have hmf : ∀ (fn : Fn) (first cp : Array Value) (w : World), (Instr.makeFunc fn first cp).run Tryd.prog w = .ok (.func fn first cp) w := fun _ _ _ _ => rfl
  have HF0 := hideK hf
  have HA0 := hideK ha
  have HK0 := hideK hck
  have HST := hideK (stepSt_at (F := f) (ins := ins) hf ha hkl hck)
  clear hf ha hck
  unfold runV
  obtain ⟨w3, e3, hb0, P0, Q0, Z0, HZ3, HCR⟩ := stPre v f s c cap r vs vc ts tc ls lc w hr hp hk hln
  clear hr
  go_enter Tryd.func23, Tryd.ntmps23
  go_wp2_with (go_at_call 50; fail)
  rw [← e3.out]
  clear e3
  refine HCR.out.mono ?_
  rintro e w4 ⟨vv, tv, lv, fv, rfl, OR, hb4⟩
  clear HCR
  obtain ⟨vs1, vc1, ts1, tc1, ls1, lc1, rfl, rfl, rfl, -⟩ := OR.at
  obtain ⟨w5, e5, O5, P5, Z5, H5, C5, I5, hz5, NRES⟩ := stPost HZ3.out OR P0 Q0 Z0 hb0 hb4 hc hI
  obtain ⟨⟨q0, q1, q2, q3, q4, q5⟩, qz, qf⟩ := id (Q0.call hb4)
  have g0 := qf 0
  have g1 := qf 1
  have g2 := qf 2
  have g3 := qf 3
  have g4 := qf 4
  have g5 := qf 5
  clear HZ3 P0 Q0 Z0 hb4 hc hI OR hb0 qf
  go_upto_region 2 with fail
  clear q0 q1 q2 q3 q4 q5 qz g0 g1 g2 g3 g4 g5
  rw [← e5.out]
  clear e5
  obtain ⟨⟨m0, m1, m2, m3, m4, m5⟩, mz, mf⟩ := id O5.r6
  obtain ⟨⟨p0, p1, p2⟩, pz⟩ := id P5
  have hfb : (r.fin != 0) = false := by rw [HF0.out]; rfl
  have hat0 : (0 : Int) ≤ r.at_ := by rw [HA0.out]; omega
  have hat60 : r.at_ ≤ 60 := by rw [HA0.out]; have := hp.len; omega
  rw [HA0.out] at m0
  rcases C5 with C5 | ⟨cb, co, rfl, hcb, hci⟩
  · rw [C5] at hkl; simp at hkl
  obtain ⟨i0, i1, i2, i3, i4, i5⟩ := hci k hkl
  rw [HK0.out] at i0 i1 i2 i3 i4 i5
  simp only at i0 i1 i2 i3 i4 i5
  have n0 : (0 : Int) ≤ (k : Int) := by omega
  have n1 : (k : Int) < (c.length : Int) := by omega
  have nk : ((k : Int) == (c.length : Int)) = false := by simp; omega
  have hk60 : (k : Int) ≤ 60 := by have := hp.len; omega
  obtain ⟨gb, gc, egb, hg1, hg2, hcell, hfz⟩ := O5.form (by have := hk.vars; have := hp.v1; omega)
  cases egb
  have HCL := hideK (And.intro hcell hfz)
  have HSI := hideK (SInv.new O5 P5 Z5 H5 hz5 NRES ⟨10, t, x, b, n, g⟩)
  have BW : Below w5.heap.size w5 (((w5.alloc (.cells #[.int .i64 10, .int .i64 t, .int .i64 x, .int .i64 b, .int .i64 n, .int .i64 g] 71)).alloc (.cells #[.int .i64 0, .int .i64 0] 94)).alloc (.cells #[.int .i64 0, .int .i64 0] 94)) := by go_grown
  clear hci mf hcell hfz O5 P5 Z5 hz5 NRES H5
  go_upto_region 9 with fail
  generalize (((w5.alloc (.cells #[.int .i64 10, .int .i64 t, .int .i64 x, .int .i64 b, .int .i64 n, .int .i64 g] 71)).alloc (.cells #[.int .i64 0, .int .i64 0] 94)).alloc (.cells #[.int .i64 0, .int .i64 0] 94)) = w6 at *
  have S := HSI.out
  clear HSI m0 m1 m2 m3 m4 m5 mz p0 p1 p2 pz i0 i1 i2 i3 i4 i5
  generalize w6 = wc at *
  clear w6
  have kx0 : wc.cell? ⟨gb, x * 2, none⟩ = some (.int .i64 r.vars[x].k) := by rw [BW.cell (by simpa using hg2)]; exact (HCL.out.1 x hx).1
  have kx1 : wc.cell? ⟨gb, x * 2 + 1, none⟩ = some (.int .i64 r.vars[x].n) := by rw [BW.cell (by simpa using hg2)]; exact (HCL.out.1 x hx).2
  have nnx0 : (0 : Int) ≤ (x : Int) := by omega
  have nnx1 : (x : Int) < (r.vars.length : Int) := by omega
  obtain ⟨j0, j1, j2, j3, j4, j5, jz, p0, p1, p2, pz, m0, m1, m2, m3, m4, m5, mz, mf2, mf3, mf4, mf5, a0, a1, az, af0, af1, b0, b1, bz, bf0, bf1⟩ := S.all
  (try simp only at j0 j1 j2 j3 j4 j5 a0 a1 b0 b1)
  go_upto_region 11 with (first | (go_at_call 36; refine (between_any _ _ _ _).mono ?_; rintro e w' ⟨rfl, hw'⟩; rw [hw', show btw 10 5 8 = false from rfl]; clear hw' w') | (go_at_call 51; refine (namesA_any _ _).mono ?_; rintro e w' ⟨rfl, hw'⟩; rw [hw', show nA 10 = true from rfl]; clear hw' w') | (go_at_call 52; refine (namesB_any _ _).mono ?_; rintro e w' ⟨rfl, hw'⟩; rw [hw', show nB 10 = false from rfl]; clear hw' w') | (go_at_call 57; refine (namesTo_any _ _).mono ?_; rintro e w' ⟨rfl, hw'⟩; rw [hw', show nTo 10 = true from rfl]; clear hw' w'))
  have SP := S.putA r.vars[x]
  have BP : Below w5.heap.size w5 ((wc.setCell ⟨w5.heap.size + 1, 0, none⟩ (.int .i64 r.vars[x].k)).setCell ⟨w5.heap.size + 1, 1, none⟩ (.int .i64 r.vars[x].n)) := (BW.setCell (by simp only; omega) _).setCell (by simp only; omega) _
  clear j0 j1 j2 j3 j4 j5 jz p0 p1 p2 pz m0 m1 m2 m3 m4 m5 mz mf2 mf3 mf4 mf5 a0 a1 az af0 af1 b0 b1 bz bf0 bf1
  clear kx0 kx1 S BW
  generalize ((wc.setCell ⟨w5.heap.size + 1, 0, none⟩ (.int .i64 r.vars[x].k)).setCell ⟨w5.heap.size + 1, 1, none⟩ (.int .i64 r.vars[x].n)) = wd at *
  have S := SP
  have BW := BP
  clear SP BP
  generalize wd = wc at *
  clear wd
  obtain ⟨j0, j1, j2, j3, j4, j5, jz, p0, p1, p2, pz, m0, m1, m2, m3, m4, m5, mz, mf2, mf3, mf4, mf5, a0, a1, az, af0, af1, b0, b1, bz, bf0, bf1⟩ := S.all
  (try simp only at j0 j1 j2 j3 j4 j5 a0 a1 b0 b1)
  go_upto_region 24 with (first | (go_at_call 36; refine (between_any _ _ _ _).mono ?_; rintro e w' ⟨rfl, hw'⟩; rw [hw', show btw 10 5 8 = false from rfl]; clear hw' w') | (go_at_call 51; refine (namesA_any _ _).mono ?_; rintro e w' ⟨rfl, hw'⟩; rw [hw', show nA 10 = true from rfl]; clear hw' w') | (go_at_call 52; refine (namesB_any _ _).mono ?_; rintro e w' ⟨rfl, hw'⟩; rw [hw', show nB 10 = false from rfl]; clear hw' w') | (go_at_call 57; refine (namesTo_any _ _).mono ?_; rintro e w' ⟨rfl, hw'⟩; rw [hw', show nTo 10 = true from rfl]; clear hw' w'))
  have VZ := VAt.new wc ⟨0, 0⟩
  (try simp only at VZ)
  have SN := S.call (wy := (wc.alloc (.cells #[.int .i64 0, .int .i64 0] 94))) (by go_grown)
  have BN : Below w5.heap.size w5 (wc.alloc (.cells #[.int .i64 0, .int .i64 0] 94)) := BW.alloc BW.size _
  have hbv : w5.heap.size + 1 + 1 < wc.heap.size := S.vb.2.1
  clear j0 j1 j2 j3 j4 j5 jz p0 p1 p2 pz m0 m1 m2 m3 m4 m5 mz mf2 mf3 mf4 mf5 a0 a1 az af0 af1 b0 b1 bz bf0 bf1
  clear S BW
  generalize (wc.alloc (.cells #[.int .i64 0, .int .i64 0] 94)) = wv at *
  have S := SN
  have BW := BN
  clear SN BN
  obtain ⟨j0, j1, j2, j3, j4, j5, jz, p0, p1, p2, pz, m0, m1, m2, m3, m4, m5, mz, mf2, mf3, mf4, mf5, a0, a1, az, af0, af1, b0, b1, bz, bf0, bf1⟩ := S.all
  (try simp only at j0 j1 j2 j3 j4 j5 a0 a1 b0 b1)
  go_wp2_with (go_at_call 53; fail)
  refine (countsOf_any r.vars[x] wv).mono ?_
  rintro e wu ⟨rfl, hbu⟩
  have SN := S.call hbu
  have BN : Below w5.heap.size w5 wu := BW.trans (hbu.mono BW.size)
  have VN := VZ.call hbu
  clear j0 j1 j2 j3 j4 j5 jz p0 p1 p2 pz m0 m1 m2 m3 m4 m5 mz mf2 mf3 mf4 mf5 a0 a1 az af0 af1 b0 b1 bz bf0 bf1
  clear S BW VZ hbu
  have S := SN
  have BW := BN
  have VZ := VN
  clear SN BN VN
  obtain ⟨j0, j1, j2, j3, j4, j5, jz, p0, p1, p2, pz, m0, m1, m2, m3, m4, m5, mz, mf2, mf3, mf4, mf5, a0, a1, az, af0, af1, b0, b1, bz, bf0, bf1⟩ := S.all
  (try simp only at j0 j1 j2 j3 j4 j5 a0 a1 b0 b1)
  go_wp2_with (go_at_call 54; fail)
  refine (truthR_any (!cnt r.vars[x]) wc.heap.size wu VZ).mono ?_
  rintro e wd ⟨rfl, V9, FR9, hb9⟩
  have SN := S.only hbv FR9 hb9
  have BN : Below w5.heap.size w5 wd := BW.trans (hb9.mono (by omega))
  clear j0 j1 j2 j3 j4 j5 jz p0 p1 p2 pz m0 m1 m2 m3 m4 m5 mz mf2 mf3 mf4 mf5 a0 a1 az af0 af1 b0 b1 bz bf0 bf1
  clear S BW VZ FR9 hb9
  have S := SN
  have BW := BN
  clear SN BN
  obtain ⟨j0, j1, j2, j3, j4, j5, jz, p0, p1, p2, pz, m0, m1, m2, m3, m4, m5, mz, mf2, mf3, mf4, mf5, a0, a1, az, af0, af1, b0, b1, bz, bf0, bf1⟩ := S.all
  (try simp only at j0 j1 j2 j3 j4 j5 a0 a1 b0 b1)
  go_upto_region 61 with (first | (go_at_call 36; refine (between_any _ _ _ _).mono ?_; rintro e w' ⟨rfl, hw'⟩; rw [hw', show btw 10 5 8 = false from rfl]; clear hw' w') | (go_at_call 51; refine (namesA_any _ _).mono ?_; rintro e w' ⟨rfl, hw'⟩; rw [hw', show nA 10 = true from rfl]; clear hw' w') | (go_at_call 52; refine (namesB_any _ _).mono ?_; rintro e w' ⟨rfl, hw'⟩; rw [hw', show nB 10 = false from rfl]; clear hw' w') | (go_at_call 57; refine (namesTo_any _ _).mono ?_; rintro e w' ⟨rfl, hw'⟩; rw [hw', show nTo 10 = true from rfl]; clear hw' w'))
  clear j0 j1 j2 j3 j4 j5 jz p0 p1 p2 pz m0 m1 m2 m3 m4 m5 mz mf2 mf3 mf4 mf5 a0 a1 az af0 af1 b0 b1 bz bf0 bf1
  have kt0 : wd.cell? ⟨gb, t * 2, none⟩ = some (.int .i64 r.vars[t].k) := by rw [BW.cell (by simpa using hg2)]; exact (HCL.out.1 t ht).1
  have kt1 : wd.cell? ⟨gb, t * 2 + 1, none⟩ = some (.int .i64 r.vars[t].n) := by rw [BW.cell (by simpa using hg2)]; exact (HCL.out.1 t ht).2
  have ft0 : wd.frozen? ⟨gb, t * 2, none⟩ = false := by rw [BW.frozen (by simpa using hg2)]; exact HCL.out.2 _
  have ft1 : wd.frozen? ⟨gb, t * 2 + 1, none⟩ = false := by rw [BW.frozen (by simpa using hg2)]; exact HCL.out.2 _
  have nnt0 : (0 : Int) ≤ (t : Int) := by omega
  have nnt1 : (t : Int) < (r.vars.length : Int) := by omega
  obtain ⟨j0, j1, j2, j3, j4, j5, jz, p0, p1, p2, pz, m0, m1, m2, m3, m4, m5, mz, mf2, mf3, mf4, mf5, a0, a1, az, af0, af1, b0, b1, bz, bf0, bf1⟩ := S.all
  (try simp only at j0 j1 j2 j3 j4 j5 a0 a1 b0 b1)
  obtain ⟨⟨v0, v1⟩, vz, -⟩ := id V9
  (try simp only at v0 v1)
  have hgv : gb ≠ wc.heap.size := by omega
  go_upto_region 63 with (first | (go_at_call 36; refine (between_any _ _ _ _).mono ?_; rintro e w' ⟨rfl, hw'⟩; rw [hw', show btw 10 5 8 = false from rfl]; clear hw' w') | (go_at_call 51; refine (namesA_any _ _).mono ?_; rintro e w' ⟨rfl, hw'⟩; rw [hw', show nA 10 = true from rfl]; clear hw' w') | (go_at_call 52; refine (namesB_any _ _).mono ?_; rintro e w' ⟨rfl, hw'⟩; rw [hw', show nB 10 = false from rfl]; clear hw' w') | (go_at_call 57; refine (namesTo_any _ _).mono ?_; rintro e w' ⟨rfl, hw'⟩; rw [hw', show nTo 10 = true from rfl]; clear hw' w'))
  have O9 := S.own.put t ht (truV (!cnt r.vars[x]))
  have FR := frame_put (bs := ownBlocks (w.heap.size + 1) (.slice (some ⟨gb, 0, none⟩) r.vars.length vc1) (.slice ts1 r.things.length tc1) (.slice ls1 r.lines.length lc1) fv) (Below.refl wd.heap.size wd) (g := gb) (by simp only [ownBlocks, List.mem_cons]; right; left; rfl) (t * 2) (t * 2 + 1) (.int .i64 (truV (!cnt r.vars[x])).k) (.int .i64 (truV (!cnt r.vars[x])).n)
  have hsz : wd.heap.size ≤ ((wd.setCell ⟨gb, t * 2, none⟩ (.int .i64 (truV (!cnt r.vars[x])).k)).setCell ⟨gb, t * 2 + 1, none⟩ (.int .i64 (truV (!cnt r.vars[x])).n)).heap.size := by simp [World.setCell]
  have res9 := S.res.own FR hsz S.nres
  have ins9 := S.ins.own FR hsz (fun hm => Nat.lt_irrefl _ (S.lt _ hm))
  have low9 : Below w.heap.size w ((wd.setCell ⟨gb, t * 2, none⟩ (.int .i64 (truV (!cnt r.vars[x])).k)).setCell ⟨gb, t * 2 + 1, none⟩ (.int .i64 (truV (!cnt r.vars[x])).n)) := (S.low.setCell (by simp only; omega) _).setCell (by simp only; omega) _
  have nres9 := S.nres
  clear j0 j1 j2 j3 j4 j5 jz p0 p1 p2 pz m0 m1 m2 m3 m4 m5 mz mf2 mf3 mf4 mf5 a0 a1 az af0 af1 b0 b1 bz bf0 bf1
  clear kt0 kt1 ft0 ft1 v0 v1 vz S BW V9 FR hsz
  generalize ((wd.setCell ⟨gb, t * 2, none⟩ (.int .i64 (truV (!cnt r.vars[x])).k)).setCell ⟨gb, t * 2 + 1, none⟩ (.int .i64 (truV (!cnt r.vars[x])).n)) = we at *
  obtain ⟨⟨j0, j1, j2, j3, j4, j5⟩, jz, -⟩ := id ins9
  (try simp only at j0 j1 j2 j3 j4 j5)
  have m0 := O9.at_
  (try simp only at m0)
  have mf0 := O9.thaw 0
  go_upto_region 66 with (first | (go_at_call 36; refine (between_any _ _ _ _).mono ?_; rintro e w' ⟨rfl, hw'⟩; rw [hw', show btw 10 5 8 = false from rfl]; clear hw' w') | (go_at_call 51; refine (namesA_any _ _).mono ?_; rintro e w' ⟨rfl, hw'⟩; rw [hw', show nA 10 = true from rfl]; clear hw' w') | (go_at_call 52; refine (namesB_any _ _).mono ?_; rintro e w' ⟨rfl, hw'⟩; rw [hw', show nB 10 = false from rfl]; clear hw' w') | (go_at_call 57; refine (namesTo_any _ _).mono ?_; rintro e w' ⟨rfl, hw'⟩; rw [hw', show nTo 10 = true from rfl]; clear hw' w'))
  have O10 := O9.withAt (r.at_ + 1)
  have res10 := res9.far (a := ⟨w.heap.size + 1, 0, none⟩) (by simp) (.int .i64 (r.at_ + 1))
  have low10 : Below w.heap.size w (we.setCell ⟨w.heap.size + 1, 0, none⟩ (.int .i64 (r.at_ + 1))) := low9.setCell (by simp only; omega) _
  clear m0 mf0 O9 res9 low9
  generalize (we.setCell ⟨w.heap.size + 1, 0, none⟩ (.int .i64 (r.at_ + 1))) = wf at *
  obtain ⟨⟨m0, m1, m2, m3, m4, m5⟩, mz, -⟩ := id O10.r6
  (try simp only at m0)
  (try simp only at m1)
  (try simp only at m2)
  (try simp only at m3)
  (try simp only at m4)
  (try simp only at m5)
  obtain ⟨⟨z0, z1, z2, z3, z4, z5⟩, zz, zf⟩ := id res10
  have g0 := zf 0
  have g1 := zf 1
  have g2 := zf 2
  have g3 := zf 3
  have g4 := zf 4
  have g5 := zf 5
  have HBK := hideK (own_back O10 nres9 low10)
  clear zf O10 res10 low10 nres9
  rename_i K0 hK0
  refine wp_region_lit ?_
  refine wpList_plain rfl (fun K2 hK2 => ?_)
  go_simp
  refine hK2 _ _ ?_
  clear hK2 K2
  (try simp only [Act.put, List.getElem_toArray, List.getElem_cons_zero, List.getElem_cons_succ, List.setIfInBounds_toArray, List.set_cons_zero, List.set_cons_succ])
  refine wpList_plain rfl (fun K2 hK2 => ?_)
  go_simp
  refine hK2 _ _ ?_
  clear hK2 K2
  refine hK0 _ _ ?_
  refine wp_ret ?_
  (try simp only [Exit.then])
  refine bodyPost_ret (v := .agg #[.int .i64 (r.at_ + 1), .slice (some ⟨gb, 0, none⟩) r.vars.length vc1, .slice ts1 r.things.length tc1, .int .i64 (r.taken), .slice ls1 r.lines.length lc1, .int .i64 (r.fin)]) (by simp [results, Tryd.results23, go_sem, z0, z1, z2, z3, z4, z5]) rfl ?_
  have HQ : stepSt f c ins r = { ({ r with vars := r.vars.set t (truV (!cnt r.vars[x])) } : St) with at_ := r.at_ + 1 } := by
    have ea : aOf r ⟨10, t, x, b, n, g⟩ = r.vars[x] := by unfold aOf; rw [if_pos (show nA 10 = true from rfl)]; exact varAt_eq hx
    have e0 : endI r ⟨10, t, x, b, n, g⟩ = 0 := by
      unfold endI
      (try rw [ea])
      (try rw [eb])
      exact end_none _ 10 (by omega)
    have en : nextAt r ⟨10, t, x, b, n, g⟩ (aOf r ⟨10, t, x, b, n, g⟩) = r.at_ + 1 := by unfold nextAt; rw [if_neg (by simp)]
    rw [HST.out, e0, if_neg (by simp), en, ea]
    rw [eff_10, Int.toNat_natCast]
  rw [HQ]
  exact ⟨_, _, _, _, rfl, HBK.out.1, HBK.out.2⟩
end Go.Proofs.YtmapdpcfanecdaaDoor

namespace Go.Proofs.YtmapdpcfanecdaaDoor
set_option linter.unusedVariables false
set_option linter.unusedSimpArgs false
open Go.RowKit
attribute [local go_sem ↓] Go.wp_at_zero Go.wp_at_succ

set_option maxHeartbeats 4000000 in
set_option maxRecDepth 20000 in
theorem stepR_9ee (v f : Nat) (s : Option Addr) (c : List Ins) (cap : Nat) (r : St) (vs : Option Addr) (vc : Nat) (ts : Option Addr) (tc : Nat) (ls : Option Addr) (lc : Nat) (is : Option Addr) (ic : Nat) (ins : List Int) (w : World) (hc : CodeAt w s c) (hr : RunAt w r vs ts ls) (hp : ProgOk v f c) (hk : RunOk v f c r) (hI : IntsAt w is ins) (hln : (r.lines.length + 1) * 16 ≤ 140737488355328) (t x y : Nat) (k : Nat) (n g : Int) (hf : r.fin = 0) (ha : r.at_ = (k : Int)) (hkl : k < c.length) (hck : c[k] = ⟨9, t, x, y, n, g⟩) (ht : t < r.vars.length) (hx : x < r.vars.length) (hy : y < r.vars.length) (hE1 : r.vars[x].k = r.vars[y].k) (hE2 : r.vars[x].n = r.vars[y].n) :
    Calls Tryd.prog 23 #[.agg #[.int .i64 (v : Int), .int .i64 (f : Int), .slice s c.length cap], runV r vs vc ts tc ls lc, .slice is ins.length ic] w fun e w' => ∃ vv tv lv fv, e = .returned (.agg #[.int .i64 (stepSt f c ins r).at_, vv, tv, .int .i64 (stepSt f c ins r).taken, lv, .int .i64 (stepSt f c ins r).fin]) ∧ OwnRows w' w.heap.size (stepSt f c ins r) vv tv lv fv ∧ Below w.heap.size w w' := by
  have hmf : ∀ (fn : Fn) (first cp : Array Value) (w : World), (Instr.makeFunc fn first cp).run Tryd.prog w = .ok (.func fn first cp) w := fun _ _ _ _ => rfl
  have HE := hideK (And.intro hE1 hE2)
  clear hE1 hE2
  have HF0 := hideK hf
  have HA0 := hideK ha
  have HK0 := hideK hck
  have HST := hideK (stepSt_at (F := f) (ins := ins) hf ha hkl hck)
  clear hf ha hck
  unfold runV
  obtain ⟨w3, e3, hb0, P0, Q0, Z0, HZ3, HCR⟩ := stPre v f s c cap r vs vc ts tc ls lc w hr hp hk hln
  clear hr
  go_enter Tryd.func23, Tryd.ntmps23
  go_wp2_with (go_at_call 50; fail)
  rw [← e3.out]
  clear e3
  refine HCR.out.mono ?_
  rintro e w4 ⟨vv, tv, lv, fv, rfl, OR, hb4⟩
  clear HCR
  obtain ⟨vs1, vc1, ts1, tc1, ls1, lc1, rfl, rfl, rfl, -⟩ := OR.at
  obtain ⟨w5, e5, O5, P5, Z5, H5, C5, I5, hz5, NRES⟩ := stPost HZ3.out OR P0 Q0 Z0 hb0 hb4 hc hI
  obtain ⟨⟨q0, q1, q2, q3, q4, q5⟩, qz, qf⟩ := id (Q0.call hb4)
  have g0 := qf 0
  have g1 := qf 1
  have g2 := qf 2
  have g3 := qf 3
  have g4 := qf 4
  have g5 := qf 5
  clear HZ3 P0 Q0 Z0 hb4 hc hI OR hb0 qf
  go_upto_region 2 with fail
  clear q0 q1 q2 q3 q4 q5 qz g0 g1 g2 g3 g4 g5
  rw [← e5.out]
  clear e5
  obtain ⟨⟨m0, m1, m2, m3, m4, m5⟩, mz, mf⟩ := id O5.r6
  obtain ⟨⟨p0, p1, p2⟩, pz⟩ := id P5
  have hfb : (r.fin != 0) = false := by rw [HF0.out]; rfl
  have hat0 : (0 : Int) ≤ r.at_ := by rw [HA0.out]; omega
  have hat60 : r.at_ ≤ 60 := by rw [HA0.out]; have := hp.len; omega
  rw [HA0.out] at m0
  rcases C5 with C5 | ⟨cb, co, rfl, hcb, hci⟩
  · rw [C5] at hkl; simp at hkl
  obtain ⟨i0, i1, i2, i3, i4, i5⟩ := hci k hkl
  rw [HK0.out] at i0 i1 i2 i3 i4 i5
  simp only at i0 i1 i2 i3 i4 i5
  have n0 : (0 : Int) ≤ (k : Int) := by omega
  have n1 : (k : Int) < (c.length : Int) := by omega
  have nk : ((k : Int) == (c.length : Int)) = false := by simp; omega
  have hk60 : (k : Int) ≤ 60 := by have := hp.len; omega
  obtain ⟨gb, gc, egb, hg1, hg2, hcell, hfz⟩ := O5.form (by have := hk.vars; have := hp.v1; omega)
  cases egb
  have HCL := hideK (And.intro hcell hfz)
  have HSI := hideK (SInv.new O5 P5 Z5 H5 hz5 NRES ⟨9, t, x, y, n, g⟩)
  have BW : Below w5.heap.size w5 (((w5.alloc (.cells #[.int .i64 9, .int .i64 t, .int .i64 x, .int .i64 y, .int .i64 n, .int .i64 g] 71)).alloc (.cells #[.int .i64 0, .int .i64 0] 94)).alloc (.cells #[.int .i64 0, .int .i64 0] 94)) := by go_grown
  clear hci mf hcell hfz O5 P5 Z5 hz5 NRES H5
  go_upto_region 9 with fail
  generalize (((w5.alloc (.cells #[.int .i64 9, .int .i64 t, .int .i64 x, .int .i64 y, .int .i64 n, .int .i64 g] 71)).alloc (.cells #[.int .i64 0, .int .i64 0] 94)).alloc (.cells #[.int .i64 0, .int .i64 0] 94)) = w6 at *
  have S := HSI.out
  clear HSI m0 m1 m2 m3 m4 m5 mz p0 p1 p2 pz i0 i1 i2 i3 i4 i5
  generalize w6 = wc at *
  clear w6
  have kx0 : wc.cell? ⟨gb, x * 2, none⟩ = some (.int .i64 r.vars[x].k) := by rw [BW.cell (by simpa using hg2)]; exact (HCL.out.1 x hx).1
  have kx1 : wc.cell? ⟨gb, x * 2 + 1, none⟩ = some (.int .i64 r.vars[x].n) := by rw [BW.cell (by simpa using hg2)]; exact (HCL.out.1 x hx).2
  have nnx0 : (0 : Int) ≤ (x : Int) := by omega
  have nnx1 : (x : Int) < (r.vars.length : Int) := by omega
  obtain ⟨j0, j1, j2, j3, j4, j5, jz, p0, p1, p2, pz, m0, m1, m2, m3, m4, m5, mz, mf2, mf3, mf4, mf5, a0, a1, az, af0, af1, b0, b1, bz, bf0, bf1⟩ := S.all
  (try simp only at j0 j1 j2 j3 j4 j5 a0 a1 b0 b1)
  go_upto_region 11 with (first | (go_at_call 36; refine (between_any _ _ _ _).mono ?_; rintro e w' ⟨rfl, hw'⟩; rw [hw', show btw 9 5 8 = false from rfl]; clear hw' w') | (go_at_call 51; refine (namesA_any _ _).mono ?_; rintro e w' ⟨rfl, hw'⟩; rw [hw', show nA 9 = true from rfl]; clear hw' w') | (go_at_call 52; refine (namesB_any _ _).mono ?_; rintro e w' ⟨rfl, hw'⟩; rw [hw', show nB 9 = true from rfl]; clear hw' w') | (go_at_call 57; refine (namesTo_any _ _).mono ?_; rintro e w' ⟨rfl, hw'⟩; rw [hw', show nTo 9 = true from rfl]; clear hw' w'))
  have SP := S.putA r.vars[x]
  have BP : Below w5.heap.size w5 ((wc.setCell ⟨w5.heap.size + 1, 0, none⟩ (.int .i64 r.vars[x].k)).setCell ⟨w5.heap.size + 1, 1, none⟩ (.int .i64 r.vars[x].n)) := (BW.setCell (by simp only; omega) _).setCell (by simp only; omega) _
  clear j0 j1 j2 j3 j4 j5 jz p0 p1 p2 pz m0 m1 m2 m3 m4 m5 mz mf2 mf3 mf4 mf5 a0 a1 az af0 af1 b0 b1 bz bf0 bf1
  clear kx0 kx1 S BW
  generalize ((wc.setCell ⟨w5.heap.size + 1, 0, none⟩ (.int .i64 r.vars[x].k)).setCell ⟨w5.heap.size + 1, 1, none⟩ (.int .i64 r.vars[x].n)) = wd at *
  have S := SP
  have BW := BP
  clear SP BP
  generalize wd = wc at *
  clear wd
  have ky0 : wc.cell? ⟨gb, y * 2, none⟩ = some (.int .i64 r.vars[y].k) := by rw [BW.cell (by simpa using hg2)]; exact (HCL.out.1 y hy).1
  have ky1 : wc.cell? ⟨gb, y * 2 + 1, none⟩ = some (.int .i64 r.vars[y].n) := by rw [BW.cell (by simpa using hg2)]; exact (HCL.out.1 y hy).2
  have nny0 : (0 : Int) ≤ (y : Int) := by omega
  have nny1 : (y : Int) < (r.vars.length : Int) := by omega
  obtain ⟨j0, j1, j2, j3, j4, j5, jz, p0, p1, p2, pz, m0, m1, m2, m3, m4, m5, mz, mf2, mf3, mf4, mf5, a0, a1, az, af0, af1, b0, b1, bz, bf0, bf1⟩ := S.all
  (try simp only at j0 j1 j2 j3 j4 j5 a0 a1 b0 b1)
  go_upto_region 13 with (first | (go_at_call 36; refine (between_any _ _ _ _).mono ?_; rintro e w' ⟨rfl, hw'⟩; rw [hw', show btw 9 5 8 = false from rfl]; clear hw' w') | (go_at_call 51; refine (namesA_any _ _).mono ?_; rintro e w' ⟨rfl, hw'⟩; rw [hw', show nA 9 = true from rfl]; clear hw' w') | (go_at_call 52; refine (namesB_any _ _).mono ?_; rintro e w' ⟨rfl, hw'⟩; rw [hw', show nB 9 = true from rfl]; clear hw' w') | (go_at_call 57; refine (namesTo_any _ _).mono ?_; rintro e w' ⟨rfl, hw'⟩; rw [hw', show nTo 9 = true from rfl]; clear hw' w'))
  have SP := S.putB r.vars[y]
  have BP : Below w5.heap.size w5 ((wc.setCell ⟨w5.heap.size + 1 + 1, 0, none⟩ (.int .i64 r.vars[y].k)).setCell ⟨w5.heap.size + 1 + 1, 1, none⟩ (.int .i64 r.vars[y].n)) := (BW.setCell (by simp only; omega) _).setCell (by simp only; omega) _
  clear j0 j1 j2 j3 j4 j5 jz p0 p1 p2 pz m0 m1 m2 m3 m4 m5 mz mf2 mf3 mf4 mf5 a0 a1 az af0 af1 b0 b1 bz bf0 bf1
  clear ky0 ky1 S BW
  generalize ((wc.setCell ⟨w5.heap.size + 1 + 1, 0, none⟩ (.int .i64 r.vars[y].k)).setCell ⟨w5.heap.size + 1 + 1, 1, none⟩ (.int .i64 r.vars[y].n)) = wd at *
  have S := SP
  have BW := BP
  clear SP BP
  generalize wd = wc at *
  clear wd
  obtain ⟨j0, j1, j2, j3, j4, j5, jz, p0, p1, p2, pz, m0, m1, m2, m3, m4, m5, mz, mf2, mf3, mf4, mf5, a0, a1, az, af0, af1, b0, b1, bz, bf0, bf1⟩ := S.all
  (try simp only at j0 j1 j2 j3 j4 j5 a0 a1 b0 b1)
  rw [HE.out.1] at a0
  rw [HE.out.2] at a1
  go_upto_region 24 with (first | (go_at_call 36; refine (between_any _ _ _ _).mono ?_; rintro e w' ⟨rfl, hw'⟩; rw [hw', show btw 9 5 8 = false from rfl]; clear hw' w') | (go_at_call 51; refine (namesA_any _ _).mono ?_; rintro e w' ⟨rfl, hw'⟩; rw [hw', show nA 9 = true from rfl]; clear hw' w') | (go_at_call 52; refine (namesB_any _ _).mono ?_; rintro e w' ⟨rfl, hw'⟩; rw [hw', show nB 9 = true from rfl]; clear hw' w') | (go_at_call 57; refine (namesTo_any _ _).mono ?_; rintro e w' ⟨rfl, hw'⟩; rw [hw', show nTo 9 = true from rfl]; clear hw' w'))
  have VZ := VAt.new wc ⟨0, 0⟩
  (try simp only at VZ)
  have SN := S.call (wy := (wc.alloc (.cells #[.int .i64 0, .int .i64 0] 94))) (by go_grown)
  have BN : Below w5.heap.size w5 (wc.alloc (.cells #[.int .i64 0, .int .i64 0] 94)) := BW.alloc BW.size _
  have hbv : w5.heap.size + 1 + 1 < wc.heap.size := S.vb.2.1
  clear j0 j1 j2 j3 j4 j5 jz p0 p1 p2 pz m0 m1 m2 m3 m4 m5 mz mf2 mf3 mf4 mf5 a0 a1 az af0 af1 b0 b1 bz bf0 bf1
  clear S BW
  generalize (wc.alloc (.cells #[.int .i64 0, .int .i64 0] 94)) = wv at *
  have S := SN
  have BW := BN
  clear SN BN
  obtain ⟨j0, j1, j2, j3, j4, j5, jz, p0, p1, p2, pz, m0, m1, m2, m3, m4, m5, mz, mf2, mf3, mf4, mf5, a0, a1, az, af0, af1, b0, b1, bz, bf0, bf1⟩ := S.all
  (try simp only at j0 j1 j2 j3 j4 j5 a0 a1 b0 b1)
  rw [HE.out.1] at a0
  rw [HE.out.2] at a1
  go_wp2_with (go_at_call 54; fail)
  refine (truthR_any true wc.heap.size wv VZ).mono ?_
  rintro e wd ⟨rfl, V9, FR9, hb9⟩
  have SN := S.only hbv FR9 hb9
  have BN : Below w5.heap.size w5 wd := BW.trans (hb9.mono (by omega))
  clear j0 j1 j2 j3 j4 j5 jz p0 p1 p2 pz m0 m1 m2 m3 m4 m5 mz mf2 mf3 mf4 mf5 a0 a1 az af0 af1 b0 b1 bz bf0 bf1
  clear S BW VZ FR9 hb9
  have S := SN
  have BW := BN
  clear SN BN
  obtain ⟨j0, j1, j2, j3, j4, j5, jz, p0, p1, p2, pz, m0, m1, m2, m3, m4, m5, mz, mf2, mf3, mf4, mf5, a0, a1, az, af0, af1, b0, b1, bz, bf0, bf1⟩ := S.all
  (try simp only at j0 j1 j2 j3 j4 j5 a0 a1 b0 b1)
  go_upto_region 61 with (first | (go_at_call 36; refine (between_any _ _ _ _).mono ?_; rintro e w' ⟨rfl, hw'⟩; rw [hw', show btw 9 5 8 = false from rfl]; clear hw' w') | (go_at_call 51; refine (namesA_any _ _).mono ?_; rintro e w' ⟨rfl, hw'⟩; rw [hw', show nA 9 = true from rfl]; clear hw' w') | (go_at_call 52; refine (namesB_any _ _).mono ?_; rintro e w' ⟨rfl, hw'⟩; rw [hw', show nB 9 = true from rfl]; clear hw' w') | (go_at_call 57; refine (namesTo_any _ _).mono ?_; rintro e w' ⟨rfl, hw'⟩; rw [hw', show nTo 9 = true from rfl]; clear hw' w'))
  clear j0 j1 j2 j3 j4 j5 jz p0 p1 p2 pz m0 m1 m2 m3 m4 m5 mz mf2 mf3 mf4 mf5 a0 a1 az af0 af1 b0 b1 bz bf0 bf1
  have kt0 : wd.cell? ⟨gb, t * 2, none⟩ = some (.int .i64 r.vars[t].k) := by rw [BW.cell (by simpa using hg2)]; exact (HCL.out.1 t ht).1
  have kt1 : wd.cell? ⟨gb, t * 2 + 1, none⟩ = some (.int .i64 r.vars[t].n) := by rw [BW.cell (by simpa using hg2)]; exact (HCL.out.1 t ht).2
  have ft0 : wd.frozen? ⟨gb, t * 2, none⟩ = false := by rw [BW.frozen (by simpa using hg2)]; exact HCL.out.2 _
  have ft1 : wd.frozen? ⟨gb, t * 2 + 1, none⟩ = false := by rw [BW.frozen (by simpa using hg2)]; exact HCL.out.2 _
  have nnt0 : (0 : Int) ≤ (t : Int) := by omega
  have nnt1 : (t : Int) < (r.vars.length : Int) := by omega
  obtain ⟨j0, j1, j2, j3, j4, j5, jz, p0, p1, p2, pz, m0, m1, m2, m3, m4, m5, mz, mf2, mf3, mf4, mf5, a0, a1, az, af0, af1, b0, b1, bz, bf0, bf1⟩ := S.all
  (try simp only at j0 j1 j2 j3 j4 j5 a0 a1 b0 b1)
  obtain ⟨⟨v0, v1⟩, vz, -⟩ := id V9
  (try simp only at v0 v1)
  have hgv : gb ≠ wc.heap.size := by omega
  go_upto_region 63 with (first | (go_at_call 36; refine (between_any _ _ _ _).mono ?_; rintro e w' ⟨rfl, hw'⟩; rw [hw', show btw 9 5 8 = false from rfl]; clear hw' w') | (go_at_call 51; refine (namesA_any _ _).mono ?_; rintro e w' ⟨rfl, hw'⟩; rw [hw', show nA 9 = true from rfl]; clear hw' w') | (go_at_call 52; refine (namesB_any _ _).mono ?_; rintro e w' ⟨rfl, hw'⟩; rw [hw', show nB 9 = true from rfl]; clear hw' w') | (go_at_call 57; refine (namesTo_any _ _).mono ?_; rintro e w' ⟨rfl, hw'⟩; rw [hw', show nTo 9 = true from rfl]; clear hw' w'))
  have O9 := S.own.put t ht (truV true)
  have FR := frame_put (bs := ownBlocks (w.heap.size + 1) (.slice (some ⟨gb, 0, none⟩) r.vars.length vc1) (.slice ts1 r.things.length tc1) (.slice ls1 r.lines.length lc1) fv) (Below.refl wd.heap.size wd) (g := gb) (by simp only [ownBlocks, List.mem_cons]; right; left; rfl) (t * 2) (t * 2 + 1) (.int .i64 (truV true).k) (.int .i64 (truV true).n)
  have hsz : wd.heap.size ≤ ((wd.setCell ⟨gb, t * 2, none⟩ (.int .i64 (truV true).k)).setCell ⟨gb, t * 2 + 1, none⟩ (.int .i64 (truV true).n)).heap.size := by simp [World.setCell]
  have res9 := S.res.own FR hsz S.nres
  have ins9 := S.ins.own FR hsz (fun hm => Nat.lt_irrefl _ (S.lt _ hm))
  have low9 : Below w.heap.size w ((wd.setCell ⟨gb, t * 2, none⟩ (.int .i64 (truV true).k)).setCell ⟨gb, t * 2 + 1, none⟩ (.int .i64 (truV true).n)) := (S.low.setCell (by simp only; omega) _).setCell (by simp only; omega) _
  have nres9 := S.nres
  clear j0 j1 j2 j3 j4 j5 jz p0 p1 p2 pz m0 m1 m2 m3 m4 m5 mz mf2 mf3 mf4 mf5 a0 a1 az af0 af1 b0 b1 bz bf0 bf1
  clear kt0 kt1 ft0 ft1 v0 v1 vz S BW V9 FR hsz
  generalize ((wd.setCell ⟨gb, t * 2, none⟩ (.int .i64 (truV true).k)).setCell ⟨gb, t * 2 + 1, none⟩ (.int .i64 (truV true).n)) = we at *
  obtain ⟨⟨j0, j1, j2, j3, j4, j5⟩, jz, -⟩ := id ins9
  (try simp only at j0 j1 j2 j3 j4 j5)
  have m0 := O9.at_
  (try simp only at m0)
  have mf0 := O9.thaw 0
  go_upto_region 66 with (first | (go_at_call 36; refine (between_any _ _ _ _).mono ?_; rintro e w' ⟨rfl, hw'⟩; rw [hw', show btw 9 5 8 = false from rfl]; clear hw' w') | (go_at_call 51; refine (namesA_any _ _).mono ?_; rintro e w' ⟨rfl, hw'⟩; rw [hw', show nA 9 = true from rfl]; clear hw' w') | (go_at_call 52; refine (namesB_any _ _).mono ?_; rintro e w' ⟨rfl, hw'⟩; rw [hw', show nB 9 = true from rfl]; clear hw' w') | (go_at_call 57; refine (namesTo_any _ _).mono ?_; rintro e w' ⟨rfl, hw'⟩; rw [hw', show nTo 9 = true from rfl]; clear hw' w'))
  have O10 := O9.withAt (r.at_ + 1)
  have res10 := res9.far (a := ⟨w.heap.size + 1, 0, none⟩) (by simp) (.int .i64 (r.at_ + 1))
  have low10 : Below w.heap.size w (we.setCell ⟨w.heap.size + 1, 0, none⟩ (.int .i64 (r.at_ + 1))) := low9.setCell (by simp only; omega) _
  clear m0 mf0 O9 res9 low9
  generalize (we.setCell ⟨w.heap.size + 1, 0, none⟩ (.int .i64 (r.at_ + 1))) = wf at *
  obtain ⟨⟨m0, m1, m2, m3, m4, m5⟩, mz, -⟩ := id O10.r6
  (try simp only at m0)
  (try simp only at m1)
  (try simp only at m2)
  (try simp only at m3)
  (try simp only at m4)
  (try simp only at m5)
  obtain ⟨⟨z0, z1, z2, z3, z4, z5⟩, zz, zf⟩ := id res10
  have g0 := zf 0
  have g1 := zf 1
  have g2 := zf 2
  have g3 := zf 3
  have g4 := zf 4
  have g5 := zf 5
  have HBK := hideK (own_back O10 nres9 low10)
  clear zf O10 res10 low10 nres9
  rename_i K0 hK0
  refine wp_region_lit ?_
  refine wpList_plain rfl (fun K2 hK2 => ?_)
  go_simp
  refine hK2 _ _ ?_
  clear hK2 K2
  (try simp only [Act.put, List.getElem_toArray, List.getElem_cons_zero, List.getElem_cons_succ, List.setIfInBounds_toArray, List.set_cons_zero, List.set_cons_succ])
  refine wpList_plain rfl (fun K2 hK2 => ?_)
  go_simp
  refine hK2 _ _ ?_
  clear hK2 K2
  refine hK0 _ _ ?_
  refine wp_ret ?_
  (try simp only [Exit.then])
  refine bodyPost_ret (v := .agg #[.int .i64 (r.at_ + 1), .slice (some ⟨gb, 0, none⟩) r.vars.length vc1, .slice ts1 r.things.length tc1, .int .i64 (r.taken), .slice ls1 r.lines.length lc1, .int .i64 (r.fin)]) (by simp [results, Tryd.results23, go_sem, z0, z1, z2, z3, z4, z5]) rfl ?_
  have HQ : stepSt f c ins r = { ({ r with vars := r.vars.set t (truV true) } : St) with at_ := r.at_ + 1 } := by
    have ea : aOf r ⟨9, t, x, y, n, g⟩ = r.vars[x] := by unfold aOf; rw [if_pos (show nA 9 = true from rfl)]; exact varAt_eq hx
    have eb : bOf r ⟨9, t, x, y, n, g⟩ = r.vars[y] := by unfold bOf; rw [if_pos (show nB 9 = true from rfl)]; exact varAt_eq hy
    have e0 : endI r ⟨9, t, x, y, n, g⟩ = 0 := by
      unfold endI
      (try rw [ea])
      (try rw [eb])
      exact end_none _ 9 (by omega)
    have en : nextAt r ⟨9, t, x, y, n, g⟩ (aOf r ⟨9, t, x, y, n, g⟩) = r.at_ + 1 := by unfold nextAt; rw [if_neg (by simp)]
    rw [HST.out, e0, if_neg (by simp), en, ea, eb]
    rw [eff_9, Int.toNat_natCast, decide_eq_true HE.out.1, decide_eq_true HE.out.2]; rfl
  rw [HQ]
  exact ⟨_, _, _, _, rfl, HBK.out.1, HBK.out.2⟩
end Go.Proofs.YtmapdpcfanecdaaDoor
