/- Walks over package run: what the machine does, kind by kind. -/
import Derived.Test.YtmapdpcfanecdaaDoorKlawrrp09
import Derived.Test.YtmapdpcfanecdaaDoorKlawrrp28
import Derived.Test.YtmapdpcfanecdaaDoorKlawrrp45
import Derived.Deep.DeepCutAuto
import Derived.Laws.EntriesVeiled
namespace Go.Proofs.YtmapdpcfanecdaaDoor
set_option linter.unusedVariables false
set_option linter.unusedSimpArgs false
open Go.RowKit
attribute [local go_sem ↓] Go.wp_at_zero Go.wp_at_succ

set_option maxHeartbeats 4000000 in
set_option maxRecDepth 20000 in
theorem stepR_14m (v f : Nat) (s : Option Addr) (c : List Ins) (cap : Nat) (r : St) (vs : Option Addr) (vc : Nat) (ts : Option Addr) (tc : Nat) (ls : Option Addr) (lc : Nat) (is : Option Addr) (ic : Nat) (ins : List Int) (w : World) (hc : CodeAt w s c) (hr : RunAt w r vs ts ls) (hp : ProgOk v f c) (hk : RunOk v f c r) (hI : IntsAt w is ins) (hln : (r.lines.length + 1) * 16 ≤ 140737488355328) (t : Nat) (k : Nat) (a b n g : Int) (hf : r.fin = 0) (ha : r.at_ = (k : Int)) (hkl : k < c.length) (hck : c[k] = ⟨14, t, a, b, n, g⟩) (ht : t < r.vars.length) (hn0 : 0 ≤ n) (hn1 : n ≤ 1000000) (j : Nat) (hj : r.taken = (j : Int)) (hjl : j < ins.length) (hle : ins[j] ≤ n) (hge : -n ≤ ins[j]) :
    Calls Tryd.prog 23 #[.agg #[.int .i64 (v : Int), .int .i64 (f : Int), .slice s c.length cap], runV r vs vc ts tc ls lc, .slice is ins.length ic] w fun e w' => ∃ vv tv lv fv, e = .returned (.agg #[.int .i64 (stepSt f c ins r).at_, vv, tv, .int .i64 (stepSt f c ins r).taken, lv, .int .i64 (stepSt f c ins r).fin]) ∧ OwnRows w' w.heap.size (stepSt f c ins r) vv tv lv fv ∧ Below w.heap.size w w' := by
  have hmf : ∀ (fn : Fn) (first cp : Array Value) (w : World), (Instr.makeFunc fn first cp).run Tryd.prog w = .ok (.func fn first cp) w := fun _ _ _ _ => rfl
  have HJ := hideK hj
  clear hj
  have nj0 : (0 : Int) ≤ (j : Int) := by omega
  have nj1 : (j : Int) < (ins.length : Int) := by omega
  have gn0 : -9223372036854775808 ≤ -n := by omega
  have gn1 : -n ≤ 9223372036854775807 := by omega
  have q1 : ¬ (n < ins[j]) := by omega
  have q2 : ¬ (ins[j] < -n) := by omega
  have HCM : Hid ((if r.taken < ins.length then clamp n (ins.getD r.taken.toNat 0) else 0) = ins[j]) := hideK (by rw [val14 HJ.out hjl]; unfold clamp; rw [if_neg (by omega), if_neg (by omega)])
  clear hle hge
  have HF0 := hideK hf
  have HA0 := hideK ha
  have HK0 := hideK hck
  have HST := hideK (stepSt_at (F := f) (ins := ins) hf ha hkl hck)
  clear hf ha hck
  unfold runV
  obtain ⟨w3, e3, hb0, P0, Q0, Z0, HZ3, HCR⟩ := stPre v f s c cap r vs vc ts tc ls lc w hr hp hk hln
  clear hr
  go_enter Tryd.func23, Tryd.ntmps23
  go_wp2_with (go_at_call 50; fail)
  rw [← e3.out]
  clear e3
  refine HCR.out.mono ?_
  rintro e w4 ⟨vv, tv, lv, fv, rfl, OR, hb4⟩
  clear HCR
  obtain ⟨vs1, vc1, ts1, tc1, ls1, lc1, rfl, rfl, rfl, -⟩ := OR.at
  obtain ⟨w5, e5, O5, P5, Z5, H5, C5, I5, hz5, NRES⟩ := stPost HZ3.out OR P0 Q0 Z0 hb0 hb4 hc hI
  obtain ⟨⟨q0, q1, q2, q3, q4, q5⟩, qz, qf⟩ := id (Q0.call hb4)
  have g0 := qf 0
  have g1 := qf 1
  have g2 := qf 2
  have g3 := qf 3
  have g4 := qf 4
  have g5 := qf 5
  clear HZ3 P0 Q0 Z0 hb4 hc hI OR hb0 qf
  go_upto_region 2 with fail
  clear q0 q1 q2 q3 q4 q5 qz g0 g1 g2 g3 g4 g5
  rw [← e5.out]
  clear e5
  obtain ⟨⟨m0, m1, m2, m3, m4, m5⟩, mz, mf⟩ := id O5.r6
  obtain ⟨⟨p0, p1, p2⟩, pz⟩ := id P5
  have hfb : (r.fin != 0) = false := by rw [HF0.out]; rfl
  have hat0 : (0 : Int) ≤ r.at_ := by rw [HA0.out]; omega
  have hat60 : r.at_ ≤ 60 := by rw [HA0.out]; have := hp.len; omega
  rw [HA0.out] at m0
  rcases C5 with C5 | ⟨cb, co, rfl, hcb, hci⟩
  · rw [C5] at hkl; simp at hkl
  obtain ⟨i0, i1, i2, i3, i4, i5⟩ := hci k hkl
  rw [HK0.out] at i0 i1 i2 i3 i4 i5
  simp only at i0 i1 i2 i3 i4 i5
  have n0 : (0 : Int) ≤ (k : Int) := by omega
  have n1 : (k : Int) < (c.length : Int) := by omega
  have nk : ((k : Int) == (c.length : Int)) = false := by simp; omega
  have hk60 : (k : Int) ≤ 60 := by have := hp.len; omega
  obtain ⟨gb, gc, egb, hg1, hg2, hcell, hfz⟩ := O5.form (by have := hk.vars; have := hp.v1; omega)
  cases egb
  have HCL := hideK (And.intro hcell hfz)
  have HSI := hideK (SInv.new O5 P5 Z5 H5 hz5 NRES ⟨14, t, a, b, n, g⟩)
  have BW : Below w5.heap.size w5 (((w5.alloc (.cells #[.int .i64 14, .int .i64 t, .int .i64 a, .int .i64 b, .int .i64 n, .int .i64 g] 71)).alloc (.cells #[.int .i64 0, .int .i64 0] 94)).alloc (.cells #[.int .i64 0, .int .i64 0] 94)) := by go_grown
  clear hci mf hcell hfz O5 P5 Z5 hz5 NRES H5
  go_upto_region 9 with fail
  generalize (((w5.alloc (.cells #[.int .i64 14, .int .i64 t, .int .i64 a, .int .i64 b, .int .i64 n, .int .i64 g] 71)).alloc (.cells #[.int .i64 0, .int .i64 0] 94)).alloc (.cells #[.int .i64 0, .int .i64 0] 94)) = w6 at *
  have S := HSI.out
  clear HSI m0 m1 m2 m3 m4 m5 mz p0 p1 p2 pz i0 i1 i2 i3 i4 i5
  generalize w6 = wc at *
  clear w6
  obtain ⟨j0, j1, j2, j3, j4, j5, jz, p0, p1, p2, pz, m0, m1, m2, m3, m4, m5, mz, mf2, mf3, mf4, mf5, a0, a1, az, af0, af1, b0, b1, bz, bf0, bf1⟩ := S.all
  (try simp only at j0 j1 j2 j3 j4 j5 a0 a1 b0 b1)
  go_upto_region 24 with (first | (go_at_call 36; refine (between_any _ _ _ _).mono ?_; rintro e w' ⟨rfl, hw'⟩; rw [hw', show btw 14 5 8 = false from rfl]; clear hw' w') | (go_at_call 51; refine (namesA_any _ _).mono ?_; rintro e w' ⟨rfl, hw'⟩; rw [hw', show nA 14 = false from rfl]; clear hw' w') | (go_at_call 52; refine (namesB_any _ _).mono ?_; rintro e w' ⟨rfl, hw'⟩; rw [hw', show nB 14 = false from rfl]; clear hw' w') | (go_at_call 57; refine (namesTo_any _ _).mono ?_; rintro e w' ⟨rfl, hw'⟩; rw [hw', show nTo 14 = true from rfl]; clear hw' w'))
  have VZ := VAt.new wc ⟨0, 0⟩
  (try simp only at VZ)
  have SN := S.call (wy := (wc.alloc (.cells #[.int .i64 0, .int .i64 0] 94))) (by go_grown)
  have BN : Below w5.heap.size w5 (wc.alloc (.cells #[.int .i64 0, .int .i64 0] 94)) := BW.alloc BW.size _
  have hbv : w5.heap.size + 1 + 1 < wc.heap.size := S.vb.2.1
  clear j0 j1 j2 j3 j4 j5 jz p0 p1 p2 pz m0 m1 m2 m3 m4 m5 mz mf2 mf3 mf4 mf5 a0 a1 az af0 af1 b0 b1 bz bf0 bf1
  clear S BW
  generalize (wc.alloc (.cells #[.int .i64 0, .int .i64 0] 94)) = wv at *
  have S := SN
  have BW := BN
  clear SN BN
  rcases I5 with hi | ⟨ib, io, rfl, hib, hii⟩
  · rw [hi] at hjl; simp at hjl
  have c0 : wv.cell? ⟨ib, io + j, none⟩ = some (.int .i64 ins[j]) := by rw [BW.cell (by simpa using hib)]; exact hii j hjl
  have hnb : ib ≠ wc.heap.size := by omega
  clear hii
  obtain ⟨j0, j1, j2, j3, j4, j5, jz, p0, p1, p2, pz, m0, m1, m2, m3, m4, m5, mz, mf2, mf3, mf4, mf5, a0, a1, az, af0, af1, b0, b1, bz, bf0, bf1⟩ := S.all
  (try simp only at j0 j1 j2 j3 j4 j5 a0 a1 b0 b1)
  rw [HJ.out] at m3
  obtain ⟨⟨v0, v1⟩, vz, vf⟩ := id VZ
  (try simp only at v0 v1)
  have vf0 := vf 0
  have vf1 := vf 1
  clear vf
  go_upto_region 58 with (first | (go_at_call 36; refine (between_any _ _ _ _).mono ?_; rintro e w' ⟨rfl, hw'⟩; rw [hw', show btw 14 5 8 = false from rfl]; clear hw' w') | (go_at_call 51; refine (namesA_any _ _).mono ?_; rintro e w' ⟨rfl, hw'⟩; rw [hw', show nA 14 = false from rfl]; clear hw' w') | (go_at_call 52; refine (namesB_any _ _).mono ?_; rintro e w' ⟨rfl, hw'⟩; rw [hw', show nB 14 = false from rfl]; clear hw' w') | (go_at_call 57; refine (namesTo_any _ _).mono ?_; rintro e w' ⟨rfl, hw'⟩; rw [hw', show nTo 14 = true from rfl]; clear hw' w'))
  have V9 : VAt ((wv.setCell ⟨wc.heap.size, 0, none⟩ (.int .i64 1)).setCell ⟨wc.heap.size, 1, none⟩ (.int .i64 ins[j])) wc.heap.size (⟨1, ins[j]⟩ : Val) := ((VZ.setK 1).setN ins[j])
  have SN := ((S.far (a := ⟨wc.heap.size, 0, none⟩) hbv (.int .i64 1)).far (a := ⟨wc.heap.size, 1, none⟩) hbv (.int .i64 ins[j]))
  clear j0 j1 j2 j3 j4 j5 jz p0 p1 p2 pz m0 m1 m2 m3 m4 m5 mz mf2 mf3 mf4 mf5 a0 a1 az af0 af1 b0 b1 bz bf0 bf1
  clear v0 v1 vz vf0 vf1 S BW VZ c0 hnb
  generalize ((wv.setCell ⟨wc.heap.size, 0, none⟩ (.int .i64 1)).setCell ⟨wc.heap.size, 1, none⟩ (.int .i64 ins[j])) = wu at *
  have S := SN
  clear SN
  obtain ⟨j0, j1, j2, j3, j4, j5, jz, p0, p1, p2, pz, m0, m1, m2, m3, m4, m5, mz, mf2, mf3, mf4, mf5, a0, a1, az, af0, af1, b0, b1, bz, bf0, bf1⟩ := S.all
  (try simp only at j0 j1 j2 j3 j4 j5 a0 a1 b0 b1)
  go_upto_region 61 with (first | (go_at_call 36; refine (between_any _ _ _ _).mono ?_; rintro e w' ⟨rfl, hw'⟩; rw [hw', show btw 14 5 8 = false from rfl]; clear hw' w') | (go_at_call 51; refine (namesA_any _ _).mono ?_; rintro e w' ⟨rfl, hw'⟩; rw [hw', show nA 14 = false from rfl]; clear hw' w') | (go_at_call 52; refine (namesB_any _ _).mono ?_; rintro e w' ⟨rfl, hw'⟩; rw [hw', show nB 14 = false from rfl]; clear hw' w') | (go_at_call 57; refine (namesTo_any _ _).mono ?_; rintro e w' ⟨rfl, hw'⟩; rw [hw', show nTo 14 = true from rfl]; clear hw' w'))
  have SN := S.taken (wrap64 (r.taken + 1))
  have VN := V9.set (a := ⟨w.heap.size + 1, 3, none⟩) (by simp only; omega) (.int .i64 (wrap64 (r.taken + 1)))
  clear j0 j1 j2 j3 j4 j5 jz p0 p1 p2 pz m0 m1 m2 m3 m4 m5 mz mf2 mf3 mf4 mf5 a0 a1 az af0 af1 b0 b1 bz bf0 bf1
  clear S V9 HCL
  generalize (wu.setCell ⟨w.heap.size + 1, 3, none⟩ (.int .i64 (wrap64 (r.taken + 1)))) = wd at *
  have S := SN
  have V9 := VN
  clear SN VN
  obtain ⟨gb2, gc2, eg2, -, -, hcell2, hfz2⟩ := S.own.form (show 0 < r.vars.length by have := hk.vars; have := hp.v1; omega)
  cases eg2
  have HCL : Hid ((∀ (i : Nat) (h : i < r.vars.length), wd.cell? ⟨gb, i * 2, none⟩ = some (.int .i64 r.vars[i].k) ∧ wd.cell? ⟨gb, i * 2 + 1, none⟩ = some (.int .i64 r.vars[i].n)) ∧ ∀ j, wd.frozen? ⟨gb, j, none⟩ = false) := hideK ⟨hcell2, hfz2⟩
  clear hcell2 hfz2
  have BW : Below wd.heap.size wd wd := Below.refl _ _
  have hg2 : gb < wd.heap.size := S.own.lt (by simp only [ownBlocks, List.mem_cons]; right; left; rfl)
  have kt0 : wd.cell? ⟨gb, t * 2, none⟩ = some (.int .i64 r.vars[t].k) := by rw [BW.cell (by simpa using hg2)]; exact (HCL.out.1 t ht).1
  have kt1 : wd.cell? ⟨gb, t * 2 + 1, none⟩ = some (.int .i64 r.vars[t].n) := by rw [BW.cell (by simpa using hg2)]; exact (HCL.out.1 t ht).2
  have ft0 : wd.frozen? ⟨gb, t * 2, none⟩ = false := by rw [BW.frozen (by simpa using hg2)]; exact HCL.out.2 _
  have ft1 : wd.frozen? ⟨gb, t * 2 + 1, none⟩ = false := by rw [BW.frozen (by simpa using hg2)]; exact HCL.out.2 _
  have nnt0 : (0 : Int) ≤ (t : Int) := by omega
  have nnt1 : (t : Int) < (r.vars.length : Int) := by omega
  obtain ⟨j0, j1, j2, j3, j4, j5, jz, p0, p1, p2, pz, m0, m1, m2, m3, m4, m5, mz, mf2, mf3, mf4, mf5, a0, a1, az, af0, af1, b0, b1, bz, bf0, bf1⟩ := S.all
  (try simp only at j0 j1 j2 j3 j4 j5 a0 a1 b0 b1)
  obtain ⟨⟨v0, v1⟩, vz, -⟩ := id V9
  (try simp only at v0 v1)
  have hgv : gb ≠ wc.heap.size := by omega
  go_upto_region 63 with (first | (go_at_call 36; refine (between_any _ _ _ _).mono ?_; rintro e w' ⟨rfl, hw'⟩; rw [hw', show btw 14 5 8 = false from rfl]; clear hw' w') | (go_at_call 51; refine (namesA_any _ _).mono ?_; rintro e w' ⟨rfl, hw'⟩; rw [hw', show nA 14 = false from rfl]; clear hw' w') | (go_at_call 52; refine (namesB_any _ _).mono ?_; rintro e w' ⟨rfl, hw'⟩; rw [hw', show nB 14 = false from rfl]; clear hw' w') | (go_at_call 57; refine (namesTo_any _ _).mono ?_; rintro e w' ⟨rfl, hw'⟩; rw [hw', show nTo 14 = true from rfl]; clear hw' w'))
  have O9 := S.own.put t ht (⟨1, ins[j]⟩ : Val)
  have FR := frame_put (bs := ownBlocks (w.heap.size + 1) (.slice (some ⟨gb, 0, none⟩) r.vars.length vc1) (.slice ts1 r.things.length tc1) (.slice ls1 r.lines.length lc1) fv) (Below.refl wd.heap.size wd) (g := gb) (by simp only [ownBlocks, List.mem_cons]; right; left; rfl) (t * 2) (t * 2 + 1) (.int .i64 (⟨1, ins[j]⟩ : Val).k) (.int .i64 (⟨1, ins[j]⟩ : Val).n)
  have hsz : wd.heap.size ≤ ((wd.setCell ⟨gb, t * 2, none⟩ (.int .i64 (⟨1, ins[j]⟩ : Val).k)).setCell ⟨gb, t * 2 + 1, none⟩ (.int .i64 (⟨1, ins[j]⟩ : Val).n)).heap.size := by simp [World.setCell]
  have res9 := S.res.own FR hsz S.nres
  have ins9 := S.ins.own FR hsz (fun hm => Nat.lt_irrefl _ (S.lt _ hm))
  have low9 : Below w.heap.size w ((wd.setCell ⟨gb, t * 2, none⟩ (.int .i64 (⟨1, ins[j]⟩ : Val).k)).setCell ⟨gb, t * 2 + 1, none⟩ (.int .i64 (⟨1, ins[j]⟩ : Val).n)) := (S.low.setCell (by simp only; omega) _).setCell (by simp only; omega) _
  have nres9 := S.nres
  clear j0 j1 j2 j3 j4 j5 jz p0 p1 p2 pz m0 m1 m2 m3 m4 m5 mz mf2 mf3 mf4 mf5 a0 a1 az af0 af1 b0 b1 bz bf0 bf1
  clear kt0 kt1 ft0 ft1 v0 v1 vz S BW V9 FR hsz
  generalize ((wd.setCell ⟨gb, t * 2, none⟩ (.int .i64 (⟨1, ins[j]⟩ : Val).k)).setCell ⟨gb, t * 2 + 1, none⟩ (.int .i64 (⟨1, ins[j]⟩ : Val).n)) = we at *
  obtain ⟨⟨j0, j1, j2, j3, j4, j5⟩, jz, -⟩ := id ins9
  (try simp only at j0 j1 j2 j3 j4 j5)
  have m0 := O9.at_
  (try simp only at m0)
  have mf0 := O9.thaw 0
  go_upto_region 66 with (first | (go_at_call 36; refine (between_any _ _ _ _).mono ?_; rintro e w' ⟨rfl, hw'⟩; rw [hw', show btw 14 5 8 = false from rfl]; clear hw' w') | (go_at_call 51; refine (namesA_any _ _).mono ?_; rintro e w' ⟨rfl, hw'⟩; rw [hw', show nA 14 = false from rfl]; clear hw' w') | (go_at_call 52; refine (namesB_any _ _).mono ?_; rintro e w' ⟨rfl, hw'⟩; rw [hw', show nB 14 = false from rfl]; clear hw' w') | (go_at_call 57; refine (namesTo_any _ _).mono ?_; rintro e w' ⟨rfl, hw'⟩; rw [hw', show nTo 14 = true from rfl]; clear hw' w'))
  have O10 := O9.withAt (r.at_ + 1)
  have res10 := res9.far (a := ⟨w.heap.size + 1, 0, none⟩) (by simp) (.int .i64 (r.at_ + 1))
  have low10 : Below w.heap.size w (we.setCell ⟨w.heap.size + 1, 0, none⟩ (.int .i64 (r.at_ + 1))) := low9.setCell (by simp only; omega) _
  clear m0 mf0 O9 res9 low9
  generalize (we.setCell ⟨w.heap.size + 1, 0, none⟩ (.int .i64 (r.at_ + 1))) = wf at *
  obtain ⟨⟨m0, m1, m2, m3, m4, m5⟩, mz, -⟩ := id O10.r6
  (try simp only at m0)
  (try simp only at m1)
  (try simp only at m2)
  (try simp only at m3)
  (try simp only at m4)
  (try simp only at m5)
  obtain ⟨⟨z0, z1, z2, z3, z4, z5⟩, zz, zf⟩ := id res10
  have g0 := zf 0
  have g1 := zf 1
  have g2 := zf 2
  have g3 := zf 3
  have g4 := zf 4
  have g5 := zf 5
  have HBK := hideK (own_back O10 nres9 low10)
  clear zf O10 res10 low10 nres9
  rename_i K0 hK0
  refine wp_region_lit ?_
  refine wpList_plain rfl (fun K2 hK2 => ?_)
  go_simp
  refine hK2 _ _ ?_
  clear hK2 K2
  (try simp only [Act.put, List.getElem_toArray, List.getElem_cons_zero, List.getElem_cons_succ, List.setIfInBounds_toArray, List.set_cons_zero, List.set_cons_succ])
  refine wpList_plain rfl (fun K2 hK2 => ?_)
  go_simp
  refine hK2 _ _ ?_
  clear hK2 K2
  refine hK0 _ _ ?_
  refine wp_ret ?_
  (try simp only [Exit.then])
  refine bodyPost_ret (v := .agg #[.int .i64 (r.at_ + 1), .slice (some ⟨gb, 0, none⟩) r.vars.length vc1, .slice ts1 r.things.length tc1, .int .i64 (wrap64 (r.taken + 1)), .slice ls1 r.lines.length lc1, .int .i64 (r.fin)]) (by simp [results, Tryd.results23, go_sem, z0, z1, z2, z3, z4, z5]) rfl ?_
  have HQ : stepSt f c ins r = { ({ r with vars := r.vars.set t (⟨1, ins[j]⟩ : Val), taken := wrap64 (r.taken + 1) } : St) with at_ := r.at_ + 1 } := by
    have e0 : endI r ⟨14, t, a, b, n, g⟩ = 0 := by
      unfold endI
      (try rw [ea])
      (try rw [eb])
      exact end_none _ 14 (by omega)
    have en : nextAt r ⟨14, t, a, b, n, g⟩ (aOf r ⟨14, t, a, b, n, g⟩) = r.at_ + 1 := by unfold nextAt; rw [if_neg (by simp)]
    rw [HST.out, e0, if_neg (by simp), en]
    rw [eff_14, Int.toNat_natCast, HCM.out, w64_wrap]
  rw [HQ]
  exact ⟨_, _, _, _, rfl, HBK.out.1, HBK.out.2⟩
end Go.Proofs.YtmapdpcfanecdaaDoor

namespace Go.Proofs.YtmapdpcfanecdaaDoor
set_option linter.unusedVariables false
set_option linter.unusedSimpArgs false
open Go.RowKit
attribute [local go_sem ↓] Go.wp_at_zero Go.wp_at_succ

set_option maxHeartbeats 4000000 in
set_option maxRecDepth 20000 in
theorem stepR_14g (v f : Nat) (s : Option Addr) (c : List Ins) (cap : Nat) (r : St) (vs : Option Addr) (vc : Nat) (ts : Option Addr) (tc : Nat) (ls : Option Addr) (lc : Nat) (is : Option Addr) (ic : Nat) (ins : List Int) (w : World) (hc : CodeAt w s c) (hr : RunAt w r vs ts ls) (hp : ProgOk v f c) (hk : RunOk v f c r) (hI : IntsAt w is ins) (hln : (r.lines.length + 1) * 16 ≤ 140737488355328) (t : Nat) (k : Nat) (a b n g : Int) (hf : r.fin = 0) (ha : r.at_ = (k : Int)) (hkl : k < c.length) (hck : c[k] = ⟨14, t, a, b, n, g⟩) (ht : t < r.vars.length) (hn0 : 0 ≤ n) (hn1 : n ≤ 1000000) (j : Nat) (hj : r.taken = (j : Int)) (hjl : j < ins.length) (hgt : n < ins[j]) :
    Calls Tryd.prog 23 #[.agg #[.int .i64 (v : Int), .int .i64 (f : Int), .slice s c.length cap], runV r vs vc ts tc ls lc, .slice is ins.length ic] w fun e w' => ∃ vv tv lv fv, e = .returned (.agg #[.int .i64 (stepSt f c ins r).at_, vv, tv, .int .i64 (stepSt f c ins r).taken, lv, .int .i64 (stepSt f c ins r).fin]) ∧ OwnRows w' w.heap.size (stepSt f c ins r) vv tv lv fv ∧ Below w.heap.size w w' := by
  have hmf : ∀ (fn : Fn) (first cp : Array Value) (w : World), (Instr.makeFunc fn first cp).run Tryd.prog w = .ok (.func fn first cp) w := fun _ _ _ _ => rfl
  have HJ := hideK hj
  clear hj
  have nj0 : (0 : Int) ≤ (j : Int) := by omega
  have nj1 : (j : Int) < (ins.length : Int) := by omega
  have gn0 : -9223372036854775808 ≤ -n := by omega
  have gn1 : -n ≤ 9223372036854775807 := by omega
  have q2 : ¬ (n < -n) := by omega
  have HCM : Hid ((if r.taken < ins.length then clamp n (ins.getD r.taken.toNat 0) else 0) = n) := hideK (by rw [val14 HJ.out hjl]; unfold clamp; rw [if_pos hgt])
  have HF0 := hideK hf
  have HA0 := hideK ha
  have HK0 := hideK hck
  have HST := hideK (stepSt_at (F := f) (ins := ins) hf ha hkl hck)
  clear hf ha hck
  unfold runV
  obtain ⟨w3, e3, hb0, P0, Q0, Z0, HZ3, HCR⟩ := stPre v f s c cap r vs vc ts tc ls lc w hr hp hk hln
  clear hr
  go_enter Tryd.func23, Tryd.ntmps23
  go_wp2_with (go_at_call 50; fail)
  rw [← e3.out]
  clear e3
  refine HCR.out.mono ?_
  rintro e w4 ⟨vv, tv, lv, fv, rfl, OR, hb4⟩
  clear HCR
  obtain ⟨vs1, vc1, ts1, tc1, ls1, lc1, rfl, rfl, rfl, -⟩ := OR.at
  obtain ⟨w5, e5, O5, P5, Z5, H5, C5, I5, hz5, NRES⟩ := stPost HZ3.out OR P0 Q0 Z0 hb0 hb4 hc hI
  obtain ⟨⟨q0, q1, q2, q3, q4, q5⟩, qz, qf⟩ := id (Q0.call hb4)
  have g0 := qf 0
  have g1 := qf 1
  have g2 := qf 2
  have g3 := qf 3
  have g4 := qf 4
  have g5 := qf 5
  clear HZ3 P0 Q0 Z0 hb4 hc hI OR hb0 qf
  go_upto_region 2 with fail
  clear q0 q1 q2 q3 q4 q5 qz g0 g1 g2 g3 g4 g5
  rw [← e5.out]
  clear e5
  obtain ⟨⟨m0, m1, m2, m3, m4, m5⟩, mz, mf⟩ := id O5.r6
  obtain ⟨⟨p0, p1, p2⟩, pz⟩ := id P5
  have hfb : (r.fin != 0) = false := by rw [HF0.out]; rfl
  have hat0 : (0 : Int) ≤ r.at_ := by rw [HA0.out]; omega
  have hat60 : r.at_ ≤ 60 := by rw [HA0.out]; have := hp.len; omega
  rw [HA0.out] at m0
  rcases C5 with C5 | ⟨cb, co, rfl, hcb, hci⟩
  · rw [C5] at hkl; simp at hkl
  obtain ⟨i0, i1, i2, i3, i4, i5⟩ := hci k hkl
  rw [HK0.out] at i0 i1 i2 i3 i4 i5
  simp only at i0 i1 i2 i3 i4 i5
  have n0 : (0 : Int) ≤ (k : Int) := by omega
  have n1 : (k : Int) < (c.length : Int) := by omega
  have nk : ((k : Int) == (c.length : Int)) = false := by simp; omega
  have hk60 : (k : Int) ≤ 60 := by have := hp.len; omega
  obtain ⟨gb, gc, egb, hg1, hg2, hcell, hfz⟩ := O5.form (by have := hk.vars; have := hp.v1; omega)
  cases egb
  have HCL := hideK (And.intro hcell hfz)
  have HSI := hideK (SInv.new O5 P5 Z5 H5 hz5 NRES ⟨14, t, a, b, n, g⟩)
  have BW : Below w5.heap.size w5 (((w5.alloc (.cells #[.int .i64 14, .int .i64 t, .int .i64 a, .int .i64 b, .int .i64 n, .int .i64 g] 71)).alloc (.cells #[.int .i64 0, .int .i64 0] 94)).alloc (.cells #[.int .i64 0, .int .i64 0] 94)) := by go_grown
  clear hci mf hcell hfz O5 P5 Z5 hz5 NRES H5
  go_upto_region 9 with fail
  generalize (((w5.alloc (.cells #[.int .i64 14, .int .i64 t, .int .i64 a, .int .i64 b, .int .i64 n, .int .i64 g] 71)).alloc (.cells #[.int .i64 0, .int .i64 0] 94)).alloc (.cells #[.int .i64 0, .int .i64 0] 94)) = w6 at *
  have S := HSI.out
  clear HSI m0 m1 m2 m3 m4 m5 mz p0 p1 p2 pz i0 i1 i2 i3 i4 i5
  generalize w6 = wc at *
  clear w6
  obtain ⟨j0, j1, j2, j3, j4, j5, jz, p0, p1, p2, pz, m0, m1, m2, m3, m4, m5, mz, mf2, mf3, mf4, mf5, a0, a1, az, af0, af1, b0, b1, bz, bf0, bf1⟩ := S.all
  (try simp only at j0 j1 j2 j3 j4 j5 a0 a1 b0 b1)
  go_upto_region 24 with (first | (go_at_call 36; refine (between_any _ _ _ _).mono ?_; rintro e w' ⟨rfl, hw'⟩; rw [hw', show btw 14 5 8 = false from rfl]; clear hw' w') | (go_at_call 51; refine (namesA_any _ _).mono ?_; rintro e w' ⟨rfl, hw'⟩; rw [hw', show nA 14 = false from rfl]; clear hw' w') | (go_at_call 52; refine (namesB_any _ _).mono ?_; rintro e w' ⟨rfl, hw'⟩; rw [hw', show nB 14 = false from rfl]; clear hw' w') | (go_at_call 57; refine (namesTo_any _ _).mono ?_; rintro e w' ⟨rfl, hw'⟩; rw [hw', show nTo 14 = true from rfl]; clear hw' w'))
  have VZ := VAt.new wc ⟨0, 0⟩
  (try simp only at VZ)
  have SN := S.call (wy := (wc.alloc (.cells #[.int .i64 0, .int .i64 0] 94))) (by go_grown)
  have BN : Below w5.heap.size w5 (wc.alloc (.cells #[.int .i64 0, .int .i64 0] 94)) := BW.alloc BW.size _
  have hbv : w5.heap.size + 1 + 1 < wc.heap.size := S.vb.2.1
  clear j0 j1 j2 j3 j4 j5 jz p0 p1 p2 pz m0 m1 m2 m3 m4 m5 mz mf2 mf3 mf4 mf5 a0 a1 az af0 af1 b0 b1 bz bf0 bf1
  clear S BW
  generalize (wc.alloc (.cells #[.int .i64 0, .int .i64 0] 94)) = wv at *
  have S := SN
  have BW := BN
  clear SN BN
  rcases I5 with hi | ⟨ib, io, rfl, hib, hii⟩
  · rw [hi] at hjl; simp at hjl
  have c0 : wv.cell? ⟨ib, io + j, none⟩ = some (.int .i64 ins[j]) := by rw [BW.cell (by simpa using hib)]; exact hii j hjl
  have hnb : ib ≠ wc.heap.size := by omega
  clear hii
  obtain ⟨j0, j1, j2, j3, j4, j5, jz, p0, p1, p2, pz, m0, m1, m2, m3, m4, m5, mz, mf2, mf3, mf4, mf5, a0, a1, az, af0, af1, b0, b1, bz, bf0, bf1⟩ := S.all
  (try simp only at j0 j1 j2 j3 j4 j5 a0 a1 b0 b1)
  rw [HJ.out] at m3
  obtain ⟨⟨v0, v1⟩, vz, vf⟩ := id VZ
  (try simp only at v0 v1)
  have vf0 := vf 0
  have vf1 := vf 1
  clear vf
  go_upto_region 56 with (first | (go_at_call 36; refine (between_any _ _ _ _).mono ?_; rintro e w' ⟨rfl, hw'⟩; rw [hw', show btw 14 5 8 = false from rfl]; clear hw' w') | (go_at_call 51; refine (namesA_any _ _).mono ?_; rintro e w' ⟨rfl, hw'⟩; rw [hw', show nA 14 = false from rfl]; clear hw' w') | (go_at_call 52; refine (namesB_any _ _).mono ?_; rintro e w' ⟨rfl, hw'⟩; rw [hw', show nB 14 = false from rfl]; clear hw' w') | (go_at_call 57; refine (namesTo_any _ _).mono ?_; rintro e w' ⟨rfl, hw'⟩; rw [hw', show nTo 14 = true from rfl]; clear hw' w'))
  have V9 : VAt (((wv.setCell ⟨wc.heap.size, 0, none⟩ (.int .i64 1)).setCell ⟨wc.heap.size, 1, none⟩ (.int .i64 ins[j])).setCell ⟨wc.heap.size, 1, none⟩ (.int .i64 n)) wc.heap.size (⟨1, n⟩ : Val) := (((VZ.setK 1).setN ins[j]).setN n)
  have SN := (((S.far (a := ⟨wc.heap.size, 0, none⟩) hbv (.int .i64 1)).far (a := ⟨wc.heap.size, 1, none⟩) hbv (.int .i64 ins[j])).far (a := ⟨wc.heap.size, 1, none⟩) hbv (.int .i64 n))
  clear j0 j1 j2 j3 j4 j5 jz p0 p1 p2 pz m0 m1 m2 m3 m4 m5 mz mf2 mf3 mf4 mf5 a0 a1 az af0 af1 b0 b1 bz bf0 bf1
  clear v0 v1 vz vf0 vf1 S BW VZ c0 hnb
  generalize (((wv.setCell ⟨wc.heap.size, 0, none⟩ (.int .i64 1)).setCell ⟨wc.heap.size, 1, none⟩ (.int .i64 ins[j])).setCell ⟨wc.heap.size, 1, none⟩ (.int .i64 n)) = wu at *
  have S := SN
  clear SN
  obtain ⟨j0, j1, j2, j3, j4, j5, jz, p0, p1, p2, pz, m0, m1, m2, m3, m4, m5, mz, mf2, mf3, mf4, mf5, a0, a1, az, af0, af1, b0, b1, bz, bf0, bf1⟩ := S.all
  (try simp only at j0 j1 j2 j3 j4 j5 a0 a1 b0 b1)
  obtain ⟨⟨v0, v1⟩, vz, -⟩ := id V9
  (try simp only at v0 v1)
  go_upto_region 61 with (first | (go_at_call 36; refine (between_any _ _ _ _).mono ?_; rintro e w' ⟨rfl, hw'⟩; rw [hw', show btw 14 5 8 = false from rfl]; clear hw' w') | (go_at_call 51; refine (namesA_any _ _).mono ?_; rintro e w' ⟨rfl, hw'⟩; rw [hw', show nA 14 = false from rfl]; clear hw' w') | (go_at_call 52; refine (namesB_any _ _).mono ?_; rintro e w' ⟨rfl, hw'⟩; rw [hw', show nB 14 = false from rfl]; clear hw' w') | (go_at_call 57; refine (namesTo_any _ _).mono ?_; rintro e w' ⟨rfl, hw'⟩; rw [hw', show nTo 14 = true from rfl]; clear hw' w'))
  have SN := S.taken (wrap64 (r.taken + 1))
  have VN := V9.set (a := ⟨w.heap.size + 1, 3, none⟩) (by simp only; omega) (.int .i64 (wrap64 (r.taken + 1)))
  clear j0 j1 j2 j3 j4 j5 jz p0 p1 p2 pz m0 m1 m2 m3 m4 m5 mz mf2 mf3 mf4 mf5 a0 a1 az af0 af1 b0 b1 bz bf0 bf1
  clear S V9 HCL v0 v1 vz
  generalize (wu.setCell ⟨w.heap.size + 1, 3, none⟩ (.int .i64 (wrap64 (r.taken + 1)))) = wd at *
  have S := SN
  have V9 := VN
  clear SN VN
  obtain ⟨gb2, gc2, eg2, -, -, hcell2, hfz2⟩ := S.own.form (show 0 < r.vars.length by have := hk.vars; have := hp.v1; omega)
  cases eg2
  have HCL : Hid ((∀ (i : Nat) (h : i < r.vars.length), wd.cell? ⟨gb, i * 2, none⟩ = some (.int .i64 r.vars[i].k) ∧ wd.cell? ⟨gb, i * 2 + 1, none⟩ = some (.int .i64 r.vars[i].n)) ∧ ∀ j, wd.frozen? ⟨gb, j, none⟩ = false) := hideK ⟨hcell2, hfz2⟩
  clear hcell2 hfz2
  have BW : Below wd.heap.size wd wd := Below.refl _ _
  have hg2 : gb < wd.heap.size := S.own.lt (by simp only [ownBlocks, List.mem_cons]; right; left; rfl)
  have kt0 : wd.cell? ⟨gb, t * 2, none⟩ = some (.int .i64 r.vars[t].k) := by rw [BW.cell (by simpa using hg2)]; exact (HCL.out.1 t ht).1
  have kt1 : wd.cell? ⟨gb, t * 2 + 1, none⟩ = some (.int .i64 r.vars[t].n) := by rw [BW.cell (by simpa using hg2)]; exact (HCL.out.1 t ht).2
  have ft0 : wd.frozen? ⟨gb, t * 2, none⟩ = false := by rw [BW.frozen (by simpa using hg2)]; exact HCL.out.2 _
  have ft1 : wd.frozen? ⟨gb, t * 2 + 1, none⟩ = false := by rw [BW.frozen (by simpa using hg2)]; exact HCL.out.2 _
  have nnt0 : (0 : Int) ≤ (t : Int) := by omega
  have nnt1 : (t : Int) < (r.vars.length : Int) := by omega
  obtain ⟨j0, j1, j2, j3, j4, j5, jz, p0, p1, p2, pz, m0, m1, m2, m3, m4, m5, mz, mf2, mf3, mf4, mf5, a0, a1, az, af0, af1, b0, b1, bz, bf0, bf1⟩ := S.all
  (try simp only at j0 j1 j2 j3 j4 j5 a0 a1 b0 b1)
  obtain ⟨⟨v0, v1⟩, vz, -⟩ := id V9
  (try simp only at v0 v1)
  have hgv : gb ≠ wc.heap.size := by omega
  go_upto_region 63 with (first | (go_at_call 36; refine (between_any _ _ _ _).mono ?_; rintro e w' ⟨rfl, hw'⟩; rw [hw', show btw 14 5 8 = false from rfl]; clear hw' w') | (go_at_call 51; refine (namesA_any _ _).mono ?_; rintro e w' ⟨rfl, hw'⟩; rw [hw', show nA 14 = false from rfl]; clear hw' w') | (go_at_call 52; refine (namesB_any _ _).mono ?_; rintro e w' ⟨rfl, hw'⟩; rw [hw', show nB 14 = false from rfl]; clear hw' w') | (go_at_call 57; refine (namesTo_any _ _).mono ?_; rintro e w' ⟨rfl, hw'⟩; rw [hw', show nTo 14 = true from rfl]; clear hw' w'))
  have O9 := S.own.put t ht (⟨1, n⟩ : Val)
  have FR := frame_put (bs := ownBlocks (w.heap.size + 1) (.slice (some ⟨gb, 0, none⟩) r.vars.length vc1) (.slice ts1 r.things.length tc1) (.slice ls1 r.lines.length lc1) fv) (Below.refl wd.heap.size wd) (g := gb) (by simp only [ownBlocks, List.mem_cons]; right; left; rfl) (t * 2) (t * 2 + 1) (.int .i64 (⟨1, n⟩ : Val).k) (.int .i64 (⟨1, n⟩ : Val).n)
  have hsz : wd.heap.size ≤ ((wd.setCell ⟨gb, t * 2, none⟩ (.int .i64 (⟨1, n⟩ : Val).k)).setCell ⟨gb, t * 2 + 1, none⟩ (.int .i64 (⟨1, n⟩ : Val).n)).heap.size := by simp [World.setCell]
  have res9 := S.res.own FR hsz S.nres
  have ins9 := S.ins.own FR hsz (fun hm => Nat.lt_irrefl _ (S.lt _ hm))
  have low9 : Below w.heap.size w ((wd.setCell ⟨gb, t * 2, none⟩ (.int .i64 (⟨1, n⟩ : Val).k)).setCell ⟨gb, t * 2 + 1, none⟩ (.int .i64 (⟨1, n⟩ : Val).n)) := (S.low.setCell (by simp only; omega) _).setCell (by simp only; omega) _
  have nres9 := S.nres
  clear j0 j1 j2 j3 j4 j5 jz p0 p1 p2 pz m0 m1 m2 m3 m4 m5 mz mf2 mf3 mf4 mf5 a0 a1 az af0 af1 b0 b1 bz bf0 bf1
  clear kt0 kt1 ft0 ft1 v0 v1 vz S BW V9 FR hsz
  generalize ((wd.setCell ⟨gb, t * 2, none⟩ (.int .i64 (⟨1, n⟩ : Val).k)).setCell ⟨gb, t * 2 + 1, none⟩ (.int .i64 (⟨1, n⟩ : Val).n)) = we at *
  obtain ⟨⟨j0, j1, j2, j3, j4, j5⟩, jz, -⟩ := id ins9
  (try simp only at j0 j1 j2 j3 j4 j5)
  have m0 := O9.at_
  (try simp only at m0)
  have mf0 := O9.thaw 0
  go_upto_region 66 with (first | (go_at_call 36; refine (between_any _ _ _ _).mono ?_; rintro e w' ⟨rfl, hw'⟩; rw [hw', show btw 14 5 8 = false from rfl]; clear hw' w') | (go_at_call 51; refine (namesA_any _ _).mono ?_; rintro e w' ⟨rfl, hw'⟩; rw [hw', show nA 14 = false from rfl]; clear hw' w') | (go_at_call 52; refine (namesB_any _ _).mono ?_; rintro e w' ⟨rfl, hw'⟩; rw [hw', show nB 14 = false from rfl]; clear hw' w') | (go_at_call 57; refine (namesTo_any _ _).mono ?_; rintro e w' ⟨rfl, hw'⟩; rw [hw', show nTo 14 = true from rfl]; clear hw' w'))
  have O10 := O9.withAt (r.at_ + 1)
  have res10 := res9.far (a := ⟨w.heap.size + 1, 0, none⟩) (by simp) (.int .i64 (r.at_ + 1))
  have low10 : Below w.heap.size w (we.setCell ⟨w.heap.size + 1, 0, none⟩ (.int .i64 (r.at_ + 1))) := low9.setCell (by simp only; omega) _
  clear m0 mf0 O9 res9 low9
  generalize (we.setCell ⟨w.heap.size + 1, 0, none⟩ (.int .i64 (r.at_ + 1))) = wf at *
  obtain ⟨⟨m0, m1, m2, m3, m4, m5⟩, mz, -⟩ := id O10.r6
  (try simp only at m0)
  (try simp only at m1)
  (try simp only at m2)
  (try simp only at m3)
  (try simp only at m4)
  (try simp only at m5)
  obtain ⟨⟨z0, z1, z2, z3, z4, z5⟩, zz, zf⟩ := id res10
  have g0 := zf 0
  have g1 := zf 1
  have g2 := zf 2
  have g3 := zf 3
  have g4 := zf 4
  have g5 := zf 5
  have HBK := hideK (own_back O10 nres9 low10)
  clear zf O10 res10 low10 nres9
  rename_i K0 hK0
  refine wp_region_lit ?_
  refine wpList_plain rfl (fun K2 hK2 => ?_)
  go_simp
  refine hK2 _ _ ?_
  clear hK2 K2
  (try simp only [Act.put, List.getElem_toArray, List.getElem_cons_zero, List.getElem_cons_succ, List.setIfInBounds_toArray, List.set_cons_zero, List.set_cons_succ])
  refine wpList_plain rfl (fun K2 hK2 => ?_)
  go_simp
  refine hK2 _ _ ?_
  clear hK2 K2
  refine hK0 _ _ ?_
  refine wp_ret ?_
  (try simp only [Exit.then])
  refine bodyPost_ret (v := .agg #[.int .i64 (r.at_ + 1), .slice (some ⟨gb, 0, none⟩) r.vars.length vc1, .slice ts1 r.things.length tc1, .int .i64 (wrap64 (r.taken + 1)), .slice ls1 r.lines.length lc1, .int .i64 (r.fin)]) (by simp [results, Tryd.results23, go_sem, z0, z1, z2, z3, z4, z5]) rfl ?_
  have HQ : stepSt f c ins r = { ({ r with vars := r.vars.set t (⟨1, n⟩ : Val), taken := wrap64 (r.taken + 1) } : St) with at_ := r.at_ + 1 } := by
    have e0 : endI r ⟨14, t, a, b, n, g⟩ = 0 := by
      unfold endI
      (try rw [ea])
      (try rw [eb])
      exact end_none _ 14 (by omega)
    have en : nextAt r ⟨14, t, a, b, n, g⟩ (aOf r ⟨14, t, a, b, n, g⟩) = r.at_ + 1 := by unfold nextAt; rw [if_neg (by simp)]
    rw [HST.out, e0, if_neg (by simp), en]
    rw [eff_14, Int.toNat_natCast, HCM.out, w64_wrap]
  rw [HQ]
  exact ⟨_, _, _, _, rfl, HBK.out.1, HBK.out.2⟩
end Go.Proofs.YtmapdpcfanecdaaDoor
