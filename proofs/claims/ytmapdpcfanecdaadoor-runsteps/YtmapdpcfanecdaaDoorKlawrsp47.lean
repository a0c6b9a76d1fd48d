/- Walks over package run: what the machine does, kind by kind. -/
import Derived.Test.YtmapdpcfanecdaaDoorKlawrsp08
import Derived.Test.YtmapdpcfanecdaaDoorKlawrsp31
import Derived.Test.YtmapdpcfanecdaaDoorKlawrsp35
import Derived.Test.YtmapdpcfanecdaaDoorKlawrsp09
import Derived.Test.YtmapdpcfanecdaaDoorKlawrsp14
import Derived.Deep.DeepCutAuto
import Derived.Laws.EntriesVeiled
import Derived.Test.YtmapdpcfanecdaaDoorKlawrsp10
namespace Go.Proofs.YtmapdpcfanecdaaDoor
set_option linter.unusedVariables false
set_option linter.unusedSimpArgs false
open Go.RowKit
attribute [local go_sem ↓] Go.wp_at_zero Go.wp_at_succ

theorem mem_lv {k m : Nat} {vv tv lv : Value} {fv : List Value} (e : some k = lv.ownBlock) : some k ∈ ownBlocks m vv tv lv fv := by unfold ownBlocks; rw [e]; simp
theorem nres_lines {b m g : Nat} {vv tv lv : Value} {fv : List Value} {n c : Nat} (h : some b ∉ ownBlocks m vv tv lv fv) (hg : b ≠ g) : some b ∉ ownBlocks m vv tv (.slice (some ⟨g, 0, none⟩) n c) fv := by
  intro hm
  unfold ownBlocks at h hm
  rcases List.mem_cons.1 hm with e | hm
  · exact h (by rw [e]; simp)
  rcases List.mem_cons.1 hm with e | hm
  · exact h (by rw [e]; simp)
  rcases List.mem_cons.1 hm with e | hm
  · exact h (by rw [e]; simp)
  rcases List.mem_cons.1 hm with e | hm
  · exact hg (by cases e; rfl)
  · exact h (by simp only [List.mem_cons]; right; right; right; right; exact hm)
theorem showV_B (v : Val) : showV v = showB v := rfl
theorem okVal_64 {T : Nat} {v : Val} (h : okVal T v) (hT : T ≤ 100) : -9223372036854775808 ≤ v.n ∧ v.n ≤ 9223372036854775807 := by
  unfold okVal at h
  omega

set_option maxHeartbeats 4000000 in
set_option maxRecDepth 20000 in
theorem stepR_18 (v f : Nat) (s : Option Addr) (c : List Ins) (cap : Nat) (r : St) (vs : Option Addr) (vc : Nat) (ts : Option Addr) (tc : Nat) (ls : Option Addr) (lc : Nat) (is : Option Addr) (ic : Nat) (ins : List Int) (w : World) (hc : CodeAt w s c) (hr : RunAt w r vs ts ls) (hp : ProgOk v f c) (hk : RunOk v f c r) (hI : IntsAt w is ins) (hln : (r.lines.length + 1) * 16 ≤ 140737488355328) (x : Nat) (k : Nat) (tt b n g : Int) (hf : r.fin = 0) (ha : r.at_ = (k : Int)) (hkl : k < c.length) (hck : c[k] = ⟨18, tt, x, b, n, g⟩) (hx : x < r.vars.length) :
    Calls Tryd.prog 23 #[.agg #[.int .i64 (v : Int), .int .i64 (f : Int), .slice s c.length cap], runV r vs vc ts tc ls lc, .slice is ins.length ic] w fun e w' => ∃ vv tv lv fv, e = .returned (.agg #[.int .i64 (stepSt f c ins r).at_, vv, tv, .int .i64 (stepSt f c ins r).taken, lv, .int .i64 (stepSt f c ins r).fin]) ∧ OwnRows w' w.heap.size (stepSt f c ins r) vv tv lv fv ∧ Below w.heap.size w w' := by
  have hmf : ∀ (fn : Fn) (first cp : Array Value) (w : World), (Instr.makeFunc fn first cp).run Tryd.prog w = .ok (.func fn first cp) w := fun _ _ _ _ => rfl
  have HSV := hideK (fun wz => showValue_any r.vars[x] wz (okVal_64 (hk.vals _ (List.getElem_mem hx)) hk.things).1 (okVal_64 (hk.vals _ (List.getElem_mem hx)) hk.things).2)
  rw [showV_B] at HSV
  obtain ⟨sh, hsh⟩ : ∃ sh, sh = showB r.vars[x] := ⟨_, rfl⟩
  rw [← hsh] at HSV
  have HSH := hideK hsh
  clear hsh
  obtain ⟨ti, hi, hz0, hz1, hz2⟩ := info_parts info_str
  have HF0 := hideK hf
  have HA0 := hideK ha
  have HK0 := hideK hck
  have HST := hideK (stepSt_at (F := f) (ins := ins) hf ha hkl hck)
  clear hf ha hck
  unfold runV
  obtain ⟨w3, e3, hb0, P0, Q0, Z0, HZ3, HCR⟩ := stPre v f s c cap r vs vc ts tc ls lc w hr hp hk hln
  clear hr
  go_enter Tryd.func23, Tryd.ntmps23
  go_wp2_with (go_at_call 50; fail)
  rw [← e3.out]
  clear e3
  refine HCR.out.mono ?_
  rintro e w4 ⟨vv, tv, lv, fv, rfl, OR, hb4⟩
  clear HCR
  obtain ⟨vs1, vc1, ts1, tc1, ls1, lc1, rfl, rfl, rfl, -⟩ := OR.at
  obtain ⟨w5, e5, O5, P5, Z5, H5, C5, I5, hz5, NRES⟩ := stPost HZ3.out OR P0 Q0 Z0 hb0 hb4 hc hI
  obtain ⟨⟨q0, q1, q2, q3, q4, q5⟩, qz, qf⟩ := id (Q0.call hb4)
  have g0 := qf 0
  have g1 := qf 1
  have g2 := qf 2
  have g3 := qf 3
  have g4 := qf 4
  have g5 := qf 5
  clear HZ3 P0 Q0 Z0 hb4 hc hI OR hb0 qf
  go_upto_region 2 with fail
  clear q0 q1 q2 q3 q4 q5 qz g0 g1 g2 g3 g4 g5
  rw [← e5.out]
  clear e5
  obtain ⟨⟨m0, m1, m2, m3, m4, m5⟩, mz, mf⟩ := id O5.r6
  obtain ⟨⟨p0, p1, p2⟩, pz⟩ := id P5
  have hfb : (r.fin != 0) = false := by rw [HF0.out]; rfl
  have hat0 : (0 : Int) ≤ r.at_ := by rw [HA0.out]; omega
  have hat60 : r.at_ ≤ 60 := by rw [HA0.out]; have := hp.len; omega
  rw [HA0.out] at m0
  rcases C5 with C5 | ⟨cb, co, rfl, hcb, hci⟩
  · rw [C5] at hkl; simp at hkl
  obtain ⟨i0, i1, i2, i3, i4, i5⟩ := hci k hkl
  rw [HK0.out] at i0 i1 i2 i3 i4 i5
  simp only at i0 i1 i2 i3 i4 i5
  have n0 : (0 : Int) ≤ (k : Int) := by omega
  have n1 : (k : Int) < (c.length : Int) := by omega
  have nk : ((k : Int) == (c.length : Int)) = false := by simp; omega
  have hk60 : (k : Int) ≤ 60 := by have := hp.len; omega
  obtain ⟨gb, gc, egb, hg1, hg2, hcell, hfz⟩ := O5.form (by have := hk.vars; have := hp.v1; omega)
  cases egb
  have HCL := hideK (And.intro hcell hfz)
  have HSI := hideK (SInv.new O5 P5 Z5 H5 hz5 NRES ⟨18, tt, x, b, n, g⟩)
  have BW : Below w5.heap.size w5 (((w5.alloc (.cells #[.int .i64 18, .int .i64 tt, .int .i64 x, .int .i64 b, .int .i64 n, .int .i64 g] 71)).alloc (.cells #[.int .i64 0, .int .i64 0] 94)).alloc (.cells #[.int .i64 0, .int .i64 0] 94)) := by go_grown
  clear hci mf hcell hfz O5 P5 Z5 hz5 NRES H5
  go_upto_region 9 with fail
  generalize (((w5.alloc (.cells #[.int .i64 18, .int .i64 tt, .int .i64 x, .int .i64 b, .int .i64 n, .int .i64 g] 71)).alloc (.cells #[.int .i64 0, .int .i64 0] 94)).alloc (.cells #[.int .i64 0, .int .i64 0] 94)) = w6 at *
  have S := HSI.out
  clear HSI m0 m1 m2 m3 m4 m5 mz p0 p1 p2 pz i0 i1 i2 i3 i4 i5
  generalize w6 = wc at *
  clear w6
  have kx0 : wc.cell? ⟨gb, x * 2, none⟩ = some (.int .i64 r.vars[x].k) := by rw [BW.cell (by simpa using hg2)]; exact (HCL.out.1 x hx).1
  have kx1 : wc.cell? ⟨gb, x * 2 + 1, none⟩ = some (.int .i64 r.vars[x].n) := by rw [BW.cell (by simpa using hg2)]; exact (HCL.out.1 x hx).2
  have nnx0 : (0 : Int) ≤ (x : Int) := by omega
  have nnx1 : (x : Int) < (r.vars.length : Int) := by omega
  obtain ⟨j0, j1, j2, j3, j4, j5, jz, p0, p1, p2, pz, m0, m1, m2, m3, m4, m5, mz, mf2, mf3, mf4, mf5, a0, a1, az, af0, af1, b0, b1, bz, bf0, bf1⟩ := S.all
  (try simp only at j0 j1 j2 j3 j4 j5 a0 a1 b0 b1)
  go_upto_region 11 with (first | (go_at_call 36; refine (between_any _ _ _ _).mono ?_; rintro e w' ⟨rfl, hw'⟩; rw [hw', show btw 18 5 8 = false from rfl]; clear hw' w') | (go_at_call 51; refine (namesA_any _ _).mono ?_; rintro e w' ⟨rfl, hw'⟩; rw [hw', show nA 18 = true from rfl]; clear hw' w') | (go_at_call 52; refine (namesB_any _ _).mono ?_; rintro e w' ⟨rfl, hw'⟩; rw [hw', show nB 18 = false from rfl]; clear hw' w') | (go_at_call 57; refine (namesTo_any _ _).mono ?_; rintro e w' ⟨rfl, hw'⟩; rw [hw', show nTo 18 = false from rfl]; clear hw' w'))
  have SP := S.putA r.vars[x]
  have BP : Below w5.heap.size w5 ((wc.setCell ⟨w5.heap.size + 1, 0, none⟩ (.int .i64 r.vars[x].k)).setCell ⟨w5.heap.size + 1, 1, none⟩ (.int .i64 r.vars[x].n)) := (BW.setCell (by simp only; omega) _).setCell (by simp only; omega) _
  clear j0 j1 j2 j3 j4 j5 jz p0 p1 p2 pz m0 m1 m2 m3 m4 m5 mz mf2 mf3 mf4 mf5 a0 a1 az af0 af1 b0 b1 bz bf0 bf1
  clear kx0 kx1 S BW
  generalize ((wc.setCell ⟨w5.heap.size + 1, 0, none⟩ (.int .i64 r.vars[x].k)).setCell ⟨w5.heap.size + 1, 1, none⟩ (.int .i64 r.vars[x].n)) = wd at *
  have S := SP
  have BW := BP
  clear SP BP
  generalize wd = wc at *
  clear wd
  obtain ⟨j0, j1, j2, j3, j4, j5, jz, p0, p1, p2, pz, m0, m1, m2, m3, m4, m5, mz, mf2, mf3, mf4, mf5, a0, a1, az, af0, af1, b0, b1, bz, bf0, bf1⟩ := S.all
  (try simp only at j0 j1 j2 j3 j4 j5 a0 a1 b0 b1)
  go_upto_region 24 with (first | (go_at_call 36; refine (between_any _ _ _ _).mono ?_; rintro e w' ⟨rfl, hw'⟩; rw [hw', show btw 18 5 8 = false from rfl]; clear hw' w') | (go_at_call 51; refine (namesA_any _ _).mono ?_; rintro e w' ⟨rfl, hw'⟩; rw [hw', show nA 18 = true from rfl]; clear hw' w') | (go_at_call 52; refine (namesB_any _ _).mono ?_; rintro e w' ⟨rfl, hw'⟩; rw [hw', show nB 18 = false from rfl]; clear hw' w') | (go_at_call 57; refine (namesTo_any _ _).mono ?_; rintro e w' ⟨rfl, hw'⟩; rw [hw', show nTo 18 = false from rfl]; clear hw' w'))
  have VZ := VAt.new wc ⟨0, 0⟩
  (try simp only at VZ)
  have SN := S.call (wy := (wc.alloc (.cells #[.int .i64 0, .int .i64 0] 94))) (by go_grown)
  have BN : Below w5.heap.size w5 (wc.alloc (.cells #[.int .i64 0, .int .i64 0] 94)) := BW.alloc BW.size _
  have hbv : w5.heap.size + 1 + 1 < wc.heap.size := S.vb.2.1
  clear j0 j1 j2 j3 j4 j5 jz p0 p1 p2 pz m0 m1 m2 m3 m4 m5 mz mf2 mf3 mf4 mf5 a0 a1 az af0 af1 b0 b1 bz bf0 bf1
  clear S BW
  generalize (wc.alloc (.cells #[.int .i64 0, .int .i64 0] 94)) = wv at *
  have S := SN
  have BW := BN
  clear SN BN
  obtain ⟨j0, j1, j2, j3, j4, j5, jz, p0, p1, p2, pz, m0, m1, m2, m3, m4, m5, mz, mf2, mf3, mf4, mf5, a0, a1, az, af0, af1, b0, b1, bz, bf0, bf1⟩ := S.all
  (try simp only at j0 j1 j2 j3 j4 j5 a0 a1 b0 b1)
  have KZ : ∀ wx, Below wv.heap.size wv wx → wx.cell? ⟨w.heap.size + 1, 4, none⟩ = some (.slice ls1 r.lines.length lc1) ∧ wx.cell? ⟨w5.heap.size + 1, 0, none⟩ = some (.int .i64 r.vars[x].k) ∧ wx.cell? ⟨w5.heap.size + 1, 1, none⟩ = some (.int .i64 r.vars[x].n) := fun wx hx => ⟨by rw [hx.cell (by simp only; exact mz)]; exact m4, by rw [hx.cell (by simp only; exact az)]; exact a0, by rw [hx.cell (by simp only; exact az)]; exact a1⟩
  have HKZ := hideK KZ
  clear KZ
  go_upto_region 60 with (first | (go_at_call 36; refine (between_any _ _ _ _).mono ?_; rintro e w' ⟨rfl, hw'⟩; rw [hw', show btw 18 5 8 = false from rfl]; clear hw' w') | (go_at_call 51; refine (namesA_any _ _).mono ?_; rintro e w' ⟨rfl, hw'⟩; rw [hw', show nA 18 = true from rfl]; clear hw' w') | (go_at_call 52; refine (namesB_any _ _).mono ?_; rintro e w' ⟨rfl, hw'⟩; rw [hw', show nB 18 = false from rfl]; clear hw' w') | (go_at_call 57; refine (namesTo_any _ _).mono ?_; rintro e w' ⟨rfl, hw'⟩; rw [hw', show nTo 18 = false from rfl]; clear hw' w'))
  clear j0 j1 j2 j3 j4 j5 jz p0 p1 p2 pz m0 m1 m2 m3 m4 m5 mz mf2 mf3 mf4 mf5 a0 a1 az af0 af1 b0 b1 bz bf0 bf1
  refine wp_region_z (S := (fun wx => wx.cell? ⟨w.heap.size + 1, 4, none⟩ = some (.slice ls1 r.lines.length lc1) ∧ wx.cell? ⟨w5.heap.size + 1, 0, none⟩ = some (.int .i64 r.vars[x].k) ∧ wx.cell? ⟨w5.heap.size + 1, 1, none⟩ = some (.int .i64 r.vars[x].n))) [7] (by kernel_rfl) (HKZ.out _ (Below.refl _ _).drew) (fun hHeld => ?_)
  refine tkZ 0 ?_ ?_ ?_
  rotate_left
  · exact rn
  (try simp only [Act.put, List.getElem_toArray, List.getElem_cons_zero, List.getElem_cons_succ, List.setIfInBounds_toArray, List.set_cons_zero, List.set_cons_succ])
  refine tkZ 1 ?_ ?_ ?_
  rotate_left
  · exact rn
  (try simp only [Act.put, List.getElem_toArray, List.getElem_cons_zero, List.getElem_cons_succ, List.setIfInBounds_toArray, List.set_cons_zero, List.set_cons_succ])
  refine tkZ 2 ?_ ?_ ?_
  rotate_left
  · exact rn
  (try simp only [Act.put, List.getElem_toArray, List.getElem_cons_zero, List.getElem_cons_succ, List.setIfInBounds_toArray, List.set_cons_zero, List.set_cons_succ])
  refine wpAnyZ_one (i := 3) rfl (by kernel_rfl) (fun K hK => ?_)
  go_simp
  go_at_call 56
  refine (HSV.out _).mono ?_
  rintro e w1 ⟨rfl, hb1⟩
  have HB1 : Below wv.heap.size wv w1 := Below.trans (Below.refl _ _).drew (Below.mono hb1 (by simp))
  go_wp2_with fail
  refine hK.out _ _ (HKZ.out _ HB1) (fun hHeld => ?_)
  clear hK K
  (try simp only [Act.put, List.getElem_toArray, List.getElem_cons_zero, List.getElem_cons_succ, List.setIfInBounds_toArray, List.set_cons_zero, List.set_cons_succ])
  refine wpAnyZ_one (i := 4) rfl (by kernel_rfl) (fun K hK => ?_)
  go_simp
  have HB2 : Below wv.heap.size wv (w1.alloc (.cells #[.string sh] 9)) := HB1.alloc (by have := HB1.size; simpa using this) _
  refine hK.out _ _ (HKZ.out _ HB2) (fun hHeld => ?_)
  clear hK K
  (try simp only [Act.put, List.getElem_toArray, List.getElem_cons_zero, List.getElem_cons_succ, List.setIfInBounds_toArray, List.set_cons_zero, List.set_cons_succ])
  refine wpAnyZ_one (i := 5) rfl (by kernel_rfl) (fun K hK => ?_)
  have SY := S.call HB2
  refine step_append_lies _ rfl _ _ 44 rfl (w.heap.size + 1) 9 ti (.string ⟨#[]⟩) 1 16 Tryd.underlying44 hi hz0 hz1 hz2 rfl (by decide) _ _ _ rfl SY.own.lines ⟨w1.heap.size, 0, none⟩ 1 1 [.string sh] rfl rfl (fun j u hj => World.news_of_block (heap_alloc_new _ _) j u hj) (by simp [Value.oneCell']) (by omega) (by unfold maxLen; omega) hln (by have := SY.own.lt (k := w.heap.size + 1) (by simp [ownBlocks]); omega) _ rfl ?_
  intro gl cl w3 hown hgrow hat hlt
  have HNM := hideK (show some (w.heap.size + 1) ≠ Value.ownBlock (.slice ls1 r.lines.length lc1) from fun e => SY.own.parted.1 (w.heap.size + 1) (by rw [e]; simp) rfl)
  have HS3 : Hid (w3.cell? ⟨w.heap.size + 1, 4, none⟩ = some (.slice ls1 r.lines.length lc1) ∧ w3.cell? ⟨w5.heap.size + 1, 0, none⟩ = some (.int .i64 r.vars[x].k) ∧ w3.cell? ⟨w5.heap.size + 1, 1, none⟩ = some (.int .i64 r.vars[x].n)) := hideK (by
    obtain ⟨s1, s2, s3⟩ := HKZ.out _ HB2
    refine ⟨?_, ?_, ?_⟩
    · rw [hgrow.cell_far _ (SY.own.lt (by simp [ownBlocks])) HNM.out]; exact s1
    · rw [hgrow.cell_far _ SY.va.2.1 (fun e => by have := SY.lt (w5.heap.size + 1) (mem_lv e); omega)]; exact s2
    · rw [hgrow.cell_far _ SY.va.2.1 (fun e => by have := SY.lt (w5.heap.size + 1) (mem_lv e); omega)]; exact s3)
  refine hK.out _ _ HS3.out (fun hHeld => ?_)
  clear hK K
  (try simp only [Act.put, List.getElem_toArray, List.getElem_cons_zero, List.getElem_cons_succ, List.setIfInBounds_toArray, List.set_cons_zero, List.set_cons_succ])
  refine tkZ 6 ?_ ?_ ?_
  rotate_left
  · exact rn
  (try simp only [Act.put, List.getElem_toArray, List.getElem_cons_zero, List.getElem_cons_succ, List.setIfInBounds_toArray, List.set_cons_zero, List.set_cons_succ])
  refine wpAnyZ_last (i := 7) rfl (by kernel_rfl) (by kernel_rfl) (fun K hK => ?_)
  have c4 : w3.cell? ⟨w.heap.size + 1, 4, none⟩ = some (.slice ls1 r.lines.length lc1) := HS3.out.1
  have d4 : w3.frozen? ⟨w.heap.size + 1, 4, none⟩ = false := by rw [hgrow.frozen_far ⟨w.heap.size + 1, 4, none⟩ (SY.own.lt (by simp [ownBlocks])) HNM.out]; exact SY.own.thaw 4
  go_simp
  refine hK.out _ _ ?_
  clear hK K c4 d4
  (try simp only [Act.put, List.getElem_toArray, List.getElem_cons_zero, List.getElem_cons_succ, List.setIfInBounds_toArray, List.set_cons_zero, List.set_cons_succ])
  refine wpAnyZ_done (by kernel_rfl) ?_ _
  have hat2 : Value.ownBlock (.slice ls1 r.lines.length lc1) = some gl ∨ (w1.alloc (.cells #[.string sh] 9)).heap.size ≤ gl := hat.imp id (fun e => by rw [e]; exact Nat.le_refl _)
  have hB2 : w.heap.size + 1 ≤ (w1.alloc (.cells #[.string sh] 9)).heap.size := by have := SY.own.lt (k := w.heap.size + 1) (by simp [ownBlocks]); omega
  have O9 : OwnRun (w3.setCell ⟨w.heap.size + 1, 4, none⟩ (.slice (some ⟨gl, 0, none⟩) (r.lines.length + 1) cl)) (w.heap.size + 1) (w.heap.size + 1) ({ r with lines := r.lines ++ [sh] } : St) (.slice (some ⟨gb, 0, none⟩) r.vars.length vc1) (.slice ts1 r.things.length tc1) (.slice (some ⟨gl, 0, none⟩) (r.lines.length + 1) cl) fv := SY.own.grow_lines hB2 hown hgrow hat2
  have FR := frame_grow (bs := ownBlocks (w.heap.size + 1) (.slice (some ⟨gb, 0, none⟩) r.vars.length vc1) (.slice ts1 r.things.length tc1) (.slice ls1 r.lines.length lc1) fv) hgrow (fun k hk => mem_lv (Eq.symm hk)) (m := w.heap.size + 1) (by simp [ownBlocks]) 4 (.slice (some ⟨gl, 0, none⟩) (r.lines.length + 1) cl)
  have low9 : Below w.heap.size w (w3.setCell ⟨w.heap.size + 1, 4, none⟩ (.slice (some ⟨gl, 0, none⟩) (r.lines.length + 1) cl)) := (Below.grown SY.low hgrow (by omega) (fun k hk => by have := (ownsRow_block_lt SY.own.lines hk).2; have := (ownsRow_block_lt SY.own.lines hk).1; omega)).setCell (by simp only; omega) _
  have hsz : (w1.alloc (.cells #[.string sh] 9)).heap.size ≤ (w3.setCell ⟨w.heap.size + 1, 4, none⟩ (.slice (some ⟨gl, 0, none⟩) (r.lines.length + 1) cl)).heap.size := by have := hgrow.size; simpa [World.setCell] using this
  have res9 := SY.res.own FR hsz SY.nres
  have ins9 := SY.ins.own FR hsz (fun hm => Nat.lt_irrefl _ (SY.lt _ hm))
  have nres9 : some (w.heap.size + 1 + 1) ∉ ownBlocks (w.heap.size + 1) (.slice (some ⟨gb, 0, none⟩) r.vars.length vc1) (.slice ts1 r.things.length tc1) (.slice (some ⟨gl, 0, none⟩) (r.lines.length + 1) cl) fv := nres_lines SY.nres (fun e => by
    rcases hat2 with h | h
    · exact SY.nres (mem_lv (by rw [h, e]))
    · have := SY.res.2.1; omega)
  clear SY FR hsz hat hat2 hB2 hown hgrow hlt HS3 HNM HB2 HB1 hb1 HKZ S BW VZ
  generalize (w3.setCell ⟨w.heap.size + 1, 4, none⟩ (.slice (some ⟨gl, 0, none⟩) (r.lines.length + 1) cl)) = we at *
  obtain ⟨⟨j0, j1, j2, j3, j4, j5⟩, jz, -⟩ := id ins9
  (try simp only at j0 j1 j2 j3 j4 j5)
  have m0 := O9.at_
  (try simp only at m0)
  have mf0 := O9.thaw 0
  go_upto_region 66 with (first | (go_at_call 36; refine (between_any _ _ _ _).mono ?_; rintro e w' ⟨rfl, hw'⟩; rw [hw', show btw 18 5 8 = false from rfl]; clear hw' w') | (go_at_call 51; refine (namesA_any _ _).mono ?_; rintro e w' ⟨rfl, hw'⟩; rw [hw', show nA 18 = true from rfl]; clear hw' w') | (go_at_call 52; refine (namesB_any _ _).mono ?_; rintro e w' ⟨rfl, hw'⟩; rw [hw', show nB 18 = false from rfl]; clear hw' w') | (go_at_call 57; refine (namesTo_any _ _).mono ?_; rintro e w' ⟨rfl, hw'⟩; rw [hw', show nTo 18 = false from rfl]; clear hw' w'))
  have O10 := O9.withAt (r.at_ + 1)
  have res10 := res9.far (a := ⟨w.heap.size + 1, 0, none⟩) (by simp) (.int .i64 (r.at_ + 1))
  have low10 : Below w.heap.size w (we.setCell ⟨w.heap.size + 1, 0, none⟩ (.int .i64 (r.at_ + 1))) := low9.setCell (by simp only; omega) _
  clear m0 mf0 O9 res9 low9
  generalize (we.setCell ⟨w.heap.size + 1, 0, none⟩ (.int .i64 (r.at_ + 1))) = wf at *
  obtain ⟨⟨m0, m1, m2, m3, m4, m5⟩, mz, -⟩ := id O10.r6
  (try simp only at m0)
  (try simp only at m1)
  (try simp only at m2)
  (try simp only at m3)
  (try simp only at m4)
  (try simp only at m5)
  obtain ⟨⟨z0, z1, z2, z3, z4, z5⟩, zz, zf⟩ := id res10
  have g0 := zf 0
  have g1 := zf 1
  have g2 := zf 2
  have g3 := zf 3
  have g4 := zf 4
  have g5 := zf 5
  have HBK := hideK (own_back O10 nres9 low10)
  clear zf O10 res10 low10 nres9
  rename_i K0 hK0
  refine wp_region_lit ?_
  refine wpList_plain rfl (fun K2 hK2 => ?_)
  go_simp
  refine hK2 _ _ ?_
  clear hK2 K2
  (try simp only [Act.put, List.getElem_toArray, List.getElem_cons_zero, List.getElem_cons_succ, List.setIfInBounds_toArray, List.set_cons_zero, List.set_cons_succ])
  refine wpList_plain rfl (fun K2 hK2 => ?_)
  go_simp
  refine hK2 _ _ ?_
  clear hK2 K2
  refine hK0 _ _ ?_
  refine wp_ret ?_
  (try simp only [Exit.then])
  refine bodyPost_ret (v := .agg #[.int .i64 (r.at_ + 1), .slice (some ⟨gb, 0, none⟩) r.vars.length vc1, .slice ts1 r.things.length tc1, .int .i64 (r.taken), .slice (some ⟨gl, 0, none⟩) (r.lines.length + 1) cl, .int .i64 (r.fin)]) (by simp [results, Tryd.results23, go_sem, z0, z1, z2, z3, z4, z5]) rfl ?_
  have HQ : stepSt f c ins r = { ({ r with lines := r.lines ++ [sh] } : St) with at_ := r.at_ + 1 } := by
    have ea : aOf r ⟨18, tt, x, b, n, g⟩ = r.vars[x] := by unfold aOf; rw [if_pos (show nA 18 = true from rfl)]; exact varAt_eq hx
    have e0 : endI r ⟨18, tt, x, b, n, g⟩ = 0 := by
      unfold endI
      (try rw [ea])
      (try rw [eb])
      exact end_none _ 18 (by omega)
    have en : nextAt r ⟨18, tt, x, b, n, g⟩ (aOf r ⟨18, tt, x, b, n, g⟩) = r.at_ + 1 := by unfold nextAt; rw [if_neg (by simp)]
    rw [HST.out, e0, if_neg (by simp), en, ea]
    rw [eff_18, ← HSH.out]
  rw [HQ]
  exact ⟨_, _, _, _, rfl, HBK.out.1, HBK.out.2⟩
end Go.Proofs.YtmapdpcfanecdaaDoor

namespace Go.Proofs.YtmapdpcfanecdaaDoor
set_option linter.unusedVariables false
set_option linter.unusedSimpArgs false
open Go.RowKit
attribute [local go_sem ↓] Go.wp_at_zero Go.wp_at_succ

theorem VAt.setK {w : World} {b : Nat} {v : Val} (h : VAt w b v) (x : Int) : VAt (w.setCell ⟨b, 0, none⟩ (.int .i64 x)) b ⟨x, v.n⟩ := by
  obtain ⟨⟨h0, h1⟩, hz, hf⟩ := h
  exact ⟨⟨World.cell?_setCell_same _ _ _ h0, by rw [World.cell?_setCell_other _ _ _ _ (by intro e; cases e)]; exact h1⟩, by simpa [World.setCell] using hz, fun j => by rw [World.frozen?_setCell]; exact hf j⟩
theorem VAt.setN {w : World} {b : Nat} {v : Val} (h : VAt w b v) (x : Int) : VAt (w.setCell ⟨b, 1, none⟩ (.int .i64 x)) b ⟨v.k, x⟩ := by
  obtain ⟨⟨h0, h1⟩, hz, hf⟩ := h
  exact ⟨⟨by rw [World.cell?_setCell_other _ _ _ _ (by intro e; cases e)]; exact h0, World.cell?_setCell_same _ _ _ h1⟩, by simpa [World.setCell] using hz, fun j => by rw [World.frozen?_setCell]; exact hf j⟩
section
variable {w wx : World} {r : St} {v f : Int} {s : Option Addr} {n cap bi : Nat} {i : Ins} {A C : Val} {vv tv lv : Value} {fv : List Value}
theorem SInv.taken (h : SInv w wx r v f s n cap bi i A C vv tv lv fv) (x : Int) : SInv w (wx.setCell ⟨w.heap.size + 1, 3, none⟩ (.int .i64 x)) { r with taken := x } v f s n cap bi i A C vv tv lv fv := by
  have hb := h.biz
  exact ⟨by simpa using h.own.setM 3 x (by omega), h.prg.far (by simp) _, h.res.far (by simp) _, h.low.setCell (by simp) _, h.ins.far (by simp only; omega) _, h.va.set (by simp only; omega) _, h.vb.set (by simp only; omega) _, h.lt, h.biz, h.nres⟩
end
theorem val14 {ins : List Int} {tk n : Int} {j : Nat} (hj : tk = (j : Int)) (hjl : j < ins.length) : (if tk < ins.length then clamp n (ins.getD tk.toNat 0) else 0) = clamp n ins[j] := by
  subst hj
  rw [if_pos (by omega), Int.toNat_natCast]
  simp [List.getD, List.getElem?_eq_getElem hjl]
end Go.Proofs.YtmapdpcfanecdaaDoor

namespace Go.Proofs.YtmapdpcfanecdaaDoor
set_option linter.unusedVariables false
set_option linter.unusedSimpArgs false
open Go.RowKit
attribute [local go_sem ↓] Go.wp_at_zero Go.wp_at_succ

set_option maxHeartbeats 4000000 in
set_option maxRecDepth 20000 in
theorem stepR_14n (v f : Nat) (s : Option Addr) (c : List Ins) (cap : Nat) (r : St) (vs : Option Addr) (vc : Nat) (ts : Option Addr) (tc : Nat) (ls : Option Addr) (lc : Nat) (is : Option Addr) (ic : Nat) (ins : List Int) (w : World) (hc : CodeAt w s c) (hr : RunAt w r vs ts ls) (hp : ProgOk v f c) (hk : RunOk v f c r) (hI : IntsAt w is ins) (hln : (r.lines.length + 1) * 16 ≤ 140737488355328) (t : Nat) (k : Nat) (a b n g : Int) (hf : r.fin = 0) (ha : r.at_ = (k : Int)) (hkl : k < c.length) (hck : c[k] = ⟨14, t, a, b, n, g⟩) (ht : t < r.vars.length) (hn0 : 0 ≤ n) (hn1 : n ≤ 1000000) (htk : (ins.length : Int) ≤ r.taken) :
    Calls Tryd.prog 23 #[.agg #[.int .i64 (v : Int), .int .i64 (f : Int), .slice s c.length cap], runV r vs vc ts tc ls lc, .slice is ins.length ic] w fun e w' => ∃ vv tv lv fv, e = .returned (.agg #[.int .i64 (stepSt f c ins r).at_, vv, tv, .int .i64 (stepSt f c ins r).taken, lv, .int .i64 (stepSt f c ins r).fin]) ∧ OwnRows w' w.heap.size (stepSt f c ins r) vv tv lv fv ∧ Below w.heap.size w w' := by
  have hmf : ∀ (fn : Fn) (first cp : Array Value) (w : World), (Instr.makeFunc fn first cp).run Tryd.prog w = .ok (.func fn first cp) w := fun _ _ _ _ => rfl
  have HTK := hideK htk
  have hnl : ¬ (r.taken < (ins.length : Int)) := by omega
  clear htk
  have gn0 : -9223372036854775808 ≤ -n := by omega
  have gn1 : -n ≤ 9223372036854775807 := by omega
  have HCM : Hid ((if r.taken < ins.length then clamp n (ins.getD r.taken.toNat 0) else 0) = 0) := hideK (by rw [if_neg (by have := HTK.out; omega)])
  have HF0 := hideK hf
  have HA0 := hideK ha
  have HK0 := hideK hck
  have HST := hideK (stepSt_at (F := f) (ins := ins) hf ha hkl hck)
  clear hf ha hck
  unfold runV
  obtain ⟨w3, e3, hb0, P0, Q0, Z0, HZ3, HCR⟩ := stPre v f s c cap r vs vc ts tc ls lc w hr hp hk hln
  clear hr
  go_enter Tryd.func23, Tryd.ntmps23
  go_wp2_with (go_at_call 50; fail)
  rw [← e3.out]
  clear e3
  refine HCR.out.mono ?_
  rintro e w4 ⟨vv, tv, lv, fv, rfl, OR, hb4⟩
  clear HCR
  obtain ⟨vs1, vc1, ts1, tc1, ls1, lc1, rfl, rfl, rfl, -⟩ := OR.at
  obtain ⟨w5, e5, O5, P5, Z5, H5, C5, I5, hz5, NRES⟩ := stPost HZ3.out OR P0 Q0 Z0 hb0 hb4 hc hI
  obtain ⟨⟨q0, q1, q2, q3, q4, q5⟩, qz, qf⟩ := id (Q0.call hb4)
  have g0 := qf 0
  have g1 := qf 1
  have g2 := qf 2
  have g3 := qf 3
  have g4 := qf 4
  have g5 := qf 5
  clear HZ3 P0 Q0 Z0 hb4 hc hI OR hb0 qf
  go_upto_region 2 with fail
  clear q0 q1 q2 q3 q4 q5 qz g0 g1 g2 g3 g4 g5
  rw [← e5.out]
  clear e5
  obtain ⟨⟨m0, m1, m2, m3, m4, m5⟩, mz, mf⟩ := id O5.r6
  obtain ⟨⟨p0, p1, p2⟩, pz⟩ := id P5
  have hfb : (r.fin != 0) = false := by rw [HF0.out]; rfl
  have hat0 : (0 : Int) ≤ r.at_ := by rw [HA0.out]; omega
  have hat60 : r.at_ ≤ 60 := by rw [HA0.out]; have := hp.len; omega
  rw [HA0.out] at m0
  rcases C5 with C5 | ⟨cb, co, rfl, hcb, hci⟩
  · rw [C5] at hkl; simp at hkl
  obtain ⟨i0, i1, i2, i3, i4, i5⟩ := hci k hkl
  rw [HK0.out] at i0 i1 i2 i3 i4 i5
  simp only at i0 i1 i2 i3 i4 i5
  have n0 : (0 : Int) ≤ (k : Int) := by omega
  have n1 : (k : Int) < (c.length : Int) := by omega
  have nk : ((k : Int) == (c.length : Int)) = false := by simp; omega
  have hk60 : (k : Int) ≤ 60 := by have := hp.len; omega
  obtain ⟨gb, gc, egb, hg1, hg2, hcell, hfz⟩ := O5.form (by have := hk.vars; have := hp.v1; omega)
  cases egb
  have HCL := hideK (And.intro hcell hfz)
  have HSI := hideK (SInv.new O5 P5 Z5 H5 hz5 NRES ⟨14, t, a, b, n, g⟩)
  have BW : Below w5.heap.size w5 (((w5.alloc (.cells #[.int .i64 14, .int .i64 t, .int .i64 a, .int .i64 b, .int .i64 n, .int .i64 g] 71)).alloc (.cells #[.int .i64 0, .int .i64 0] 94)).alloc (.cells #[.int .i64 0, .int .i64 0] 94)) := by go_grown
  clear hci mf hcell hfz O5 P5 Z5 hz5 NRES H5
  go_upto_region 9 with fail
  generalize (((w5.alloc (.cells #[.int .i64 14, .int .i64 t, .int .i64 a, .int .i64 b, .int .i64 n, .int .i64 g] 71)).alloc (.cells #[.int .i64 0, .int .i64 0] 94)).alloc (.cells #[.int .i64 0, .int .i64 0] 94)) = w6 at *
  have S := HSI.out
  clear HSI m0 m1 m2 m3 m4 m5 mz p0 p1 p2 pz i0 i1 i2 i3 i4 i5
  generalize w6 = wc at *
  clear w6
  obtain ⟨j0, j1, j2, j3, j4, j5, jz, p0, p1, p2, pz, m0, m1, m2, m3, m4, m5, mz, mf2, mf3, mf4, mf5, a0, a1, az, af0, af1, b0, b1, bz, bf0, bf1⟩ := S.all
  (try simp only at j0 j1 j2 j3 j4 j5 a0 a1 b0 b1)
  go_upto_region 24 with (first | (go_at_call 36; refine (between_any _ _ _ _).mono ?_; rintro e w' ⟨rfl, hw'⟩; rw [hw', show btw 14 5 8 = false from rfl]; clear hw' w') | (go_at_call 51; refine (namesA_any _ _).mono ?_; rintro e w' ⟨rfl, hw'⟩; rw [hw', show nA 14 = false from rfl]; clear hw' w') | (go_at_call 52; refine (namesB_any _ _).mono ?_; rintro e w' ⟨rfl, hw'⟩; rw [hw', show nB 14 = false from rfl]; clear hw' w') | (go_at_call 57; refine (namesTo_any _ _).mono ?_; rintro e w' ⟨rfl, hw'⟩; rw [hw', show nTo 14 = true from rfl]; clear hw' w'))
  have VZ := VAt.new wc ⟨0, 0⟩
  (try simp only at VZ)
  have SN := S.call (wy := (wc.alloc (.cells #[.int .i64 0, .int .i64 0] 94))) (by go_grown)
  have BN : Below w5.heap.size w5 (wc.alloc (.cells #[.int .i64 0, .int .i64 0] 94)) := BW.alloc BW.size _
  have hbv : w5.heap.size + 1 + 1 < wc.heap.size := S.vb.2.1
  clear j0 j1 j2 j3 j4 j5 jz p0 p1 p2 pz m0 m1 m2 m3 m4 m5 mz mf2 mf3 mf4 mf5 a0 a1 az af0 af1 b0 b1 bz bf0 bf1
  clear S BW
  generalize (wc.alloc (.cells #[.int .i64 0, .int .i64 0] 94)) = wv at *
  have S := SN
  have BW := BN
  clear SN BN
  obtain ⟨j0, j1, j2, j3, j4, j5, jz, p0, p1, p2, pz, m0, m1, m2, m3, m4, m5, mz, mf2, mf3, mf4, mf5, a0, a1, az, af0, af1, b0, b1, bz, bf0, bf1⟩ := S.all
  (try simp only at j0 j1 j2 j3 j4 j5 a0 a1 b0 b1)
  obtain ⟨⟨v0, v1⟩, vz, vf⟩ := id VZ
  (try simp only at v0 v1)
  have vf0 := vf 0
  have vf1 := vf 1
  clear vf
  go_upto_region 58 with (first | (go_at_call 36; refine (between_any _ _ _ _).mono ?_; rintro e w' ⟨rfl, hw'⟩; rw [hw', show btw 14 5 8 = false from rfl]; clear hw' w') | (go_at_call 51; refine (namesA_any _ _).mono ?_; rintro e w' ⟨rfl, hw'⟩; rw [hw', show nA 14 = false from rfl]; clear hw' w') | (go_at_call 52; refine (namesB_any _ _).mono ?_; rintro e w' ⟨rfl, hw'⟩; rw [hw', show nB 14 = false from rfl]; clear hw' w') | (go_at_call 57; refine (namesTo_any _ _).mono ?_; rintro e w' ⟨rfl, hw'⟩; rw [hw', show nTo 14 = true from rfl]; clear hw' w'))
  have V9 : VAt (wv.setCell ⟨wc.heap.size, 0, none⟩ (.int .i64 1)) wc.heap.size (⟨1, 0⟩ : Val) := (VZ.setK 1)
  have SN := (S.far (a := ⟨wc.heap.size, 0, none⟩) hbv (.int .i64 1))
  clear j0 j1 j2 j3 j4 j5 jz p0 p1 p2 pz m0 m1 m2 m3 m4 m5 mz mf2 mf3 mf4 mf5 a0 a1 az af0 af1 b0 b1 bz bf0 bf1
  clear v0 v1 vz vf0 vf1 S BW VZ I5
  generalize (wv.setCell ⟨wc.heap.size, 0, none⟩ (.int .i64 1)) = wu at *
  have S := SN
  clear SN
  obtain ⟨j0, j1, j2, j3, j4, j5, jz, p0, p1, p2, pz, m0, m1, m2, m3, m4, m5, mz, mf2, mf3, mf4, mf5, a0, a1, az, af0, af1, b0, b1, bz, bf0, bf1⟩ := S.all
  (try simp only at j0 j1 j2 j3 j4 j5 a0 a1 b0 b1)
  go_upto_region 61 with (first | (go_at_call 36; refine (between_any _ _ _ _).mono ?_; rintro e w' ⟨rfl, hw'⟩; rw [hw', show btw 14 5 8 = false from rfl]; clear hw' w') | (go_at_call 51; refine (namesA_any _ _).mono ?_; rintro e w' ⟨rfl, hw'⟩; rw [hw', show nA 14 = false from rfl]; clear hw' w') | (go_at_call 52; refine (namesB_any _ _).mono ?_; rintro e w' ⟨rfl, hw'⟩; rw [hw', show nB 14 = false from rfl]; clear hw' w') | (go_at_call 57; refine (namesTo_any _ _).mono ?_; rintro e w' ⟨rfl, hw'⟩; rw [hw', show nTo 14 = true from rfl]; clear hw' w'))
  have SN := S.taken (wrap64 (r.taken + 1))
  have VN := V9.set (a := ⟨w.heap.size + 1, 3, none⟩) (by simp only; omega) (.int .i64 (wrap64 (r.taken + 1)))
  clear j0 j1 j2 j3 j4 j5 jz p0 p1 p2 pz m0 m1 m2 m3 m4 m5 mz mf2 mf3 mf4 mf5 a0 a1 az af0 af1 b0 b1 bz bf0 bf1
  clear S V9 HCL
  generalize (wu.setCell ⟨w.heap.size + 1, 3, none⟩ (.int .i64 (wrap64 (r.taken + 1)))) = wd at *
  have S := SN
  have V9 := VN
  clear SN VN
  obtain ⟨gb2, gc2, eg2, -, -, hcell2, hfz2⟩ := S.own.form (show 0 < r.vars.length by have := hk.vars; have := hp.v1; omega)
  cases eg2
  have HCL : Hid ((∀ (i : Nat) (h : i < r.vars.length), wd.cell? ⟨gb, i * 2, none⟩ = some (.int .i64 r.vars[i].k) ∧ wd.cell? ⟨gb, i * 2 + 1, none⟩ = some (.int .i64 r.vars[i].n)) ∧ ∀ j, wd.frozen? ⟨gb, j, none⟩ = false) := hideK ⟨hcell2, hfz2⟩
  clear hcell2 hfz2
  have BW : Below wd.heap.size wd wd := Below.refl _ _
  have hg2 : gb < wd.heap.size := S.own.lt (by simp only [ownBlocks, List.mem_cons]; right; left; rfl)
  have kt0 : wd.cell? ⟨gb, t * 2, none⟩ = some (.int .i64 r.vars[t].k) := by rw [BW.cell (by simpa using hg2)]; exact (HCL.out.1 t ht).1
  have kt1 : wd.cell? ⟨gb, t * 2 + 1, none⟩ = some (.int .i64 r.vars[t].n) := by rw [BW.cell (by simpa using hg2)]; exact (HCL.out.1 t ht).2
  have ft0 : wd.frozen? ⟨gb, t * 2, none⟩ = false := by rw [BW.frozen (by simpa using hg2)]; exact HCL.out.2 _
  have ft1 : wd.frozen? ⟨gb, t * 2 + 1, none⟩ = false := by rw [BW.frozen (by simpa using hg2)]; exact HCL.out.2 _
  have nnt0 : (0 : Int) ≤ (t : Int) := by omega
  have nnt1 : (t : Int) < (r.vars.length : Int) := by omega
  obtain ⟨j0, j1, j2, j3, j4, j5, jz, p0, p1, p2, pz, m0, m1, m2, m3, m4, m5, mz, mf2, mf3, mf4, mf5, a0, a1, az, af0, af1, b0, b1, bz, bf0, bf1⟩ := S.all
  (try simp only at j0 j1 j2 j3 j4 j5 a0 a1 b0 b1)
  obtain ⟨⟨v0, v1⟩, vz, -⟩ := id V9
  (try simp only at v0 v1)
  have hgv : gb ≠ wc.heap.size := by omega
  go_upto_region 63 with (first | (go_at_call 36; refine (between_any _ _ _ _).mono ?_; rintro e w' ⟨rfl, hw'⟩; rw [hw', show btw 14 5 8 = false from rfl]; clear hw' w') | (go_at_call 51; refine (namesA_any _ _).mono ?_; rintro e w' ⟨rfl, hw'⟩; rw [hw', show nA 14 = false from rfl]; clear hw' w') | (go_at_call 52; refine (namesB_any _ _).mono ?_; rintro e w' ⟨rfl, hw'⟩; rw [hw', show nB 14 = false from rfl]; clear hw' w') | (go_at_call 57; refine (namesTo_any _ _).mono ?_; rintro e w' ⟨rfl, hw'⟩; rw [hw', show nTo 14 = true from rfl]; clear hw' w'))
  have O9 := S.own.put t ht (⟨1, 0⟩ : Val)
  have FR := frame_put (bs := ownBlocks (w.heap.size + 1) (.slice (some ⟨gb, 0, none⟩) r.vars.length vc1) (.slice ts1 r.things.length tc1) (.slice ls1 r.lines.length lc1) fv) (Below.refl wd.heap.size wd) (g := gb) (by simp only [ownBlocks, List.mem_cons]; right; left; rfl) (t * 2) (t * 2 + 1) (.int .i64 (⟨1, 0⟩ : Val).k) (.int .i64 (⟨1, 0⟩ : Val).n)
  have hsz : wd.heap.size ≤ ((wd.setCell ⟨gb, t * 2, none⟩ (.int .i64 (⟨1, 0⟩ : Val).k)).setCell ⟨gb, t * 2 + 1, none⟩ (.int .i64 (⟨1, 0⟩ : Val).n)).heap.size := by simp [World.setCell]
  have res9 := S.res.own FR hsz S.nres
  have ins9 := S.ins.own FR hsz (fun hm => Nat.lt_irrefl _ (S.lt _ hm))
  have low9 : Below w.heap.size w ((wd.setCell ⟨gb, t * 2, none⟩ (.int .i64 (⟨1, 0⟩ : Val).k)).setCell ⟨gb, t * 2 + 1, none⟩ (.int .i64 (⟨1, 0⟩ : Val).n)) := (S.low.setCell (by simp only; omega) _).setCell (by simp only; omega) _
  have nres9 := S.nres
  clear j0 j1 j2 j3 j4 j5 jz p0 p1 p2 pz m0 m1 m2 m3 m4 m5 mz mf2 mf3 mf4 mf5 a0 a1 az af0 af1 b0 b1 bz bf0 bf1
  clear kt0 kt1 ft0 ft1 v0 v1 vz S BW V9 FR hsz
  generalize ((wd.setCell ⟨gb, t * 2, none⟩ (.int .i64 (⟨1, 0⟩ : Val).k)).setCell ⟨gb, t * 2 + 1, none⟩ (.int .i64 (⟨1, 0⟩ : Val).n)) = we at *
  obtain ⟨⟨j0, j1, j2, j3, j4, j5⟩, jz, -⟩ := id ins9
  (try simp only at j0 j1 j2 j3 j4 j5)
  have m0 := O9.at_
  (try simp only at m0)
  have mf0 := O9.thaw 0
  go_upto_region 66 with (first | (go_at_call 36; refine (between_any _ _ _ _).mono ?_; rintro e w' ⟨rfl, hw'⟩; rw [hw', show btw 14 5 8 = false from rfl]; clear hw' w') | (go_at_call 51; refine (namesA_any _ _).mono ?_; rintro e w' ⟨rfl, hw'⟩; rw [hw', show nA 14 = false from rfl]; clear hw' w') | (go_at_call 52; refine (namesB_any _ _).mono ?_; rintro e w' ⟨rfl, hw'⟩; rw [hw', show nB 14 = false from rfl]; clear hw' w') | (go_at_call 57; refine (namesTo_any _ _).mono ?_; rintro e w' ⟨rfl, hw'⟩; rw [hw', show nTo 14 = true from rfl]; clear hw' w'))
  have O10 := O9.withAt (r.at_ + 1)
  have res10 := res9.far (a := ⟨w.heap.size + 1, 0, none⟩) (by simp) (.int .i64 (r.at_ + 1))
  have low10 : Below w.heap.size w (we.setCell ⟨w.heap.size + 1, 0, none⟩ (.int .i64 (r.at_ + 1))) := low9.setCell (by simp only; omega) _
  clear m0 mf0 O9 res9 low9
  generalize (we.setCell ⟨w.heap.size + 1, 0, none⟩ (.int .i64 (r.at_ + 1))) = wf at *
  obtain ⟨⟨m0, m1, m2, m3, m4, m5⟩, mz, -⟩ := id O10.r6
  (try simp only at m0)
  (try simp only at m1)
  (try simp only at m2)
  (try simp only at m3)
  (try simp only at m4)
  (try simp only at m5)
  obtain ⟨⟨z0, z1, z2, z3, z4, z5⟩, zz, zf⟩ := id res10
  have g0 := zf 0
  have g1 := zf 1
  have g2 := zf 2
  have g3 := zf 3
  have g4 := zf 4
  have g5 := zf 5
  have HBK := hideK (own_back O10 nres9 low10)
  clear zf O10 res10 low10 nres9
  rename_i K0 hK0
  refine wp_region_lit ?_
  refine wpList_plain rfl (fun K2 hK2 => ?_)
  go_simp
  refine hK2 _ _ ?_
  clear hK2 K2
  (try simp only [Act.put, List.getElem_toArray, List.getElem_cons_zero, List.getElem_cons_succ, List.setIfInBounds_toArray, List.set_cons_zero, List.set_cons_succ])
  refine wpList_plain rfl (fun K2 hK2 => ?_)
  go_simp
  refine hK2 _ _ ?_
  clear hK2 K2
  refine hK0 _ _ ?_
  refine wp_ret ?_
  (try simp only [Exit.then])
  refine bodyPost_ret (v := .agg #[.int .i64 (r.at_ + 1), .slice (some ⟨gb, 0, none⟩) r.vars.length vc1, .slice ts1 r.things.length tc1, .int .i64 (wrap64 (r.taken + 1)), .slice ls1 r.lines.length lc1, .int .i64 (r.fin)]) (by simp [results, Tryd.results23, go_sem, z0, z1, z2, z3, z4, z5]) rfl ?_
  have HQ : stepSt f c ins r = { ({ r with vars := r.vars.set t (⟨1, 0⟩ : Val), taken := wrap64 (r.taken + 1) } : St) with at_ := r.at_ + 1 } := by
    have e0 : endI r ⟨14, t, a, b, n, g⟩ = 0 := by
      unfold endI
      (try rw [ea])
      (try rw [eb])
      exact end_none _ 14 (by omega)
    have en : nextAt r ⟨14, t, a, b, n, g⟩ (aOf r ⟨14, t, a, b, n, g⟩) = r.at_ + 1 := by unfold nextAt; rw [if_neg (by simp)]
    rw [HST.out, e0, if_neg (by simp), en]
    rw [eff_14, Int.toNat_natCast, HCM.out, w64_wrap]
  rw [HQ]
  exact ⟨_, _, _, _, rfl, HBK.out.1, HBK.out.2⟩
end Go.Proofs.YtmapdpcfanecdaaDoor
