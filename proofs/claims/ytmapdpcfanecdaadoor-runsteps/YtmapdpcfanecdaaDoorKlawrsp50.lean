/- Walks over package run: what the machine does, kind by kind. -/
import Derived.Test.YtmapdpcfanecdaaDoorKlawrsp08
import Derived.Test.YtmapdpcfanecdaaDoorKlawrsp31
import Derived.Test.YtmapdpcfanecdaaDoorKlawrsp35
import Derived.Test.YtmapdpcfanecdaaDoorKlawrsp15
import Derived.Deep.DeepCutAuto
import Derived.Laws.EntriesVeiled
namespace Go.Proofs.YtmapdpcfanecdaaDoor
set_option linter.unusedVariables false
set_option linter.unusedSimpArgs false
open Go.RowKit
attribute [local go_sem ↓] Go.wp_at_zero Go.wp_at_succ

theorem mem_tv {k m : Nat} {vv tv lv : Value} {fv : List Value} (e : some k = tv.ownBlock) : some k ∈ ownBlocks m vv tv lv fv := by unfold ownBlocks; rw [e]; simp
theorem nres_things {b m g h : Nat} {vv tv lv : Value} {fv : List Value} {n c i d : Nat} (hh : some b ∉ ownBlocks m vv tv lv fv) (hg : b ≠ g) (h2 : b ≠ h) : some b ∉ ownBlocks m vv (.slice (some ⟨g, 0, none⟩) n c) lv (fv ++ [.slice (some ⟨h, 0, none⟩) i d]) := by
  intro hm
  unfold ownBlocks at hh hm
  rcases List.mem_cons.1 hm with e | hm
  · exact hh (by rw [e]; simp)
  rcases List.mem_cons.1 hm with e | hm
  · exact hh (by rw [e]; simp)
  rcases List.mem_cons.1 hm with e | hm
  · exact hg (by cases e; rfl)
  rcases List.mem_cons.1 hm with e | hm
  · exact hh (by rw [e]; simp)
  rw [List.map_append] at hm
  rcases List.mem_append.1 hm with hm | hm
  · exact hh (by simp only [List.mem_cons]; right; right; right; right; exact hm)
  · simp only [List.map_cons, List.map_nil, List.mem_singleton] at hm
    exact h2 (by cases hm; rfl)

set_option maxHeartbeats 4000000 in
set_option maxRecDepth 20000 in
theorem stepR_11n (v f : Nat) (s : Option Addr) (c : List Ins) (cap : Nat) (r : St) (vs : Option Addr) (vc : Nat) (ts : Option Addr) (tc : Nat) (ls : Option Addr) (lc : Nat) (is : Option Addr) (ic : Nat) (ins : List Int) (w : World) (hc : CodeAt w s c) (hr : RunAt w r vs ts ls) (hp : ProgOk v f c) (hk : RunOk v f c r) (hI : IntsAt w is ins) (hln : (r.lines.length + 1) * 16 ≤ 140737488355328) (t : Nat) (k : Nat) (a b n g : Int) (hf : r.fin = 0) (ha : r.at_ = (k : Int)) (hkl : k < c.length) (hck : c[k] = ⟨11, t, a, b, n, g⟩) (ht : t < r.vars.length) (hT : r.things.length < 100) :
    Calls Tryd.prog 23 #[.agg #[.int .i64 (v : Int), .int .i64 (f : Int), .slice s c.length cap], runV r vs vc ts tc ls lc, .slice is ins.length ic] w fun e w' => ∃ vv tv lv fv, e = .returned (.agg #[.int .i64 (stepSt f c ins r).at_, vv, tv, .int .i64 (stepSt f c ins r).taken, lv, .int .i64 (stepSt f c ins r).fin]) ∧ OwnRows w' w.heap.size (stepSt f c ins r) vv tv lv fv ∧ Below w.heap.size w w' := by
  have hmf : ∀ (fn : Fn) (first cp : Array Value) (w : World), (Instr.makeFunc fn first cp).run Tryd.prog w = .ok (.func fn first cp) w := fun _ _ _ _ => rfl
  have HTL := hideK hT
  have nT : ((r.things.length : Int) == 100) = false := by simp; omega
  obtain ⟨ti, hi, hz0, hz1, hz2⟩ := info_parts info_val
  obtain ⟨tj, hj, hy0, hy1, hy2⟩ := info_parts info_thg
  clear hT
  have HF0 := hideK hf
  have HA0 := hideK ha
  have HK0 := hideK hck
  have HST := hideK (stepSt_at (F := f) (ins := ins) hf ha hkl hck)
  clear hf ha hck
  unfold runV
  obtain ⟨w3, e3, hb0, P0, Q0, Z0, HZ3, HCR⟩ := stPre v f s c cap r vs vc ts tc ls lc w hr hp hk hln
  clear hr
  go_enter Tryd.func23, Tryd.ntmps23
  go_wp2_with (go_at_call 50; fail)
  rw [← e3.out]
  clear e3
  refine HCR.out.mono ?_
  rintro e w4 ⟨vv, tv, lv, fv, rfl, OR, hb4⟩
  clear HCR
  obtain ⟨vs1, vc1, ts1, tc1, ls1, lc1, rfl, rfl, rfl, -⟩ := OR.at
  obtain ⟨w5, e5, O5, P5, Z5, H5, C5, I5, hz5, NRES⟩ := stPost HZ3.out OR P0 Q0 Z0 hb0 hb4 hc hI
  obtain ⟨⟨q0, q1, q2, q3, q4, q5⟩, qz, qf⟩ := id (Q0.call hb4)
  have g0 := qf 0
  have g1 := qf 1
  have g2 := qf 2
  have g3 := qf 3
  have g4 := qf 4
  have g5 := qf 5
  clear HZ3 P0 Q0 Z0 hb4 hc hI OR hb0 qf
  go_upto_region 2 with fail
  clear q0 q1 q2 q3 q4 q5 qz g0 g1 g2 g3 g4 g5
  rw [← e5.out]
  clear e5
  obtain ⟨⟨m0, m1, m2, m3, m4, m5⟩, mz, mf⟩ := id O5.r6
  obtain ⟨⟨p0, p1, p2⟩, pz⟩ := id P5
  have hfb : (r.fin != 0) = false := by rw [HF0.out]; rfl
  have hat0 : (0 : Int) ≤ r.at_ := by rw [HA0.out]; omega
  have hat60 : r.at_ ≤ 60 := by rw [HA0.out]; have := hp.len; omega
  rw [HA0.out] at m0
  rcases C5 with C5 | ⟨cb, co, rfl, hcb, hci⟩
  · rw [C5] at hkl; simp at hkl
  obtain ⟨i0, i1, i2, i3, i4, i5⟩ := hci k hkl
  rw [HK0.out] at i0 i1 i2 i3 i4 i5
  simp only at i0 i1 i2 i3 i4 i5
  have n0 : (0 : Int) ≤ (k : Int) := by omega
  have n1 : (k : Int) < (c.length : Int) := by omega
  have nk : ((k : Int) == (c.length : Int)) = false := by simp; omega
  have hk60 : (k : Int) ≤ 60 := by have := hp.len; omega
  obtain ⟨gb, gc, egb, hg1, hg2, hcell, hfz⟩ := O5.form (by have := hk.vars; have := hp.v1; omega)
  cases egb
  have HCL := hideK (And.intro hcell hfz)
  have HSI := hideK (SInv.new O5 P5 Z5 H5 hz5 NRES ⟨11, t, a, b, n, g⟩)
  have BW : Below w5.heap.size w5 (((w5.alloc (.cells #[.int .i64 11, .int .i64 t, .int .i64 a, .int .i64 b, .int .i64 n, .int .i64 g] 71)).alloc (.cells #[.int .i64 0, .int .i64 0] 94)).alloc (.cells #[.int .i64 0, .int .i64 0] 94)) := by go_grown
  clear hci mf hcell hfz O5 P5 Z5 hz5 NRES H5
  go_upto_region 9 with fail
  generalize (((w5.alloc (.cells #[.int .i64 11, .int .i64 t, .int .i64 a, .int .i64 b, .int .i64 n, .int .i64 g] 71)).alloc (.cells #[.int .i64 0, .int .i64 0] 94)).alloc (.cells #[.int .i64 0, .int .i64 0] 94)) = w6 at *
  have S := HSI.out
  clear HSI m0 m1 m2 m3 m4 m5 mz p0 p1 p2 pz i0 i1 i2 i3 i4 i5
  generalize w6 = wc at *
  clear w6
  obtain ⟨j0, j1, j2, j3, j4, j5, jz, p0, p1, p2, pz, m0, m1, m2, m3, m4, m5, mz, mf2, mf3, mf4, mf5, a0, a1, az, af0, af1, b0, b1, bz, bf0, bf1⟩ := S.all
  (try simp only at j0 j1 j2 j3 j4 j5 a0 a1 b0 b1)
  go_upto_region 24 with (first | (go_at_call 36; refine (between_any _ _ _ _).mono ?_; rintro e w' ⟨rfl, hw'⟩; rw [hw', show btw 11 5 8 = false from rfl]; clear hw' w') | (go_at_call 51; refine (namesA_any _ _).mono ?_; rintro e w' ⟨rfl, hw'⟩; rw [hw', show nA 11 = false from rfl]; clear hw' w') | (go_at_call 52; refine (namesB_any _ _).mono ?_; rintro e w' ⟨rfl, hw'⟩; rw [hw', show nB 11 = false from rfl]; clear hw' w') | (go_at_call 57; refine (namesTo_any _ _).mono ?_; rintro e w' ⟨rfl, hw'⟩; rw [hw', show nTo 11 = true from rfl]; clear hw' w'))
  have VZ := VAt.new wc ⟨0, 0⟩
  (try simp only at VZ)
  have SN := S.call (wy := (wc.alloc (.cells #[.int .i64 0, .int .i64 0] 94))) (by go_grown)
  have BN : Below w5.heap.size w5 (wc.alloc (.cells #[.int .i64 0, .int .i64 0] 94)) := BW.alloc BW.size _
  have hbv : w5.heap.size + 1 + 1 < wc.heap.size := S.vb.2.1
  clear j0 j1 j2 j3 j4 j5 jz p0 p1 p2 pz m0 m1 m2 m3 m4 m5 mz mf2 mf3 mf4 mf5 a0 a1 az af0 af1 b0 b1 bz bf0 bf1
  clear S BW
  generalize (wc.alloc (.cells #[.int .i64 0, .int .i64 0] 94)) = wv at *
  have S := SN
  have BW := BN
  clear SN BN
  obtain ⟨j0, j1, j2, j3, j4, j5, jz, p0, p1, p2, pz, m0, m1, m2, m3, m4, m5, mz, mf2, mf3, mf4, mf5, a0, a1, az, af0, af1, b0, b1, bz, bf0, bf1⟩ := S.all
  (try simp only at j0 j1 j2 j3 j4 j5 a0 a1 b0 b1)
  obtain ⟨⟨v0, v1⟩, vz, vf⟩ := id VZ
  (try simp only at v0 v1)
  have vf0 := vf 0
  have vf1 := vf 1
  clear vf
  go_upto_region 45 with (first | (go_at_call 36; refine (between_any _ _ _ _).mono ?_; rintro e w' ⟨rfl, hw'⟩; rw [hw', show btw 11 5 8 = false from rfl]; clear hw' w') | (go_at_call 51; refine (namesA_any _ _).mono ?_; rintro e w' ⟨rfl, hw'⟩; rw [hw', show nA 11 = false from rfl]; clear hw' w') | (go_at_call 52; refine (namesB_any _ _).mono ?_; rintro e w' ⟨rfl, hw'⟩; rw [hw', show nB 11 = false from rfl]; clear hw' w') | (go_at_call 57; refine (namesTo_any _ _).mono ?_; rintro e w' ⟨rfl, hw'⟩; rw [hw', show nTo 11 = true from rfl]; clear hw' w'))
  have V9 := VZ.put (⟨3, (r.things.length : Int)⟩ : Val)
  have HL : Below wc.heap.size wv ((wv.setCell ⟨wc.heap.size, 0, none⟩ (.int .i64 (⟨3, (r.things.length : Int)⟩ : Val).k)).setCell ⟨wc.heap.size, 1, none⟩ (.int .i64 (⟨3, (r.things.length : Int)⟩ : Val).n)) := ((Below.refl wc.heap.size wv).setCell (p := ⟨wc.heap.size, 0, none⟩) (Nat.le_refl _) _).setCell (p := ⟨wc.heap.size, 1, none⟩) (Nat.le_refl _) _
  have HO : ∀ k, k ≠ wc.heap.size → ((wv.setCell ⟨wc.heap.size, 0, none⟩ (.int .i64 (⟨3, (r.things.length : Int)⟩ : Val).k)).setCell ⟨wc.heap.size, 1, none⟩ (.int .i64 (⟨3, (r.things.length : Int)⟩ : Val).n)).heap[k]? = wv.heap[k]? := fun k hk => heap_set2 _ _ _ _ _ _ k hk
  have SN := S.only hbv HO HL
  clear j0 j1 j2 j3 j4 j5 jz p0 p1 p2 pz m0 m1 m2 m3 m4 m5 mz mf2 mf3 mf4 mf5 a0 a1 az af0 af1 b0 b1 bz bf0 bf1
  clear v0 v1 vz vf0 vf1 S BW VZ HL HO
  (try simp only at V9)
  (try simp only at SN)
  generalize ((wv.setCell ⟨wc.heap.size, 0, none⟩ (.int .i64 3)).setCell ⟨wc.heap.size, 1, none⟩ (.int .i64 (r.things.length : Int))) = w2 at *
  have S := SN
  clear SN
  obtain ⟨j0, j1, j2, j3, j4, j5, jz, p0, p1, p2, pz, m0, m1, m2, m3, m4, m5, mz, mf2, mf3, mf4, mf5, a0, a1, az, af0, af1, b0, b1, bz, bf0, bf1⟩ := S.all
  (try simp only at j0 j1 j2 j3 j4 j5 a0 a1 b0 b1)
  have KZ : ∀ wx, Below w2.heap.size w2 wx → wx.cell? ⟨w.heap.size + 1, 2, none⟩ = some (.slice ts1 r.things.length tc1) ∧ wx.cell? ⟨w.heap.size + 1, 0, none⟩ = some (.int .i64 r.at_) ∧ wx.cell? ⟨w.heap.size, 1, none⟩ = some (.int .i64 f) := fun wx hx => ⟨by rw [hx.cell (by simp only; exact mz)]; exact m2, by rw [hx.cell (by simp only; exact mz)]; exact m0, by rw [hx.cell (by simp only; exact pz)]; exact p1⟩
  have HKZ := hideK KZ
  have hN2 : w.heap.size + 1 < w2.heap.size := mz
  clear KZ
  clear j0 j1 j2 j3 j4 j5 jz p0 p1 p2 pz m0 m1 m2 m3 m4 m5 mz mf2 mf3 mf4 mf5 a0 a1 az af0 af1 b0 b1 bz bf0 bf1
  refine wp_region_z (S := (fun wx => wx.cell? ⟨w.heap.size + 1, 2, none⟩ = some (.slice ts1 r.things.length tc1) ∧ wx.cell? ⟨w.heap.size + 1, 0, none⟩ = some (.int .i64 r.at_) ∧ wx.cell? ⟨w.heap.size, 1, none⟩ = some (.int .i64 f))) [11] (by kernel_rfl) (HKZ.out _ (Below.refl _ _).drew) (fun hHeld => ?_)
  refine tkZ 0 ?_ ?_ ?_
  rotate_left
  · exact rn
  (try simp only [Act.put, List.getElem_toArray, List.getElem_cons_zero, List.getElem_cons_succ, List.setIfInBounds_toArray, List.set_cons_zero, List.set_cons_succ])
  refine tkZ 1 ?_ ?_ ?_
  rotate_left
  · exact rn
  (try simp only [Act.put, List.getElem_toArray, List.getElem_cons_zero, List.getElem_cons_succ, List.setIfInBounds_toArray, List.set_cons_zero, List.set_cons_succ])
  refine tkZ 2 ?_ ?_ ?_
  rotate_left
  · exact rn
  (try simp only [Act.put, List.getElem_toArray, List.getElem_cons_zero, List.getElem_cons_succ, List.setIfInBounds_toArray, List.set_cons_zero, List.set_cons_succ])
  refine tkZ 3 ?_ ?_ ?_
  rotate_left
  · exact rn
  (try simp only [Act.put, List.getElem_toArray, List.getElem_cons_zero, List.getElem_cons_succ, List.setIfInBounds_toArray, List.set_cons_zero, List.set_cons_succ])
  refine tkZ 4 ?_ ?_ ?_
  rotate_left
  · exact rn
  (try simp only [Act.put, List.getElem_toArray, List.getElem_cons_zero, List.getElem_cons_succ, List.setIfInBounds_toArray, List.set_cons_zero, List.set_cons_succ])
  refine tkZ 5 ?_ ?_ ?_
  rotate_left
  · exact rn
  (try simp only [Act.put, List.getElem_toArray, List.getElem_cons_zero, List.getElem_cons_succ, List.setIfInBounds_toArray, List.set_cons_zero, List.set_cons_succ])
  refine wpAnyZ_one (i := 6) rfl (by kernel_rfl) (fun K hK => ?_)
  refine step_make_full rfl _ _ 42 rfl (w.heap.size + 1) 94 ti (.agg #[.int .i64 0, .int .i64 0]) 2 Tryd.underlying42 hi hz0 hz1 .i64 .i64 (f : Int) (f : Int) f rfl rfl rfl rfl (by rw [hz2]; have := hp.f3; omega) (by unfold maxLen; have := hp.f3; omega) (by simp; omega) ?_
  intro wm hownF hgF
  have HB1 : Below w2.heap.size w2 wm := Below.grown (Below.refl _ _).drew hgF (by simp) (fun k hk => by cases hk)
  rw [made_zero f (by have := hp.f3; omega)] at hownF
  have zm : w2.heap.size < wm.heap.size := by
    have := ownsRow_block_lt hownF (k := w2.heap.size) rfl
    exact this.1
  refine hK.out _ _ (HKZ.out _ HB1) (fun hHeld => ?_)
  clear hK K
  (try simp only [Act.put, List.getElem_toArray, List.getElem_cons_zero, List.getElem_cons_succ, List.setIfInBounds_toArray, List.set_cons_zero, List.set_cons_succ])
  refine tkZ 7 ?_ ?_ ?_
  rotate_left
  · exact rn
  (try simp only [Act.put, List.getElem_toArray, List.getElem_cons_zero, List.getElem_cons_succ, List.setIfInBounds_toArray, List.set_cons_zero, List.set_cons_succ])
  refine wpAnyZ_one (i := 8) rfl (by kernel_rfl) (fun K hK => ?_)
  go_simp
  have HB2 : Below w2.heap.size w2 (wm.alloc (.cells #[.int .i64 r.at_, .slice (some ⟨w2.heap.size, 0, none⟩) f f] 99)) := HB1.alloc HB1.size _
  refine hK.out _ _ (HKZ.out _ HB2) (fun hHeld => ?_)
  clear hK K
  (try simp only [Act.put, List.getElem_toArray, List.getElem_cons_zero, List.getElem_cons_succ, List.setIfInBounds_toArray, List.set_cons_zero, List.set_cons_succ])
  refine wpAnyZ_one (i := 9) rfl (by kernel_rfl) (fun K hK => ?_)
  have hba : Below wm.heap.size wm (wm.alloc (.cells #[.int .i64 r.at_, .slice (some ⟨w2.heap.size, 0, none⟩) f f] 99)) := by go_grown
  have SY := S.call HB2
  have hF2 : ValRow (wm.alloc (.cells #[.int .i64 r.at_, .slice (some ⟨w2.heap.size, 0, none⟩) f f] 99)) (w.heap.size + 1) (.slice (some ⟨w2.heap.size, 0, none⟩) f f) (List.replicate f ⟨0, 0⟩) := by
    unfold ValRow
    rw [List.length_replicate]
    exact ownsRow_of_block hownF (fun k hk => hba.block k (ownsRow_block_lt hownF hk).1)
  have hFa : ∀ k, (Value.slice (some ⟨w2.heap.size, 0, none⟩) f f).ownBlock = some k → some k ∉ ownBlocks (w.heap.size + 1) (.slice (some ⟨gb, 0, none⟩) r.vars.length vc1) (.slice ts1 r.things.length tc1) (.slice ls1 r.lines.length lc1) fv := fun k hk hmem => by
    cases hk
    exact Nat.lt_irrefl _ (S.own.lt hmem)
  refine step_append_lies _ rfl _ _ 43 rfl (w.heap.size + 1) 99 tj (.agg #[.int .i64 0, .slice none 0 0]) 2 32 Tryd.underlying43 hj hy0 hy1 hy2 rfl (by decide) _ _ _ rfl SY.own.things ⟨wm.heap.size, 0, none⟩ 1 1 [.int .i64 r.at_, .slice (some ⟨w2.heap.size, 0, none⟩) f f] rfl rfl (fun j u hj => World.news_of_block (heap_alloc_new _ _) j u hj) (by simp [Value.oneCell']) (by omega) (by unfold maxLen; have := HTL.out; omega) (by have := HTL.out; omega) (by have := HB2.size; omega) _ rfl ?_
  intro gl cl w3 hown hgrow hat hlt
  have HNM := hideK (show some (w.heap.size + 1) ≠ Value.ownBlock (.slice ts1 r.things.length tc1) from fun e => SY.own.parted.1 (w.heap.size + 1) (by rw [e]; simp) rfl)
  have HS3 : Hid (w3.cell? ⟨w.heap.size + 1, 2, none⟩ = some (.slice ts1 r.things.length tc1) ∧ w3.cell? ⟨w.heap.size + 1, 0, none⟩ = some (.int .i64 r.at_) ∧ w3.cell? ⟨w.heap.size, 1, none⟩ = some (.int .i64 f)) := hideK (by
    obtain ⟨s1, s2, s3⟩ := HKZ.out _ HB2
    refine ⟨?_, ?_, ?_⟩
    · rw [hgrow.cell_far _ (SY.own.lt (by simp [ownBlocks])) HNM.out]; exact s1
    · rw [hgrow.cell_far _ (SY.own.lt (by simp [ownBlocks])) HNM.out]; exact s2
    · rw [hgrow.cell_far _ SY.prg.2 (fun e => by have := (ownsRow_block_lt SY.own.things (k := w.heap.size) e.symm).2; omega)]; exact s3)
  refine hK.out _ _ HS3.out (fun hHeld => ?_)
  clear hK K
  (try simp only [Act.put, List.getElem_toArray, List.getElem_cons_zero, List.getElem_cons_succ, List.setIfInBounds_toArray, List.set_cons_zero, List.set_cons_succ])
  refine tkZ 10 ?_ ?_ ?_
  rotate_left
  · exact rn
  (try simp only [Act.put, List.getElem_toArray, List.getElem_cons_zero, List.getElem_cons_succ, List.setIfInBounds_toArray, List.set_cons_zero, List.set_cons_succ])
  refine wpAnyZ_last (i := 11) rfl (by kernel_rfl) (by kernel_rfl) (fun K hK => ?_)
  have c4 : w3.cell? ⟨w.heap.size + 1, 2, none⟩ = some (.slice ts1 r.things.length tc1) := HS3.out.1
  have d4 : w3.frozen? ⟨w.heap.size + 1, 2, none⟩ = false := by rw [hgrow.frozen_far ⟨w.heap.size + 1, 2, none⟩ (SY.own.lt (by simp [ownBlocks])) HNM.out]; exact SY.own.thaw 2
  go_simp
  refine hK.out _ _ ?_
  clear hK K c4 d4
  (try simp only [Act.put, List.getElem_toArray, List.getElem_cons_zero, List.getElem_cons_succ, List.setIfInBounds_toArray, List.set_cons_zero, List.set_cons_succ])
  refine wpAnyZ_done (by kernel_rfl) ?_ _
  have hat2 : Value.ownBlock (.slice ts1 r.things.length tc1) = some gl ∨ (wm.alloc (.cells #[.int .i64 r.at_, .slice (some ⟨w2.heap.size, 0, none⟩) f f] 99)).heap.size ≤ gl := hat.imp id (fun e => by rw [e]; exact Nat.le_refl _)
  have O8 : OwnRun (w3.setCell ⟨w.heap.size + 1, 2, none⟩ (.slice (some ⟨gl, 0, none⟩) (r.things.length + 1) cl)) (w.heap.size + 1) (w.heap.size + 1) ({ r with things := r.things ++ [⟨r.at_, List.replicate f ⟨0, 0⟩⟩] } : St) (.slice (some ⟨gb, 0, none⟩) r.vars.length vc1) (.slice (some ⟨gl, 0, none⟩) (r.things.length + 1) cl) (.slice ls1 r.lines.length lc1) (fv ++ [.slice (some ⟨w2.heap.size, 0, none⟩) f f]) := SY.own.grow_things hF2 hFa hown hgrow hat2
  have FR := frame_grow (bs := ownBlocks (w.heap.size + 1) (.slice (some ⟨gb, 0, none⟩) r.vars.length vc1) (.slice ts1 r.things.length tc1) (.slice ls1 r.lines.length lc1) fv) hgrow (fun k hk => mem_tv (Eq.symm hk)) (m := w.heap.size + 1) (by simp [ownBlocks]) 2 (.slice (some ⟨gl, 0, none⟩) (r.things.length + 1) cl)
  have low8 : Below w.heap.size w (w3.setCell ⟨w.heap.size + 1, 2, none⟩ (.slice (some ⟨gl, 0, none⟩) (r.things.length + 1) cl)) := (Below.grown SY.low hgrow (by have := HB2.size; omega) (fun k hk => by have := (ownsRow_block_lt SY.own.things hk).2; omega)).setCell (by simp only; omega) _
  have hsz : (wm.alloc (.cells #[.int .i64 r.at_, .slice (some ⟨w2.heap.size, 0, none⟩) f f] 99)).heap.size ≤ (w3.setCell ⟨w.heap.size + 1, 2, none⟩ (.slice (some ⟨gl, 0, none⟩) (r.things.length + 1) cl)).heap.size := by have := hgrow.size; simpa [World.setCell] using this
  have res8 := SY.res.own FR hsz SY.nres
  have ins8 := SY.ins.own FR hsz (fun hm => Nat.lt_irrefl _ (SY.lt _ hm))
  have nlt : ∀ k, w5.heap.size ≤ k → some k ∉ ownBlocks (w.heap.size + 1) (.slice (some ⟨gb, 0, none⟩) r.vars.length vc1) (.slice ts1 r.things.length tc1) (.slice ls1 r.lines.length lc1) fv := fun k hk hm => by have := SY.lt k hm; omega
  have V8 := (V9.call HB2).same (FR wc.heap.size (by have := HB2.size; have := V9.2.1; omega) (nlt _ (by omega))) hsz
  have nres8 : some (w.heap.size + 1 + 1) ∉ ownBlocks (w.heap.size + 1) (.slice (some ⟨gb, 0, none⟩) r.vars.length vc1) (.slice (some ⟨gl, 0, none⟩) (r.things.length + 1) cl) (.slice ls1 r.lines.length lc1) (fv ++ [.slice (some ⟨w2.heap.size, 0, none⟩) f f]) := nres_things SY.nres (fun e => by
    rcases hat2 with h | h
    · exact SY.nres (mem_tv (by rw [h, e]))
    · have := SY.res.2.1; omega) (fun e => by have := S.res.2.1; omega)
  clear SY FR hsz hat hat2 hown hgrow hlt HS3 HNM HB2 HB1 HKZ S V9 hF2 hFa hba zm hownF hgF hN2
  generalize (w3.setCell ⟨w.heap.size + 1, 2, none⟩ (.slice (some ⟨gl, 0, none⟩) (r.things.length + 1) cl)) = wd at *
  have V9 := V8
  obtain ⟨gb2, gc2, eg2, -, hgl2, hcell2, hfz2⟩ := O8.form (show 0 < r.vars.length by have := hk.vars; have := hp.v1; omega)
  cases eg2
  have kt0 : wd.cell? ⟨gb, t * 2, none⟩ = some (.int .i64 r.vars[t].k) := (hcell2 t ht).1
  have kt1 : wd.cell? ⟨gb, t * 2 + 1, none⟩ = some (.int .i64 r.vars[t].n) := (hcell2 t ht).2
  have ft0 : wd.frozen? ⟨gb, t * 2, none⟩ = false := hfz2 _
  have ft1 : wd.frozen? ⟨gb, t * 2 + 1, none⟩ = false := hfz2 _
  clear hcell2 hfz2
  have nnt0 : (0 : Int) ≤ (t : Int) := by omega
  have nnt1 : (t : Int) < (r.vars.length : Int) := by omega
  obtain ⟨⟨j0, j1, j2, j3, j4, j5⟩, jz, -⟩ := id ins8
  (try simp only at j0 j1 j2 j3 j4 j5)
  have m1 := O8.vars_
  obtain ⟨⟨v0, v1⟩, vz, -⟩ := id V9
  (try simp only at v0 v1)
  have hgv : gb ≠ wc.heap.size := by omega
  go_upto_region 63 with (first | (go_at_call 36; refine (between_any _ _ _ _).mono ?_; rintro e w' ⟨rfl, hw'⟩; rw [hw', show btw 11 5 8 = false from rfl]; clear hw' w') | (go_at_call 51; refine (namesA_any _ _).mono ?_; rintro e w' ⟨rfl, hw'⟩; rw [hw', show nA 11 = false from rfl]; clear hw' w') | (go_at_call 52; refine (namesB_any _ _).mono ?_; rintro e w' ⟨rfl, hw'⟩; rw [hw', show nB 11 = false from rfl]; clear hw' w') | (go_at_call 57; refine (namesTo_any _ _).mono ?_; rintro e w' ⟨rfl, hw'⟩; rw [hw', show nTo 11 = true from rfl]; clear hw' w'))
  have O9 : OwnRun ((wd.setCell ⟨gb, t * 2, none⟩ (.int .i64 (⟨3, (r.things.length : Int)⟩ : Val).k)).setCell ⟨gb, t * 2 + 1, none⟩ (.int .i64 (⟨3, (r.things.length : Int)⟩ : Val).n)) (w.heap.size + 1) (w.heap.size + 1) ({ r with vars := r.vars.set t (⟨3, (r.things.length : Int)⟩ : Val), things := r.things ++ [⟨r.at_, List.replicate f ⟨0, 0⟩⟩] } : St) (.slice (some ⟨gb, 0, none⟩) r.vars.length vc1) (.slice (some ⟨gl, 0, none⟩) (r.things.length + 1) cl) (.slice ls1 r.lines.length lc1) (fv ++ [.slice (some ⟨w2.heap.size, 0, none⟩) f f]) := O8.put t ht (⟨3, (r.things.length : Int)⟩ : Val)
  have FR := frame_put (bs := ownBlocks (w.heap.size + 1) (.slice (some ⟨gb, 0, none⟩) r.vars.length vc1) (.slice (some ⟨gl, 0, none⟩) (r.things.length + 1) cl) (.slice ls1 r.lines.length lc1) (fv ++ [.slice (some ⟨w2.heap.size, 0, none⟩) f f])) (Below.refl wd.heap.size wd) (g := gb) (by simp only [ownBlocks, List.mem_cons]; right; left; rfl) (t * 2) (t * 2 + 1) (.int .i64 (⟨3, (r.things.length : Int)⟩ : Val).k) (.int .i64 (⟨3, (r.things.length : Int)⟩ : Val).n)
  have hsz : wd.heap.size ≤ ((wd.setCell ⟨gb, t * 2, none⟩ (.int .i64 (⟨3, (r.things.length : Int)⟩ : Val).k)).setCell ⟨gb, t * 2 + 1, none⟩ (.int .i64 (⟨3, (r.things.length : Int)⟩ : Val).n)).heap.size := by simp [World.setCell]
  have res9 := res8.own FR hsz nres8
  have ins9 := ins8.same (b := w5.heap.size) (heap_set2 wd gb (t * 2) (t * 2 + 1) (.int .i64 (⟨3, (r.things.length : Int)⟩ : Val).k) (.int .i64 (⟨3, (r.things.length : Int)⟩ : Val).n) w5.heap.size (by omega)) hsz
  have low9 : Below w.heap.size w ((wd.setCell ⟨gb, t * 2, none⟩ (.int .i64 (⟨3, (r.things.length : Int)⟩ : Val).k)).setCell ⟨gb, t * 2 + 1, none⟩ (.int .i64 (⟨3, (r.things.length : Int)⟩ : Val).n)) := (low8.setCell (by simp only; omega) _).setCell (by simp only; omega) _
  have nres9 := nres8
  (try simp only at O9)
  (try simp only at res9)
  (try simp only at ins9)
  (try simp only at low9)
  clear j0 j1 j2 j3 j4 j5 jz m1 v0 v1 vz kt0 kt1 ft0 ft1 V8 V9 FR hsz O8 res8 ins8 low8 nres8
  generalize ((wd.setCell ⟨gb, t * 2, none⟩ (.int .i64 3)).setCell ⟨gb, t * 2 + 1, none⟩ (.int .i64 (r.things.length : Int))) = we at *
  obtain ⟨⟨j0, j1, j2, j3, j4, j5⟩, jz, -⟩ := id ins9
  (try simp only at j0 j1 j2 j3 j4 j5)
  have m0 := O9.at_
  (try simp only at m0)
  have mf0 := O9.thaw 0
  go_upto_region 66 with (first | (go_at_call 36; refine (between_any _ _ _ _).mono ?_; rintro e w' ⟨rfl, hw'⟩; rw [hw', show btw 11 5 8 = false from rfl]; clear hw' w') | (go_at_call 51; refine (namesA_any _ _).mono ?_; rintro e w' ⟨rfl, hw'⟩; rw [hw', show nA 11 = false from rfl]; clear hw' w') | (go_at_call 52; refine (namesB_any _ _).mono ?_; rintro e w' ⟨rfl, hw'⟩; rw [hw', show nB 11 = false from rfl]; clear hw' w') | (go_at_call 57; refine (namesTo_any _ _).mono ?_; rintro e w' ⟨rfl, hw'⟩; rw [hw', show nTo 11 = true from rfl]; clear hw' w'))
  have O10 := O9.withAt (r.at_ + 1)
  have res10 := res9.far (a := ⟨w.heap.size + 1, 0, none⟩) (by simp) (.int .i64 (r.at_ + 1))
  have low10 : Below w.heap.size w (we.setCell ⟨w.heap.size + 1, 0, none⟩ (.int .i64 (r.at_ + 1))) := low9.setCell (by simp only; omega) _
  clear m0 mf0 O9 res9 low9
  generalize (we.setCell ⟨w.heap.size + 1, 0, none⟩ (.int .i64 (r.at_ + 1))) = wf at *
  obtain ⟨⟨m0, m1, m2, m3, m4, m5⟩, mz, -⟩ := id O10.r6
  (try simp only at m0)
  (try simp only at m1)
  (try simp only at m2)
  (try simp only at m3)
  (try simp only at m4)
  (try simp only at m5)
  obtain ⟨⟨z0, z1, z2, z3, z4, z5⟩, zz, zf⟩ := id res10
  have g0 := zf 0
  have g1 := zf 1
  have g2 := zf 2
  have g3 := zf 3
  have g4 := zf 4
  have g5 := zf 5
  have HBK := hideK (own_back O10 nres9 low10)
  clear zf O10 res10 low10 nres9
  rename_i K0 hK0
  refine wp_region_lit ?_
  refine wpList_plain rfl (fun K2 hK2 => ?_)
  go_simp
  refine hK2 _ _ ?_
  clear hK2 K2
  (try simp only [Act.put, List.getElem_toArray, List.getElem_cons_zero, List.getElem_cons_succ, List.setIfInBounds_toArray, List.set_cons_zero, List.set_cons_succ])
  refine wpList_plain rfl (fun K2 hK2 => ?_)
  go_simp
  refine hK2 _ _ ?_
  clear hK2 K2
  refine hK0 _ _ ?_
  refine wp_ret ?_
  (try simp only [Exit.then])
  refine bodyPost_ret (v := .agg #[.int .i64 (r.at_ + 1), .slice (some ⟨gb, 0, none⟩) r.vars.length vc1, .slice (some ⟨gl, 0, none⟩) (r.things.length + 1) cl, .int .i64 (r.taken), .slice ls1 r.lines.length lc1, .int .i64 (r.fin)]) (by simp [results, Tryd.results23, go_sem, z0, z1, z2, z3, z4, z5]) rfl ?_
  have HQ : stepSt f c ins r = { ({ r with vars := r.vars.set t (⟨3, (r.things.length : Int)⟩ : Val), things := r.things ++ [⟨r.at_, List.replicate f ⟨0, 0⟩⟩] } : St) with at_ := r.at_ + 1 } := by
    have e0 : endI r ⟨11, t, a, b, n, g⟩ = 0 := by
      unfold endI
      (try rw [ea])
      (try rw [eb])
      rw [end_11, if_neg (by have := HTL.out; omega)]
    have en : nextAt r ⟨11, t, a, b, n, g⟩ (aOf r ⟨11, t, a, b, n, g⟩) = r.at_ + 1 := by unfold nextAt; rw [if_neg (by simp)]
    rw [HST.out, e0, if_neg (by simp), en]
    rw [eff_11, Int.toNat_natCast, Int.toNat_natCast]
  rw [HQ]
  exact ⟨_, _, _, _, rfl, HBK.out.1, HBK.out.2⟩
end Go.Proofs.YtmapdpcfanecdaaDoor
