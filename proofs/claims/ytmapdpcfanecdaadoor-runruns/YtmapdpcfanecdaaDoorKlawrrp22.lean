/- Walks over package run: what the machine does, kind by kind. -/
import Derived.Test.YtmapdpcfanecdaaDoorKlawrrp09
import Derived.Test.YtmapdpcfanecdaaDoorKlawrrp11
namespace Go.Proofs.YtmapdpcfanecdaaDoor
set_option linter.unusedVariables false
set_option linter.unusedSimpArgs false
open Go.RowKit
attribute [local go_sem ↓] Go.wp_at_zero Go.wp_at_succ

set_option maxHeartbeats 4000000 in
set_option maxRecDepth 20000 in
theorem field_wrong (m B x : Nat) (s : St) (vv tv lv : Value) (fv : List Value) (k t b n g : Int) (w : World) (h : OwnRun w B m s vv tv lv fv) (hB : B ≤ w.heap.size) (hx : x < s.vars.length) (hv : s.vars[x].k ≠ 3) :
    Calls Tryd.prog 100 #[.pointer (some ⟨m, 0, none⟩), .agg #[.int .i64 k, .int .i64 t, .int .i64 x, .int .i64 b, .int .i64 n, .int .i64 g]] w fun e w' => e = .returned (.int .i64 2) ∧ MStep w w' B m (ownBlocks m vv tv lv fv) s := by
  have hm : m < w.heap.size := h.lt (by simp [ownBlocks])
  have z1 : m < w.heap.size + 1 := by omega
  obtain ⟨gb, cap, rfl, hg1, hg2, hcell, hfz⟩ := h.form (by omega)
  have am : m ≠ gb := h.vars_apart rfl m (by simp)
  have q1 := h.vars_
  have z2 : gb < w.heap.size + 1 := by omega
  obtain ⟨kx0, kx1⟩ := hcell x hx
  have nx0 : (0 : Int) ≤ (x : Int) := by omega
  have nx1 : (x : Int) < (s.vars.length : Int) := by omega
  have K1 : ∀ wx, Below (w.heap.size + 1) (w.alloc (.cells #[.int .i64 k, .int .i64 t, .int .i64 x, .int .i64 b, .int .i64 n, .int .i64 g] 71)) wx → wx.cell? ⟨m, 1, none⟩ = some (.slice (some ⟨gb, 0, none⟩) s.vars.length cap) ∧ wx.cell? ⟨w.heap.size, 2, none⟩ = some (.int .i64 x) ∧ wx.cell? ⟨gb, x * 2, none⟩ = some (.int .i64 s.vars[x].k) ∧ wx.cell? ⟨gb, x * 2 + 1, none⟩ = some (.int .i64 s.vars[x].n) := by
    intro wx hb
    rw [hb.cell (by simpa using z1), hb.cell (by simp), hb.cell (by simpa using z2), hb.cell (by simpa using z2)]
    simp [go_sem, hm, q1, hg2, kx0, kx1]
  clear hcell hfz
  go_enter Tryd.func100, Tryd.ntmps100
  go_wp2
  have HB0 : Below (w.heap.size + 1) (w.alloc (.cells #[.int .i64 k, .int .i64 t, .int .i64 x, .int .i64 b, .int .i64 n, .int .i64 g] 71)) (w.alloc (.cells #[.int .i64 k, .int .i64 t, .int .i64 x, .int .i64 b, .int .i64 n, .int .i64 g] 71)).drew := (Below.refl _ _).drew
  have hz0 : (w.alloc (.cells #[.int .i64 k, .int .i64 t, .int .i64 x, .int .i64 b, .int .i64 n, .int .i64 g] 71)).drew.heap.size = w.heap.size + 1 := by simp
  refine wp_region_z (S := (fun wx => wx.cell? ⟨m, 1, none⟩ = some (.slice (some ⟨gb, 0, none⟩) s.vars.length cap) ∧ wx.cell? ⟨w.heap.size, 2, none⟩ = some (.int .i64 x) ∧ wx.cell? ⟨gb, x * 2, none⟩ = some (.int .i64 s.vars[x].k) ∧ wx.cell? ⟨gb, x * 2 + 1, none⟩ = some (.int .i64 s.vars[x].n))) [] (by kernel_rfl) (K1 _ (Below.refl _ _).drew) (fun hHeld => ?_)
  refine tkZ 0 ?_ ?_ ?_
  rotate_left
  · exact rn
  (try simp only [stp, List.set])
  refine tkZ 1 ?_ ?_ ?_
  rotate_left
  · exact rn
  (try simp only [stp, List.set])
  refine tkZ 2 ?_ ?_ ?_
  rotate_left
  · exact rn
  (try simp only [stp, List.set])
  refine tkZ 3 ?_ ?_ ?_
  rotate_left
  · exact rn
  (try simp only [stp, List.set])
  refine tkZ 4 ?_ ?_ ?_
  rotate_left
  · exact rn
  (try simp only [stp, List.set])
  refine tkZ 5 ?_ ?_ ?_
  rotate_left
  · exact rn
  (try simp only [stp, List.set])
  refine tkZ 6 ?_ ?_ ?_
  rotate_left
  · exact rn
  (try simp only [stp, List.set])
  refine tkZ 7 ?_ ?_ ?_
  rotate_left
  · exact rn
  (try simp only [stp, List.set])
  refine tkZ 8 ?_ ?_ ?_
  rotate_left
  · exact rn
  (try simp only [stp, List.set])
  refine wpAnyZ_one (i := 9) rfl (by kernel_rfl) (fun K hK => ?_)
  generalize (w.alloc (.cells #[.int .i64 k, .int .i64 t, .int .i64 x, .int .i64 b, .int .i64 n, .int .i64 g] 71)).drew = wq at *
  go_simp
  have HB1 : Below (w.heap.size + 1) (w.alloc (.cells #[.int .i64 k, .int .i64 t, .int .i64 x, .int .i64 b, .int .i64 n, .int .i64 g] 71)) (wq.alloc (.cells #[.int .i64 0, .int .i64 0] 94)) := HB0.alloc (by have := HB0.size; simpa using this) _
  have V1 := VAt.new wq ⟨0, 0⟩
  rw [hz0] at V1
  refine hK.out _ _ (K1 _ HB1) (fun hHeld => ?_)
  clear hK K
  (try simp only [stp, List.set])
  (try rw [hz0])
  simp only at V1
  generalize wq.alloc (.cells #[.int .i64 0, .int .i64 0] 94) = wa at *
  refine wpAnyZ_one (i := 10) rfl (by kernel_rfl) (fun K hK => ?_)
  obtain ⟨⟨a0, a1⟩, az, af⟩ := id V1
  have af0 := af 0
  have af1 := af 1
  go_simp
  have HB3 : Below (w.heap.size + 1) (w.alloc (.cells #[.int .i64 k, .int .i64 t, .int .i64 x, .int .i64 b, .int .i64 n, .int .i64 g] 71)) ((wa.setCell ⟨w.heap.size + 1, 0, none⟩ (.int .i64 s.vars[x].k)).setCell ⟨w.heap.size + 1, 1, none⟩ (.int .i64 s.vars[x].n)) := (HB1.setCell (by simp) _).setCell (by simp) _
  have VA := V1.put s.vars[x]
  refine hK.out _ _ (K1 _ HB3) (fun hHeld => ?_)
  clear hK K a0 a1 az af af0 af1 V1
  (try simp only [stp, List.set])
  generalize (wa.setCell ⟨w.heap.size + 1, 0, none⟩ (.int .i64 s.vars[x].k)).setCell ⟨w.heap.size + 1, 1, none⟩ (.int .i64 s.vars[x].n) = wd at *
  refine wpAnyZ_done (by kernel_rfl) ?_ _
  have hzd : w.heap.size + 1 ≤ wd.heap.size := by have := HB3.size; simpa using this
  have va0 := VA.1.1
  have va1 := VA.1.2
  have HW : Below w.heap.size w wd := Below.trans (by go_grown) (HB3.mono (Nat.le_succ _))
  clear hHeld
  have a1' : (s.vars[x].k != 3) = true := by simpa using hv
  have HX := hideK (And.intro (h.below HW) HW)
  clear h
  go_wp2
  go_ret
  exact ⟨rfl, ⟨_, _, _, _, HX.out.1⟩, HX.out.2.mono hB, fun j _ => HX.out.2.cell hm, frame_same HX.out.2⟩

set_option maxHeartbeats 4000000 in
set_option maxRecDepth 20000 in
theorem field_get (m B x q f t : Nat) (s : St) (vv tv lv : Value) (fv : List Value) (b g : Int) (w : World) (h : OwnRun w B m s vv tv lv fv) (hB : B ≤ w.heap.size) (hx : x < s.vars.length) (hv : s.vars[x] = ⟨3, (q : Int)⟩) (hq : q < s.things.length) (hf : f < s.things[q].fs.length) (ht : t < s.vars.length) :
    Calls Tryd.prog 100 #[.pointer (some ⟨m, 0, none⟩), .agg #[.int .i64 12, .int .i64 t, .int .i64 x, .int .i64 b, .int .i64 f, .int .i64 g]] w fun e w' => e = .returned (.int .i64 0) ∧ MStep w w' B m (ownBlocks m vv tv lv fv) { s with vars := s.vars.set t s.things[q].fs[f] } := by
  have hm : m < w.heap.size := h.lt (by simp [ownBlocks])
  have z1 : m < w.heap.size + 1 := by omega
  obtain ⟨gb, cap, rfl, hg1, hg2, hcell, hfz⟩ := h.form (by omega)
  have am : m ≠ gb := h.vars_apart rfl m (by simp)
  have q1 := h.vars_
  have z2 : gb < w.heap.size + 1 := by omega
  obtain ⟨kx0, kx1⟩ := hcell x hx
  have nx0 : (0 : Int) ≤ (x : Int) := by omega
  have nx1 : (x : Int) < (s.vars.length : Int) := by omega
  obtain ⟨gt, tc, etv, hgt, th0, th1, hgtB⟩ := h.thing hq
  obtain ⟨gf, fc, efv, hgf, fd0, fd1, ffz, hgfB⟩ := h.field hq hf
  rw [efv] at th1
  have q2 := h.things_
  rw [etv] at q2
  have nq0 : (0 : Int) ≤ (q : Int) := by omega
  have nq1 : (q : Int) < (s.things.length : Int) := by omega
  have nf0 : (0 : Int) ≤ (f : Int) := by omega
  have nf1 : (f : Int) < (s.things[q].fs.length : Int) := by omega
  have HV := hideK hv
  clear hv
  obtain ⟨kt0, kt1⟩ := hcell t ht
  have nt0 : (0 : Int) ≤ (t : Int) := by omega
  have nt1 : (t : Int) < (s.vars.length : Int) := by omega
  have f0 := hfz (t * 2)
  have f1 := hfz (t * 2 + 1)
  have K1 : ∀ wx, Below (w.heap.size + 1) (w.alloc (.cells #[.int .i64 12, .int .i64 t, .int .i64 x, .int .i64 b, .int .i64 f, .int .i64 g] 71)) wx → wx.cell? ⟨m, 1, none⟩ = some (.slice (some ⟨gb, 0, none⟩) s.vars.length cap) ∧ wx.cell? ⟨w.heap.size, 2, none⟩ = some (.int .i64 x) ∧ wx.cell? ⟨gb, x * 2, none⟩ = some (.int .i64 s.vars[x].k) ∧ wx.cell? ⟨gb, x * 2 + 1, none⟩ = some (.int .i64 s.vars[x].n) := by
    intro wx hb
    rw [hb.cell (by simpa using z1), hb.cell (by simp), hb.cell (by simpa using z2), hb.cell (by simpa using z2)]
    simp [go_sem, hm, q1, hg2, kx0, kx1]
  clear hcell hfz
  go_enter Tryd.func100, Tryd.ntmps100
  go_wp2
  have HB0 : Below (w.heap.size + 1) (w.alloc (.cells #[.int .i64 12, .int .i64 t, .int .i64 x, .int .i64 b, .int .i64 f, .int .i64 g] 71)) (w.alloc (.cells #[.int .i64 12, .int .i64 t, .int .i64 x, .int .i64 b, .int .i64 f, .int .i64 g] 71)).drew := (Below.refl _ _).drew
  have hz0 : (w.alloc (.cells #[.int .i64 12, .int .i64 t, .int .i64 x, .int .i64 b, .int .i64 f, .int .i64 g] 71)).drew.heap.size = w.heap.size + 1 := by simp
  refine wp_region_z (S := (fun wx => wx.cell? ⟨m, 1, none⟩ = some (.slice (some ⟨gb, 0, none⟩) s.vars.length cap) ∧ wx.cell? ⟨w.heap.size, 2, none⟩ = some (.int .i64 x) ∧ wx.cell? ⟨gb, x * 2, none⟩ = some (.int .i64 s.vars[x].k) ∧ wx.cell? ⟨gb, x * 2 + 1, none⟩ = some (.int .i64 s.vars[x].n))) [] (by kernel_rfl) (K1 _ (Below.refl _ _).drew) (fun hHeld => ?_)
  refine tkZ 0 ?_ ?_ ?_
  rotate_left
  · exact rn
  (try simp only [stp, List.set])
  refine tkZ 1 ?_ ?_ ?_
  rotate_left
  · exact rn
  (try simp only [stp, List.set])
  refine tkZ 2 ?_ ?_ ?_
  rotate_left
  · exact rn
  (try simp only [stp, List.set])
  refine tkZ 3 ?_ ?_ ?_
  rotate_left
  · exact rn
  (try simp only [stp, List.set])
  refine tkZ 4 ?_ ?_ ?_
  rotate_left
  · exact rn
  (try simp only [stp, List.set])
  refine tkZ 5 ?_ ?_ ?_
  rotate_left
  · exact rn
  (try simp only [stp, List.set])
  refine tkZ 6 ?_ ?_ ?_
  rotate_left
  · exact rn
  (try simp only [stp, List.set])
  refine tkZ 7 ?_ ?_ ?_
  rotate_left
  · exact rn
  (try simp only [stp, List.set])
  refine tkZ 8 ?_ ?_ ?_
  rotate_left
  · exact rn
  (try simp only [stp, List.set])
  refine wpAnyZ_one (i := 9) rfl (by kernel_rfl) (fun K hK => ?_)
  generalize (w.alloc (.cells #[.int .i64 12, .int .i64 t, .int .i64 x, .int .i64 b, .int .i64 f, .int .i64 g] 71)).drew = wq at *
  go_simp
  have HB1 : Below (w.heap.size + 1) (w.alloc (.cells #[.int .i64 12, .int .i64 t, .int .i64 x, .int .i64 b, .int .i64 f, .int .i64 g] 71)) (wq.alloc (.cells #[.int .i64 0, .int .i64 0] 94)) := HB0.alloc (by have := HB0.size; simpa using this) _
  have V1 := VAt.new wq ⟨0, 0⟩
  rw [hz0] at V1
  refine hK.out _ _ (K1 _ HB1) (fun hHeld => ?_)
  clear hK K
  (try simp only [stp, List.set])
  (try rw [hz0])
  simp only at V1
  generalize wq.alloc (.cells #[.int .i64 0, .int .i64 0] 94) = wa at *
  refine wpAnyZ_one (i := 10) rfl (by kernel_rfl) (fun K hK => ?_)
  obtain ⟨⟨a0, a1⟩, az, af⟩ := id V1
  have af0 := af 0
  have af1 := af 1
  go_simp
  have HB3 : Below (w.heap.size + 1) (w.alloc (.cells #[.int .i64 12, .int .i64 t, .int .i64 x, .int .i64 b, .int .i64 f, .int .i64 g] 71)) ((wa.setCell ⟨w.heap.size + 1, 0, none⟩ (.int .i64 s.vars[x].k)).setCell ⟨w.heap.size + 1, 1, none⟩ (.int .i64 s.vars[x].n)) := (HB1.setCell (by simp) _).setCell (by simp) _
  have VA := V1.put s.vars[x]
  refine hK.out _ _ (K1 _ HB3) (fun hHeld => ?_)
  clear hK K a0 a1 az af af0 af1 V1
  (try simp only [stp, List.set])
  generalize (wa.setCell ⟨w.heap.size + 1, 0, none⟩ (.int .i64 s.vars[x].k)).setCell ⟨w.heap.size + 1, 1, none⟩ (.int .i64 s.vars[x].n) = wd at *
  refine wpAnyZ_done (by kernel_rfl) ?_ _
  have hzd : w.heap.size + 1 ≤ wd.heap.size := by have := HB3.size; simpa using this
  have va0 := VA.1.1
  have va1 := VA.1.2
  have HW : Below w.heap.size w wd := Below.trans (by go_grown) (HB3.mono (Nat.le_succ _))
  clear hHeld
  rw [HV.out] at va0 va1
  simp only at va0 va1
  have c4 : wd.cell? ⟨w.heap.size, 4, none⟩ = some (.int .i64 f) := by rw [HB3.cell (by simp)]; simp [go_sem]
  have c0 : wd.cell? ⟨w.heap.size, 0, none⟩ = some (.int .i64 12) := by rw [HB3.cell (by simp)]; simp [go_sem]
  have KZ : ∀ wx, Below wd.heap.size wd wx → wx.cell? ⟨m, 2, none⟩ = some (.slice (some ⟨gt, 0, none⟩) s.things.length tc) ∧ wx.cell? ⟨w.heap.size + 1, 1, none⟩ = some (.int .i64 q) ∧ wx.cell? ⟨gt, q * 2 + 1, none⟩ = some (.slice (some ⟨gf, 0, none⟩) s.things[q].fs.length fc) ∧ wx.cell? ⟨w.heap.size, 4, none⟩ = some (.int .i64 f) := fun wx hx => ⟨by rw [hx.cell (by simp; omega), HW.cell (by simpa using hm)]; exact q2, by rw [hx.cell (by simpa using VA.2.1)]; exact va1, by rw [hx.cell (by simp; omega), HW.cell (by simpa using hgt)]; exact th1, by rw [hx.cell (by simp; omega)]; exact c4⟩
  go_wp2
  refine wp_region_z (S := (fun wx => wx.cell? ⟨m, 2, none⟩ = some (.slice (some ⟨gt, 0, none⟩) s.things.length tc) ∧ wx.cell? ⟨w.heap.size + 1, 1, none⟩ = some (.int .i64 q) ∧ wx.cell? ⟨gt, q * 2 + 1, none⟩ = some (.slice (some ⟨gf, 0, none⟩) s.things[q].fs.length fc) ∧ wx.cell? ⟨w.heap.size, 4, none⟩ = some (.int .i64 f))) [] (by kernel_rfl) (KZ _ (Below.refl _ _).drew) (fun hHeld => ?_)
  refine tkZ 0 ?_ ?_ ?_
  rotate_left
  · exact rn
  (try simp only [stp, List.set])
  refine tkZ 1 ?_ ?_ ?_
  rotate_left
  · exact rn
  (try simp only [stp, List.set])
  refine tkZ 2 ?_ ?_ ?_
  rotate_left
  · exact rn
  (try simp only [stp, List.set])
  refine tkZ 3 ?_ ?_ ?_
  rotate_left
  · exact rn
  (try simp only [stp, List.set])
  refine tkZ 4 ?_ ?_ ?_
  rotate_left
  · exact rn
  (try simp only [stp, List.set])
  refine tkZ 5 ?_ ?_ ?_
  rotate_left
  · exact rn
  (try simp only [stp, List.set])
  refine tkZ 6 ?_ ?_ ?_
  rotate_left
  · exact rn
  (try simp only [stp, List.set])
  refine tkZ 7 ?_ ?_ ?_
  rotate_left
  · exact rn
  (try simp only [stp, List.set])
  refine tkZ 8 ?_ ?_ ?_
  rotate_left
  · exact rn
  (try simp only [stp, List.set])
  refine tkZ 9 ?_ ?_ ?_
  rotate_left
  · exact rn
  (try simp only [stp, List.set])
  refine tkZ 10 ?_ ?_ ?_
  rotate_left
  · exact rn
  (try simp only [stp, List.set])
  refine tkZ 11 ?_ ?_ ?_
  rotate_left
  · exact rn
  (try simp only [stp, List.set])
  refine tkZ 12 ?_ ?_ ?_
  rotate_left
  · exact rn
  (try simp only [stp, List.set])
  refine tkZ 13 ?_ ?_ ?_
  rotate_left
  · exact rn
  (try simp only [stp, List.set])
  refine wpAnyZ_done (by kernel_rfl) ?_ _
  have c1 : wd.cell? ⟨w.heap.size, 1, none⟩ = some (.int .i64 t) := by rw [HB3.cell (by simp)]; simp [go_sem]
  have KY : ∀ wx, Below wd.heap.size wd wx → wx.cell? ⟨m, 1, none⟩ = some (.slice (some ⟨gb, 0, none⟩) s.vars.length cap) ∧ wx.cell? ⟨w.heap.size, 1, none⟩ = some (.int .i64 t) ∧ wx.cell? ⟨gf, f * 2, none⟩ = some (.int .i64 s.things[q].fs[f].k) ∧ wx.cell? ⟨gf, f * 2 + 1, none⟩ = some (.int .i64 s.things[q].fs[f].n) := fun wx hx => ⟨by rw [hx.cell (by simp; omega), HW.cell (by simpa using hm)]; exact q1, by rw [hx.cell (by simp; omega)]; exact c1, by rw [hx.cell (by simp; omega), HW.cell (by simpa using hgf)]; exact fd0, by rw [hx.cell (by simp; omega), HW.cell (by simpa using hgf)]; exact fd1⟩
  go_wp2
  refine wp_region_z (S := (fun wx => wx.cell? ⟨m, 1, none⟩ = some (.slice (some ⟨gb, 0, none⟩) s.vars.length cap) ∧ wx.cell? ⟨w.heap.size, 1, none⟩ = some (.int .i64 t) ∧ wx.cell? ⟨gf, f * 2, none⟩ = some (.int .i64 s.things[q].fs[f].k) ∧ wx.cell? ⟨gf, f * 2 + 1, none⟩ = some (.int .i64 s.things[q].fs[f].n))) [11] (by kernel_rfl) (KY _ ((Below.refl _ _).drew.drew)) (fun hHeld => ?_)
  refine tkZ 0 ?_ ?_ ?_
  rotate_left
  · exact rn
  (try simp only [stp, List.set])
  refine tkZ 1 ?_ ?_ ?_
  rotate_left
  · exact rn
  (try simp only [stp, List.set])
  refine tkZ 2 ?_ ?_ ?_
  rotate_left
  · exact rn
  (try simp only [stp, List.set])
  refine tkZ 3 ?_ ?_ ?_
  rotate_left
  · exact rn
  (try simp only [stp, List.set])
  refine tkZ 4 ?_ ?_ ?_
  rotate_left
  · exact rn
  (try simp only [stp, List.set])
  refine tkZ 5 ?_ ?_ ?_
  rotate_left
  · exact rn
  (try simp only [stp, List.set])
  refine tkZ 6 ?_ ?_ ?_
  rotate_left
  · exact rn
  (try simp only [stp, List.set])
  refine tkZ 7 ?_ ?_ ?_
  rotate_left
  · exact rn
  (try simp only [stp, List.set])
  refine tkZ 8 ?_ ?_ ?_
  rotate_left
  · exact rn
  (try simp only [stp, List.set])
  refine tkZ 9 ?_ ?_ ?_
  rotate_left
  · exact rn
  (try simp only [stp, List.set])
  refine tkZ 10 ?_ ?_ ?_
  rotate_left
  · exact rn
  (try simp only [stp, List.set])
  refine wpAnyZ_last (i := 11) rfl (by kernel_rfl) (by kernel_rfl) (fun K hK => ?_)
  have HWd : Below w.heap.size w wd.drew.drew := HW.drew.drew
  have g0 : wd.drew.drew.cell? ⟨gb, t * 2, none⟩ = some (.int .i64 s.vars[t].k) := by rw [HWd.cell (by simpa using hg2)]; exact kt0
  have g1 : wd.drew.drew.cell? ⟨gb, t * 2 + 1, none⟩ = some (.int .i64 s.vars[t].n) := by rw [HWd.cell (by simpa using hg2)]; exact kt1
  have d0 : wd.drew.drew.frozen? ⟨gb, t * 2, none⟩ = false := by rw [HWd.frozen (by simpa using hg2)]; exact f0
  have d1 : wd.drew.drew.frozen? ⟨gb, t * 2 + 1, none⟩ = false := by rw [HWd.frozen (by simpa using hg2)]; exact f1
  have oL := h.below HWd
  generalize wd.drew.drew = wl at *
  go_simp
  refine hK.out _ _ ?_
  clear hK K
  (try simp only [stp, List.set])
  refine wpAnyZ_done (by kernel_rfl) ?_ _
  go_wp2
  go_ret
  exact ⟨rfl, ⟨_, _, _, _, oL.put t ht s.things[q].fs[f]⟩, ((HWd.mono hB).setCell hg1 _).setCell hg1 _, fun j _ => by rw [cell_set2 _ _ _ _ _ _ _ _ am]; exact HWd.cell hm, frame_put HWd (by simp [ownBlocks, Value.ownBlock]) _ _ _ _⟩

set_option maxHeartbeats 4000000 in
set_option maxRecDepth 20000 in
theorem field_put (m B x q f y : Nat) (s : St) (vv tv lv : Value) (fv : List Value) (t g : Int) (w : World) (h : OwnRun w B m s vv tv lv fv) (hB : B ≤ w.heap.size) (hx : x < s.vars.length) (hv : s.vars[x] = ⟨3, (q : Int)⟩) (hq : q < s.things.length) (hf : f < s.things[q].fs.length) (hy : y < s.vars.length) :
    Calls Tryd.prog 100 #[.pointer (some ⟨m, 0, none⟩), .agg #[.int .i64 13, .int .i64 t, .int .i64 x, .int .i64 y, .int .i64 f, .int .i64 g]] w fun e w' => e = .returned (.int .i64 0) ∧ MStep w w' B m (ownBlocks m vv tv lv fv) (putField s q f s.vars[y]) := by
  have hm : m < w.heap.size := h.lt (by simp [ownBlocks])
  have z1 : m < w.heap.size + 1 := by omega
  obtain ⟨gb, cap, rfl, hg1, hg2, hcell, hfz⟩ := h.form (by omega)
  have am : m ≠ gb := h.vars_apart rfl m (by simp)
  have q1 := h.vars_
  have z2 : gb < w.heap.size + 1 := by omega
  obtain ⟨kx0, kx1⟩ := hcell x hx
  have nx0 : (0 : Int) ≤ (x : Int) := by omega
  have nx1 : (x : Int) < (s.vars.length : Int) := by omega
  obtain ⟨gt, tc, etv, hgt, th0, th1, hgtB⟩ := h.thing hq
  obtain ⟨gf, fc, efv, hgf, fd0, fd1, ffz, hgfB⟩ := h.field hq hf
  rw [efv] at th1
  have q2 := h.things_
  rw [etv] at q2
  have nq0 : (0 : Int) ≤ (q : Int) := by omega
  have nq1 : (q : Int) < (s.things.length : Int) := by omega
  have nf0 : (0 : Int) ≤ (f : Int) := by omega
  have nf1 : (f : Int) < (s.things[q].fs.length : Int) := by omega
  have HV := hideK hv
  clear hv
  obtain ⟨ky0, ky1⟩ := hcell y hy
  have ny0 : (0 : Int) ≤ (y : Int) := by omega
  have ny1 : (y : Int) < (s.vars.length : Int) := by omega
  have f0 := ffz (f * 2)
  have f1 := ffz (f * 2 + 1)
  have K1 : ∀ wx, Below (w.heap.size + 1) (w.alloc (.cells #[.int .i64 13, .int .i64 t, .int .i64 x, .int .i64 y, .int .i64 f, .int .i64 g] 71)) wx → wx.cell? ⟨m, 1, none⟩ = some (.slice (some ⟨gb, 0, none⟩) s.vars.length cap) ∧ wx.cell? ⟨w.heap.size, 2, none⟩ = some (.int .i64 x) ∧ wx.cell? ⟨gb, x * 2, none⟩ = some (.int .i64 s.vars[x].k) ∧ wx.cell? ⟨gb, x * 2 + 1, none⟩ = some (.int .i64 s.vars[x].n) := by
    intro wx hb
    rw [hb.cell (by simpa using z1), hb.cell (by simp), hb.cell (by simpa using z2), hb.cell (by simpa using z2)]
    simp [go_sem, hm, q1, hg2, kx0, kx1]
  clear hcell hfz
  go_enter Tryd.func100, Tryd.ntmps100
  go_wp2
  have HB0 : Below (w.heap.size + 1) (w.alloc (.cells #[.int .i64 13, .int .i64 t, .int .i64 x, .int .i64 y, .int .i64 f, .int .i64 g] 71)) (w.alloc (.cells #[.int .i64 13, .int .i64 t, .int .i64 x, .int .i64 y, .int .i64 f, .int .i64 g] 71)).drew := (Below.refl _ _).drew
  have hz0 : (w.alloc (.cells #[.int .i64 13, .int .i64 t, .int .i64 x, .int .i64 y, .int .i64 f, .int .i64 g] 71)).drew.heap.size = w.heap.size + 1 := by simp
  refine wp_region_z (S := (fun wx => wx.cell? ⟨m, 1, none⟩ = some (.slice (some ⟨gb, 0, none⟩) s.vars.length cap) ∧ wx.cell? ⟨w.heap.size, 2, none⟩ = some (.int .i64 x) ∧ wx.cell? ⟨gb, x * 2, none⟩ = some (.int .i64 s.vars[x].k) ∧ wx.cell? ⟨gb, x * 2 + 1, none⟩ = some (.int .i64 s.vars[x].n))) [] (by kernel_rfl) (K1 _ (Below.refl _ _).drew) (fun hHeld => ?_)
  refine tkZ 0 ?_ ?_ ?_
  rotate_left
  · exact rn
  (try simp only [stp, List.set])
  refine tkZ 1 ?_ ?_ ?_
  rotate_left
  · exact rn
  (try simp only [stp, List.set])
  refine tkZ 2 ?_ ?_ ?_
  rotate_left
  · exact rn
  (try simp only [stp, List.set])
  refine tkZ 3 ?_ ?_ ?_
  rotate_left
  · exact rn
  (try simp only [stp, List.set])
  refine tkZ 4 ?_ ?_ ?_
  rotate_left
  · exact rn
  (try simp only [stp, List.set])
  refine tkZ 5 ?_ ?_ ?_
  rotate_left
  · exact rn
  (try simp only [stp, List.set])
  refine tkZ 6 ?_ ?_ ?_
  rotate_left
  · exact rn
  (try simp only [stp, List.set])
  refine tkZ 7 ?_ ?_ ?_
  rotate_left
  · exact rn
  (try simp only [stp, List.set])
  refine tkZ 8 ?_ ?_ ?_
  rotate_left
  · exact rn
  (try simp only [stp, List.set])
  refine wpAnyZ_one (i := 9) rfl (by kernel_rfl) (fun K hK => ?_)
  generalize (w.alloc (.cells #[.int .i64 13, .int .i64 t, .int .i64 x, .int .i64 y, .int .i64 f, .int .i64 g] 71)).drew = wq at *
  go_simp
  have HB1 : Below (w.heap.size + 1) (w.alloc (.cells #[.int .i64 13, .int .i64 t, .int .i64 x, .int .i64 y, .int .i64 f, .int .i64 g] 71)) (wq.alloc (.cells #[.int .i64 0, .int .i64 0] 94)) := HB0.alloc (by have := HB0.size; simpa using this) _
  have V1 := VAt.new wq ⟨0, 0⟩
  rw [hz0] at V1
  refine hK.out _ _ (K1 _ HB1) (fun hHeld => ?_)
  clear hK K
  (try simp only [stp, List.set])
  (try rw [hz0])
  simp only at V1
  generalize wq.alloc (.cells #[.int .i64 0, .int .i64 0] 94) = wa at *
  refine wpAnyZ_one (i := 10) rfl (by kernel_rfl) (fun K hK => ?_)
  obtain ⟨⟨a0, a1⟩, az, af⟩ := id V1
  have af0 := af 0
  have af1 := af 1
  go_simp
  have HB3 : Below (w.heap.size + 1) (w.alloc (.cells #[.int .i64 13, .int .i64 t, .int .i64 x, .int .i64 y, .int .i64 f, .int .i64 g] 71)) ((wa.setCell ⟨w.heap.size + 1, 0, none⟩ (.int .i64 s.vars[x].k)).setCell ⟨w.heap.size + 1, 1, none⟩ (.int .i64 s.vars[x].n)) := (HB1.setCell (by simp) _).setCell (by simp) _
  have VA := V1.put s.vars[x]
  refine hK.out _ _ (K1 _ HB3) (fun hHeld => ?_)
  clear hK K a0 a1 az af af0 af1 V1
  (try simp only [stp, List.set])
  generalize (wa.setCell ⟨w.heap.size + 1, 0, none⟩ (.int .i64 s.vars[x].k)).setCell ⟨w.heap.size + 1, 1, none⟩ (.int .i64 s.vars[x].n) = wd at *
  refine wpAnyZ_done (by kernel_rfl) ?_ _
  have hzd : w.heap.size + 1 ≤ wd.heap.size := by have := HB3.size; simpa using this
  have va0 := VA.1.1
  have va1 := VA.1.2
  have HW : Below w.heap.size w wd := Below.trans (by go_grown) (HB3.mono (Nat.le_succ _))
  clear hHeld
  rw [HV.out] at va0 va1
  simp only at va0 va1
  have c4 : wd.cell? ⟨w.heap.size, 4, none⟩ = some (.int .i64 f) := by rw [HB3.cell (by simp)]; simp [go_sem]
  have c0 : wd.cell? ⟨w.heap.size, 0, none⟩ = some (.int .i64 13) := by rw [HB3.cell (by simp)]; simp [go_sem]
  have KZ : ∀ wx, Below wd.heap.size wd wx → wx.cell? ⟨m, 2, none⟩ = some (.slice (some ⟨gt, 0, none⟩) s.things.length tc) ∧ wx.cell? ⟨w.heap.size + 1, 1, none⟩ = some (.int .i64 q) ∧ wx.cell? ⟨gt, q * 2 + 1, none⟩ = some (.slice (some ⟨gf, 0, none⟩) s.things[q].fs.length fc) ∧ wx.cell? ⟨w.heap.size, 4, none⟩ = some (.int .i64 f) := fun wx hx => ⟨by rw [hx.cell (by simp; omega), HW.cell (by simpa using hm)]; exact q2, by rw [hx.cell (by simpa using VA.2.1)]; exact va1, by rw [hx.cell (by simp; omega), HW.cell (by simpa using hgt)]; exact th1, by rw [hx.cell (by simp; omega)]; exact c4⟩
  go_wp2
  refine wp_region_z (S := (fun wx => wx.cell? ⟨m, 2, none⟩ = some (.slice (some ⟨gt, 0, none⟩) s.things.length tc) ∧ wx.cell? ⟨w.heap.size + 1, 1, none⟩ = some (.int .i64 q) ∧ wx.cell? ⟨gt, q * 2 + 1, none⟩ = some (.slice (some ⟨gf, 0, none⟩) s.things[q].fs.length fc) ∧ wx.cell? ⟨w.heap.size, 4, none⟩ = some (.int .i64 f))) [] (by kernel_rfl) (KZ _ (Below.refl _ _).drew) (fun hHeld => ?_)
  refine tkZ 0 ?_ ?_ ?_
  rotate_left
  · exact rn
  (try simp only [stp, List.set])
  refine tkZ 1 ?_ ?_ ?_
  rotate_left
  · exact rn
  (try simp only [stp, List.set])
  refine tkZ 2 ?_ ?_ ?_
  rotate_left
  · exact rn
  (try simp only [stp, List.set])
  refine tkZ 3 ?_ ?_ ?_
  rotate_left
  · exact rn
  (try simp only [stp, List.set])
  refine tkZ 4 ?_ ?_ ?_
  rotate_left
  · exact rn
  (try simp only [stp, List.set])
  refine tkZ 5 ?_ ?_ ?_
  rotate_left
  · exact rn
  (try simp only [stp, List.set])
  refine tkZ 6 ?_ ?_ ?_
  rotate_left
  · exact rn
  (try simp only [stp, List.set])
  refine tkZ 7 ?_ ?_ ?_
  rotate_left
  · exact rn
  (try simp only [stp, List.set])
  refine tkZ 8 ?_ ?_ ?_
  rotate_left
  · exact rn
  (try simp only [stp, List.set])
  refine tkZ 9 ?_ ?_ ?_
  rotate_left
  · exact rn
  (try simp only [stp, List.set])
  refine tkZ 10 ?_ ?_ ?_
  rotate_left
  · exact rn
  (try simp only [stp, List.set])
  refine tkZ 11 ?_ ?_ ?_
  rotate_left
  · exact rn
  (try simp only [stp, List.set])
  refine tkZ 12 ?_ ?_ ?_
  rotate_left
  · exact rn
  (try simp only [stp, List.set])
  refine tkZ 13 ?_ ?_ ?_
  rotate_left
  · exact rn
  (try simp only [stp, List.set])
  refine wpAnyZ_done (by kernel_rfl) ?_ _
  have c1 : wd.cell? ⟨w.heap.size, 3, none⟩ = some (.int .i64 y) := by rw [HB3.cell (by simp)]; simp [go_sem]
  have KY : ∀ wx, Below wd.heap.size wd wx → wx.cell? ⟨m, 1, none⟩ = some (.slice (some ⟨gb, 0, none⟩) s.vars.length cap) ∧ wx.cell? ⟨w.heap.size, 3, none⟩ = some (.int .i64 y) ∧ wx.cell? ⟨gb, y * 2, none⟩ = some (.int .i64 s.vars[y].k) ∧ wx.cell? ⟨gb, y * 2 + 1, none⟩ = some (.int .i64 s.vars[y].n) := fun wx hx => ⟨by rw [hx.cell (by simp; omega), HW.cell (by simpa using hm)]; exact q1, by rw [hx.cell (by simp; omega)]; exact c1, by rw [hx.cell (by simp; omega), HW.cell (by simpa using hg2)]; exact ky0, by rw [hx.cell (by simp; omega), HW.cell (by simpa using hg2)]; exact ky1⟩
  go_wp2
  refine wp_region_z (S := (fun wx => wx.cell? ⟨m, 1, none⟩ = some (.slice (some ⟨gb, 0, none⟩) s.vars.length cap) ∧ wx.cell? ⟨w.heap.size, 3, none⟩ = some (.int .i64 y) ∧ wx.cell? ⟨gb, y * 2, none⟩ = some (.int .i64 s.vars[y].k) ∧ wx.cell? ⟨gb, y * 2 + 1, none⟩ = some (.int .i64 s.vars[y].n))) [11] (by kernel_rfl) (KY _ ((Below.refl _ _).drew.drew)) (fun hHeld => ?_)
  refine tkZ 0 ?_ ?_ ?_
  rotate_left
  · exact rn
  (try simp only [stp, List.set])
  refine tkZ 1 ?_ ?_ ?_
  rotate_left
  · exact rn
  (try simp only [stp, List.set])
  refine tkZ 2 ?_ ?_ ?_
  rotate_left
  · exact rn
  (try simp only [stp, List.set])
  refine tkZ 3 ?_ ?_ ?_
  rotate_left
  · exact rn
  (try simp only [stp, List.set])
  refine tkZ 4 ?_ ?_ ?_
  rotate_left
  · exact rn
  (try simp only [stp, List.set])
  refine tkZ 5 ?_ ?_ ?_
  rotate_left
  · exact rn
  (try simp only [stp, List.set])
  refine tkZ 6 ?_ ?_ ?_
  rotate_left
  · exact rn
  (try simp only [stp, List.set])
  refine tkZ 7 ?_ ?_ ?_
  rotate_left
  · exact rn
  (try simp only [stp, List.set])
  refine tkZ 8 ?_ ?_ ?_
  rotate_left
  · exact rn
  (try simp only [stp, List.set])
  refine tkZ 9 ?_ ?_ ?_
  rotate_left
  · exact rn
  (try simp only [stp, List.set])
  refine tkZ 10 ?_ ?_ ?_
  rotate_left
  · exact rn
  (try simp only [stp, List.set])
  refine wpAnyZ_last (i := 11) rfl (by kernel_rfl) (by kernel_rfl) (fun K hK => ?_)
  have HWd : Below w.heap.size w wd.drew.drew := HW.drew.drew
  have g0 : wd.drew.drew.cell? ⟨gf, f * 2, none⟩ = some (.int .i64 s.things[q].fs[f].k) := by rw [HWd.cell (by simpa using hgf)]; exact fd0
  have g1 : wd.drew.drew.cell? ⟨gf, f * 2 + 1, none⟩ = some (.int .i64 s.things[q].fs[f].n) := by rw [HWd.cell (by simpa using hgf)]; exact fd1
  have d0 : wd.drew.drew.frozen? ⟨gf, f * 2, none⟩ = false := by rw [HWd.frozen (by simpa using hgf)]; exact f0
  have d1 : wd.drew.drew.frozen? ⟨gf, f * 2 + 1, none⟩ = false := by rw [HWd.frozen (by simpa using hgf)]; exact f1
  have oL := h.below HWd
  generalize wd.drew.drew = wl at *
  go_simp
  refine hK.out _ _ ?_
  clear hK K
  (try simp only [stp, List.set])
  refine wpAnyZ_done (by kernel_rfl) ?_ _
  go_wp2
  go_ret
  have hgm : some gf ∈ fv.map Value.ownBlock := List.mem_map.2 ⟨_, List.getElem_mem (by rw [h.count]; exact hq), by rw [efv]; rfl⟩
  have amf : m ≠ gf := fun e => h.parted.1 gf (by simp only [List.mem_cons]; right; right; right; exact hgm) e.symm
  exact ⟨rfl, ⟨_, _, _, _, oL.put_field q hq efv f hf s.vars[y]⟩, ((HWd.mono hB).setCell hgfB _).setCell hgfB _, fun j _ => by rw [cell_set2 _ _ _ _ _ _ _ _ amf]; exact HWd.cell hm, frame_put HWd (by simp only [ownBlocks, List.mem_cons]; right; right; right; right; exact hgm) _ _ _ _⟩
end Go.Proofs.YtmapdpcfanecdaaDoor
