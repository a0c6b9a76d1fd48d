/- Walks over package run: what the machine does, kind by kind. -/
import Derived.Test.YtmapdpcfanecdaaDoorKlawrsp08
import Derived.Test.YtmapdpcfanecdaaDoorKlawrsp10
import Derived.Deep.DeepCutAuto
namespace Go.Proofs.YtmapdpcfanecdaaDoor
set_option linter.unusedVariables false
set_option linter.unusedSimpArgs false
open Go.RowKit
attribute [local go_sem ↓] Go.wp_at_zero Go.wp_at_succ

theorem wr_wrap (n : Int) : wr (wrap64 n) = wr n := by unfold wr wrap64; omega
theorem wr_wrapK (n : Int) : wr (IntKind.i64.wrap n) = wr n := by
  have : IntKind.i64.wrap n = wrap64 n := by simp [wrap64, IntKind.wrap_i64]
  rw [this, wr_wrap]
/-- What comes of two numbers. -/
def reckoned (k : Int) (a b : Val) : Val := if k = 5 then ⟨1, wr (a.n + b.n)⟩ else if k = 6 then ⟨1, wr (a.n - b.n)⟩ else if k = 7 then ⟨1, wr (a.n * b.n)⟩ else truV (decide (a.n < b.n))
def reckEnd (a b : Val) : Int := if (decide (a.k ≠ 1) || decide (b.k ≠ 1)) = true then 2 else 0
def reckSt (s : St) (t : Nat) (k : Int) (a b : Val) : St := if (decide (a.k ≠ 1) || decide (b.k ≠ 1)) = true then s else { s with vars := s.vars.set t (reckoned k a b) }
theorem reckon_yes {a b : Val} (h1 : a.k = 1) (h2 : b.k = 1) (s : St) (t : Nat) (k : Int) : reckEnd a b = 0 ∧ reckSt s t k a b = { s with vars := s.vars.set t (reckoned k a b) } := by simp [reckEnd, reckSt, h1, h2]
theorem reckon_no {a b : Val} (h : a.k ≠ 1 ∨ b.k ≠ 1) (s : St) (t : Nat) (k : Int) : reckEnd a b = 2 ∧ reckSt s t k a b = s := by
  rcases h with h | h <;> simp [reckEnd, reckSt, h]
set_option maxHeartbeats 8000000 in
set_option maxRecDepth 20000 in
theorem reckon_any (m B t x y : Nat) (s : St) (vv tv lv : Value) (fv : List Value) (k n g : Int) (w : World) (h : OwnRun w B m s vv tv lv fv) (hB : B ≤ w.heap.size) (ht : t < s.vars.length) (hx : x < s.vars.length) (hy : y < s.vars.length) (hk : k = 5 ∨ k = 6 ∨ k = 7 ∨ k = 8) :
    Calls Tryd.prog 97 #[.pointer (some ⟨m, 0, none⟩), .agg #[.int .i64 k, .int .i64 t, .int .i64 x, .int .i64 y, .int .i64 n, .int .i64 g]] w fun e w' => e = .returned (.int .i64 (reckEnd s.vars[x] s.vars[y])) ∧ MStep w w' B m (ownBlocks m vv tv lv fv) (reckSt s t k s.vars[x] s.vars[y]) := by
  have hm : m < w.heap.size := h.lt (by simp [ownBlocks])
  have z1 : m < w.heap.size + 1 := by omega
  obtain ⟨gb, cap, rfl, hg1, hg2, hcell, hfz⟩ := h.form (by omega)
  have am : m ≠ gb := h.vars_apart rfl m (by simp)
  have q1 := h.vars_
  have z2 : gb < w.heap.size + 1 := by omega
  obtain ⟨kt0, kt1⟩ := hcell t ht
  have nt0 : (0 : Int) ≤ (t : Int) := by omega
  have nt1 : (t : Int) < (s.vars.length : Int) := by omega
  obtain ⟨kx0, kx1⟩ := hcell x hx
  have nx0 : (0 : Int) ≤ (x : Int) := by omega
  have nx1 : (x : Int) < (s.vars.length : Int) := by omega
  obtain ⟨ky0, ky1⟩ := hcell y hy
  have ny0 : (0 : Int) ≤ (y : Int) := by omega
  have ny1 : (y : Int) < (s.vars.length : Int) := by omega
  have f0 := hfz (t * 2)
  have f1 := hfz (t * 2 + 1)
  have K1 : ∀ wx, Below (w.heap.size + 1) (w.alloc (.cells #[.int .i64 k, .int .i64 t, .int .i64 x, .int .i64 y, .int .i64 n, .int .i64 g] 71)) wx → wx.cell? ⟨m, 1, none⟩ = some (.slice (some ⟨gb, 0, none⟩) s.vars.length cap) ∧ wx.cell? ⟨w.heap.size, 2, none⟩ = some (.int .i64 x) ∧ wx.cell? ⟨w.heap.size, 3, none⟩ = some (.int .i64 y) ∧ wx.cell? ⟨gb, x * 2, none⟩ = some (.int .i64 s.vars[x].k) ∧ wx.cell? ⟨gb, x * 2 + 1, none⟩ = some (.int .i64 s.vars[x].n) ∧ wx.cell? ⟨gb, y * 2, none⟩ = some (.int .i64 s.vars[y].k) ∧ wx.cell? ⟨gb, y * 2 + 1, none⟩ = some (.int .i64 s.vars[y].n) := by
    intro wx hb
    rw [hb.cell (by simpa using z1), hb.cell (by simp), hb.cell (by simp), hb.cell (by simpa using z2), hb.cell (by simpa using z2), hb.cell (by simpa using z2), hb.cell (by simpa using z2)]
    simp [go_sem, hm, q1, hg2, kx0, kx1, ky0, ky1]
  clear hcell hfz
  go_enter Tryd.func97, Tryd.ntmps97
  go_upto_region 1 with fail
  go_cut [5, 6] (fun p5 p6 wy => ∃ ba bb, p5 = .pointer (some ⟨ba, 0, none⟩) ∧ p6 = .pointer (some ⟨bb, 0, none⟩) ∧ VAt wy ba s.vars[x] ∧ VAt wy bb s.vars[y] ∧ w.heap.size + 1 ≤ ba ∧ w.heap.size + 1 ≤ bb ∧ Below (w.heap.size + 1) (w.alloc (.cells #[.int .i64 k, .int .i64 t, .int .i64 x, .int .i64 y, .int .i64 n, .int .i64 g] 71)) wy)
  case first =>
    rename_i J1 K1' hJ1 hK1
    refine wp_region_z (S := (fun wx => wx.cell? ⟨m, 1, none⟩ = some (.slice (some ⟨gb, 0, none⟩) s.vars.length cap) ∧ wx.cell? ⟨w.heap.size, 2, none⟩ = some (.int .i64 x) ∧ wx.cell? ⟨w.heap.size, 3, none⟩ = some (.int .i64 y) ∧ wx.cell? ⟨gb, x * 2, none⟩ = some (.int .i64 s.vars[x].k) ∧ wx.cell? ⟨gb, x * 2 + 1, none⟩ = some (.int .i64 s.vars[x].n) ∧ wx.cell? ⟨gb, y * 2, none⟩ = some (.int .i64 s.vars[y].k) ∧ wx.cell? ⟨gb, y * 2 + 1, none⟩ = some (.int .i64 s.vars[y].n))) [] (by kernel_rfl) (K1 _ (Below.refl _ _).drew) (fun hHeld => ?_)
    have HB0 : Below (w.heap.size + 1) (w.alloc (.cells #[.int .i64 k, .int .i64 t, .int .i64 x, .int .i64 y, .int .i64 n, .int .i64 g] 71)) (w.alloc (.cells #[.int .i64 k, .int .i64 t, .int .i64 x, .int .i64 y, .int .i64 n, .int .i64 g] 71)).drew := (Below.refl _ _).drew
    have hz0 : (w.alloc (.cells #[.int .i64 k, .int .i64 t, .int .i64 x, .int .i64 y, .int .i64 n, .int .i64 g] 71)).drew.heap.size = w.heap.size + 1 := by simp
    generalize (w.alloc (.cells #[.int .i64 k, .int .i64 t, .int .i64 x, .int .i64 y, .int .i64 n, .int .i64 g] 71)).drew = wq at *
    refine tkZ 0 ?_ ?_ ?_
    rotate_left
    · exact rn
    (try simp only [stp, List.set])
    refine tkZ 1 ?_ ?_ ?_
    rotate_left
    · exact rn
    (try simp only [stp, List.set])
    refine tkZ 2 ?_ ?_ ?_
    rotate_left
    · exact rn
    (try simp only [stp, List.set])
    refine tkZ 3 ?_ ?_ ?_
    rotate_left
    · exact rn
    (try simp only [stp, List.set])
    refine tkZ 4 ?_ ?_ ?_
    rotate_left
    · exact rn
    (try simp only [stp, List.set])
    refine tkZ 5 ?_ ?_ ?_
    rotate_left
    · exact rn
    (try simp only [stp, List.set])
    refine tkZ 6 ?_ ?_ ?_
    rotate_left
    · exact rn
    (try simp only [stp, List.set])
    refine tkZ 7 ?_ ?_ ?_
    rotate_left
    · exact rn
    (try simp only [stp, List.set])
    refine tkZ 8 ?_ ?_ ?_
    rotate_left
    · exact rn
    (try simp only [stp, List.set])
    refine tkZ 9 ?_ ?_ ?_
    rotate_left
    · exact rn
    (try simp only [stp, List.set])
    refine tkZ 10 ?_ ?_ ?_
    rotate_left
    · exact rn
    (try simp only [stp, List.set])
    refine tkZ 11 ?_ ?_ ?_
    rotate_left
    · exact rn
    (try simp only [stp, List.set])
    refine tkZ 12 ?_ ?_ ?_
    rotate_left
    · exact rn
    (try simp only [stp, List.set])
    refine tkZ 13 ?_ ?_ ?_
    rotate_left
    · exact rn
    (try simp only [stp, List.set])
    refine tkZ 14 ?_ ?_ ?_
    rotate_left
    · exact rn
    (try simp only [stp, List.set])
    refine tkZ 15 ?_ ?_ ?_
    rotate_left
    · exact rn
    (try simp only [stp, List.set])
    refine tkZ 16 ?_ ?_ ?_
    rotate_left
    · exact rn
    (try simp only [stp, List.set])
    refine tkZ 17 ?_ ?_ ?_
    rotate_left
    · exact rn
    (try simp only [stp, List.set])
    refine wpAnyZ_two (i := 18) (j := 19) rfl rfl (by kernel_rfl) (fun K hK => ?_) (fun K hK => ?_)
    · go_simp
      have HB1 : Below (w.heap.size + 1) (w.alloc (.cells #[.int .i64 k, .int .i64 t, .int .i64 x, .int .i64 y, .int .i64 n, .int .i64 g] 71)) (wq.alloc (.cells #[.int .i64 0, .int .i64 0] 94)) := HB0.alloc (by have := HB0.size; simpa using this) _
      have V1 := VAt.new wq ⟨0, 0⟩
      have hz1 : (wq.alloc (.cells #[.int .i64 0, .int .i64 0] 94)).heap.size = w.heap.size + 1 + 1 := by simp [hz0]
      rw [hz0] at V1
      refine hK.out _ _ (K1 _ HB1) (fun hHeld => ?_)
      clear hK K
      (try simp only [stp, List.set])
      (try rw [hz0])
      simp only at V1
      generalize wq.alloc (.cells #[.int .i64 0, .int .i64 0] 94) = wa at *
      refine wpAnyZ_one (i := 19) rfl (by kernel_rfl) (fun K hK => ?_)
      go_simp
      have HB2 : Below (w.heap.size + 1) (w.alloc (.cells #[.int .i64 k, .int .i64 t, .int .i64 x, .int .i64 y, .int .i64 n, .int .i64 g] 71)) (wa.alloc (.cells #[.int .i64 0, .int .i64 0] 94)) := HB1.alloc (by have := HB1.size; simpa using this) _
      have V2 := VAt.new wa ⟨0, 0⟩
      have V1b := V1.call (w' := wa.alloc (.cells #[.int .i64 0, .int .i64 0] 94)) (by go_grown)
      have hz2 : (wa.alloc (.cells #[.int .i64 0, .int .i64 0] 94)).heap.size = w.heap.size + 1 + 1 + 1 := by simp [hz1]
      rw [hz1] at V2
      refine hK.out _ _ (K1 _ HB2) (fun hHeld => ?_)
      clear hK K V1
      (try simp only [stp, List.set])
      (try rw [hz1])
      simp only at V2
      generalize wa.alloc (.cells #[.int .i64 0, .int .i64 0] 94) = wb at *
      obtain ⟨⟨a0, a1⟩, az, af⟩ := id V1b
      have af0 := af 0
      have af1 := af 1
      refine wpAnyZ_one (i := 20) rfl (by kernel_rfl) (fun K hK => ?_)
      go_simp
      have HB3 : Below (w.heap.size + 1) (w.alloc (.cells #[.int .i64 k, .int .i64 t, .int .i64 x, .int .i64 y, .int .i64 n, .int .i64 g] 71)) ((wb.setCell ⟨w.heap.size + 1, 0, none⟩ (.int .i64 s.vars[x].k)).setCell ⟨w.heap.size + 1, 1, none⟩ (.int .i64 s.vars[x].n)) := (HB2.setCell (by simp) _).setCell (by simp) _
      have VA3 := V1b.put s.vars[x]
      have VB3 := (V2.set (a := ⟨w.heap.size + 1, 0, none⟩) (by simp) (.int .i64 s.vars[x].k)).set (a := ⟨w.heap.size + 1, 1, none⟩) (by simp) (.int .i64 s.vars[x].n)
      refine hK.out _ _ (K1 _ HB3) (fun hHeld => ?_)
      clear hK K a0 a1 az af af0 af1 V1b V2
      (try simp only [stp, List.set])
      generalize (wb.setCell ⟨w.heap.size + 1, 0, none⟩ (.int .i64 s.vars[x].k)).setCell ⟨w.heap.size + 1, 1, none⟩ (.int .i64 s.vars[x].n) = wd at *
      obtain ⟨⟨a0, a1⟩, az, af⟩ := id VB3
      have af0 := af 0
      have af1 := af 1
      refine wpAnyZ_one (i := 21) rfl (by kernel_rfl) (fun K hK => ?_)
      go_simp
      have HB4 : Below (w.heap.size + 1) (w.alloc (.cells #[.int .i64 k, .int .i64 t, .int .i64 x, .int .i64 y, .int .i64 n, .int .i64 g] 71)) ((wd.setCell ⟨w.heap.size + 1 + 1, 0, none⟩ (.int .i64 s.vars[y].k)).setCell ⟨w.heap.size + 1 + 1, 1, none⟩ (.int .i64 s.vars[y].n)) := (HB3.setCell (by simp) _).setCell (by simp) _
      have VB4 := VB3.put s.vars[y]
      have VA4 := (VA3.set (a := ⟨w.heap.size + 1 + 1, 0, none⟩) (by simp) (.int .i64 s.vars[y].k)).set (a := ⟨w.heap.size + 1 + 1, 1, none⟩) (by simp) (.int .i64 s.vars[y].n)
      refine hK.out _ _ (K1 _ HB4) (fun hHeld => ?_)
      clear hK K
      (try simp only [stp, List.set])
      refine wpAnyZ_done (by kernel_rfl) ?_ _
      refine hK1 _ _ (Met.intro (hJ1 _ _ ?_))
      (repeat apply Exists.intro)
      refine ⟨?_, rfl⟩
      exact ⟨w.heap.size + 1, w.heap.size + 1 + 1, rfl, rfl, VA4, VB4, by omega, by omega, HB4⟩
    · go_simp
      have HB1 : Below (w.heap.size + 1) (w.alloc (.cells #[.int .i64 k, .int .i64 t, .int .i64 x, .int .i64 y, .int .i64 n, .int .i64 g] 71)) (wq.alloc (.cells #[.int .i64 0, .int .i64 0] 94)) := HB0.alloc (by have := HB0.size; simpa using this) _
      have V1 := VAt.new wq ⟨0, 0⟩
      have hz1 : (wq.alloc (.cells #[.int .i64 0, .int .i64 0] 94)).heap.size = w.heap.size + 1 + 1 := by simp [hz0]
      rw [hz0] at V1
      refine hK.out _ _ (K1 _ HB1) (fun hHeld => ?_)
      clear hK K
      (try simp only [stp, List.set])
      (try rw [hz0])
      simp only at V1
      generalize wq.alloc (.cells #[.int .i64 0, .int .i64 0] 94) = wa at *
      refine wpAnyZ_one (i := 18) rfl (by kernel_rfl) (fun K hK => ?_)
      go_simp
      have HB2 : Below (w.heap.size + 1) (w.alloc (.cells #[.int .i64 k, .int .i64 t, .int .i64 x, .int .i64 y, .int .i64 n, .int .i64 g] 71)) (wa.alloc (.cells #[.int .i64 0, .int .i64 0] 94)) := HB1.alloc (by have := HB1.size; simpa using this) _
      have V2 := VAt.new wa ⟨0, 0⟩
      have V1b := V1.call (w' := wa.alloc (.cells #[.int .i64 0, .int .i64 0] 94)) (by go_grown)
      have hz2 : (wa.alloc (.cells #[.int .i64 0, .int .i64 0] 94)).heap.size = w.heap.size + 1 + 1 + 1 := by simp [hz1]
      rw [hz1] at V2
      refine hK.out _ _ (K1 _ HB2) (fun hHeld => ?_)
      clear hK K V1
      (try simp only [stp, List.set])
      (try rw [hz1])
      simp only at V2
      generalize wa.alloc (.cells #[.int .i64 0, .int .i64 0] 94) = wb at *
      obtain ⟨⟨a0, a1⟩, az, af⟩ := id V2
      have af0 := af 0
      have af1 := af 1
      refine wpAnyZ_one (i := 20) rfl (by kernel_rfl) (fun K hK => ?_)
      go_simp
      have HB3 : Below (w.heap.size + 1) (w.alloc (.cells #[.int .i64 k, .int .i64 t, .int .i64 x, .int .i64 y, .int .i64 n, .int .i64 g] 71)) ((wb.setCell ⟨w.heap.size + 1 + 1, 0, none⟩ (.int .i64 s.vars[x].k)).setCell ⟨w.heap.size + 1 + 1, 1, none⟩ (.int .i64 s.vars[x].n)) := (HB2.setCell (by simp) _).setCell (by simp) _
      have VA3 := V2.put s.vars[x]
      have VB3 := (V1b.set (a := ⟨w.heap.size + 1 + 1, 0, none⟩) (by simp) (.int .i64 s.vars[x].k)).set (a := ⟨w.heap.size + 1 + 1, 1, none⟩) (by simp) (.int .i64 s.vars[x].n)
      refine hK.out _ _ (K1 _ HB3) (fun hHeld => ?_)
      clear hK K a0 a1 az af af0 af1 V1b V2
      (try simp only [stp, List.set])
      generalize (wb.setCell ⟨w.heap.size + 1 + 1, 0, none⟩ (.int .i64 s.vars[x].k)).setCell ⟨w.heap.size + 1 + 1, 1, none⟩ (.int .i64 s.vars[x].n) = wd at *
      obtain ⟨⟨a0, a1⟩, az, af⟩ := id VB3
      have af0 := af 0
      have af1 := af 1
      refine wpAnyZ_one (i := 21) rfl (by kernel_rfl) (fun K hK => ?_)
      go_simp
      have HB4 : Below (w.heap.size + 1) (w.alloc (.cells #[.int .i64 k, .int .i64 t, .int .i64 x, .int .i64 y, .int .i64 n, .int .i64 g] 71)) ((wd.setCell ⟨w.heap.size + 1, 0, none⟩ (.int .i64 s.vars[y].k)).setCell ⟨w.heap.size + 1, 1, none⟩ (.int .i64 s.vars[y].n)) := (HB3.setCell (by simp) _).setCell (by simp) _
      have VB4 := VB3.put s.vars[y]
      have VA4 := (VA3.set (a := ⟨w.heap.size + 1, 0, none⟩) (by simp) (.int .i64 s.vars[y].k)).set (a := ⟨w.heap.size + 1, 1, none⟩) (by simp) (.int .i64 s.vars[y].n)
      refine hK.out _ _ (K1 _ HB4) (fun hHeld => ?_)
      clear hK K
      (try simp only [stp, List.set])
      refine wpAnyZ_done (by kernel_rfl) ?_ _
      refine hK1 _ _ (Met.intro (hJ1 _ _ ?_))
      (repeat apply Exists.intro)
      refine ⟨?_, rfl⟩
      exact ⟨w.heap.size + 1 + 1, w.heap.size + 1, rfl, rfl, VA4, VB4, by omega, by omega, HB4⟩
  obtain ⟨ba, bb, rfl, rfl, VA, VB, hba, hbb, HBc⟩ := hcut
  have hzc : w.heap.size + 1 ≤ wc.heap.size := by have := HBc.size; simpa using this
  have c0 : wc.cell? ⟨w.heap.size, 0, none⟩ = some (.int .i64 k) := by rw [HBc.cell (by simp)]; simp [go_sem]
  have c1 : wc.cell? ⟨m, 1, none⟩ = some (.slice (some ⟨gb, 0, none⟩) s.vars.length cap) := (K1 _ HBc).1
  have c2 : wc.cell? ⟨w.heap.size, 1, none⟩ = some (.int .i64 t) := by rw [HBc.cell (by simp)]; simp [go_sem]
  have va0 := VA.1.1
  have vb0 := VB.1.1
  clear K1
  by_cases a1 : s.vars[x].k = 1
  · by_cases b1 : s.vars[y].k = 1
    · rw [a1] at va0
      rw [b1] at vb0
      rcases hk with rfl | rfl | rfl | rfl
      · have KZ : ∀ wx, Below wc.heap.size wc wx → wx.cell? ⟨m, 1, none⟩ = some (.slice (some ⟨gb, 0, none⟩) s.vars.length cap) ∧ wx.cell? ⟨w.heap.size, 1, none⟩ = some (.int .i64 t) ∧ wx.cell? ⟨ba, 1, none⟩ = some (.int .i64 s.vars[x].n) ∧ wx.cell? ⟨bb, 1, none⟩ = some (.int .i64 s.vars[y].n) := fun wx hx => ⟨by rw [hx.cell (by simp; omega)]; exact c1, by rw [hx.cell (by simp; omega)]; exact c2, by rw [hx.cell (by simpa using VA.2.1)]; exact VA.1.2, by rw [hx.cell (by simpa using VB.2.1)]; exact VB.1.2⟩
        go_wp2
        refine wp_region_z (S := (fun wx => wx.cell? ⟨m, 1, none⟩ = some (.slice (some ⟨gb, 0, none⟩) s.vars.length cap) ∧ wx.cell? ⟨w.heap.size, 1, none⟩ = some (.int .i64 t) ∧ wx.cell? ⟨ba, 1, none⟩ = some (.int .i64 s.vars[x].n) ∧ wx.cell? ⟨bb, 1, none⟩ = some (.int .i64 s.vars[y].n))) [14] (by kernel_rfl) (KZ _ (Below.refl _ _).drew) (fun hHeld => ?_)
        refine tkZ 0 ?_ ?_ ?_
        rotate_left
        · exact rn
        (try simp only [stp, List.set])
        refine tkZ 1 ?_ ?_ ?_
        rotate_left
        · exact rn
        (try simp only [stp, List.set])
        refine tkZ 2 ?_ ?_ ?_
        rotate_left
        · exact rn
        (try simp only [stp, List.set])
        refine tkZ 3 ?_ ?_ ?_
        rotate_left
        · exact rn
        (try simp only [stp, List.set])
        refine tkZ 4 ?_ ?_ ?_
        rotate_left
        · exact rn
        (try simp only [stp, List.set])
        refine tkZ 5 ?_ ?_ ?_
        rotate_left
        · exact rn
        (try simp only [stp, List.set])
        refine tkZ 6 ?_ ?_ ?_
        rotate_left
        · exact rn
        (try simp only [stp, List.set])
        refine tkZ 7 ?_ ?_ ?_
        rotate_left
        · exact rn
        (try simp only [stp, List.set])
        refine tkZ 8 ?_ ?_ ?_
        rotate_left
        · exact rn
        (try simp only [stp, List.set])
        refine tkZ 9 ?_ ?_ ?_
        rotate_left
        · exact rn
        (try simp only [stp, List.set])
        refine tkZ 10 ?_ ?_ ?_
        rotate_left
        · exact rn
        (try simp only [stp, List.set])
        refine tkZ 11 ?_ ?_ ?_
        rotate_left
        · exact rn
        (try simp only [stp, List.set])
        refine wpAnyZ_one (i := 12) rfl (by kernel_rfl) (fun K hK => ?_)
        go_simp
        go_at_call 95
        refine (number_any _ _).mono ?_
        rintro e w1 ⟨rfl, hb1⟩
        simp only [wr_wrap, wr_wrapK]
        have HB1 : Below wc.heap.size wc w1 := Below.trans (Below.refl _ _).drew hb1
        go_wp2_with fail
        refine hK.out _ _ (KZ _ HB1) (fun hHeld => ?_)
        clear hK K
        (try simp only [stp, List.set])
        refine tkZ 13 ?_ ?_ ?_
        rotate_left
        · exact rn
        (try simp only [stp, List.set])
        refine wpAnyZ_last (i := 14) rfl (by kernel_rfl) (by kernel_rfl) (fun K hK => ?_)
        have HW : Below w.heap.size w w1 := Below.trans (by go_grown) (((HBc.trans (HB1.mono (by omega)))).mono (Nat.le_succ _))
        have oL := h.below HW
        have c0 : w1.cell? ⟨gb, t * 2, none⟩ = some (.int .i64 s.vars[t].k) := by rw [HW.cell (by simpa using hg2)]; exact kt0
        have c1' : w1.cell? ⟨gb, t * 2 + 1, none⟩ = some (.int .i64 s.vars[t].n) := by rw [HW.cell (by simpa using hg2)]; exact kt1
        have d0 : w1.frozen? ⟨gb, t * 2, none⟩ = false := by rw [HW.frozen (by simpa using hg2)]; exact f0
        have d1 : w1.frozen? ⟨gb, t * 2 + 1, none⟩ = false := by rw [HW.frozen (by simpa using hg2)]; exact f1
        go_simp
        refine hK.out _ _ ?_
        clear hK K
        (try simp only [stp, List.set])
        refine wpAnyZ_done (by kernel_rfl) ?_ _
        go_wp2
        go_ret
        have HY := reckon_yes a1 b1 s t 5
        rw [show reckoned 5 s.vars[x] s.vars[y] = ⟨1, wr (s.vars[x].n + s.vars[y].n)⟩ from rfl] at HY
        rw [HY.1, HY.2]
        refine ⟨rfl, ?_⟩
        exact ⟨⟨_, _, _, _, oL.put t ht ⟨1, wr (s.vars[x].n + s.vars[y].n)⟩⟩, ((HW.mono hB).setCell hg1 _).setCell hg1 _, fun j _ => by rw [cell_set2 _ _ _ _ _ _ _ _ am]; exact HW.cell hm, frame_put HW (by simp [ownBlocks, Value.ownBlock]) _ _ _ _⟩
      · have KZ : ∀ wx, Below wc.heap.size wc wx → wx.cell? ⟨m, 1, none⟩ = some (.slice (some ⟨gb, 0, none⟩) s.vars.length cap) ∧ wx.cell? ⟨w.heap.size, 1, none⟩ = some (.int .i64 t) ∧ wx.cell? ⟨ba, 1, none⟩ = some (.int .i64 s.vars[x].n) ∧ wx.cell? ⟨bb, 1, none⟩ = some (.int .i64 s.vars[y].n) := fun wx hx => ⟨by rw [hx.cell (by simp; omega)]; exact c1, by rw [hx.cell (by simp; omega)]; exact c2, by rw [hx.cell (by simpa using VA.2.1)]; exact VA.1.2, by rw [hx.cell (by simpa using VB.2.1)]; exact VB.1.2⟩
        go_wp2
        refine wp_region_z (S := (fun wx => wx.cell? ⟨m, 1, none⟩ = some (.slice (some ⟨gb, 0, none⟩) s.vars.length cap) ∧ wx.cell? ⟨w.heap.size, 1, none⟩ = some (.int .i64 t) ∧ wx.cell? ⟨ba, 1, none⟩ = some (.int .i64 s.vars[x].n) ∧ wx.cell? ⟨bb, 1, none⟩ = some (.int .i64 s.vars[y].n))) [14] (by kernel_rfl) (KZ _ (Below.refl _ _).drew) (fun hHeld => ?_)
        refine tkZ 0 ?_ ?_ ?_
        rotate_left
        · exact rn
        (try simp only [stp, List.set])
        refine tkZ 1 ?_ ?_ ?_
        rotate_left
        · exact rn
        (try simp only [stp, List.set])
        refine tkZ 2 ?_ ?_ ?_
        rotate_left
        · exact rn
        (try simp only [stp, List.set])
        refine tkZ 3 ?_ ?_ ?_
        rotate_left
        · exact rn
        (try simp only [stp, List.set])
        refine tkZ 4 ?_ ?_ ?_
        rotate_left
        · exact rn
        (try simp only [stp, List.set])
        refine tkZ 5 ?_ ?_ ?_
        rotate_left
        · exact rn
        (try simp only [stp, List.set])
        refine tkZ 6 ?_ ?_ ?_
        rotate_left
        · exact rn
        (try simp only [stp, List.set])
        refine tkZ 7 ?_ ?_ ?_
        rotate_left
        · exact rn
        (try simp only [stp, List.set])
        refine tkZ 8 ?_ ?_ ?_
        rotate_left
        · exact rn
        (try simp only [stp, List.set])
        refine tkZ 9 ?_ ?_ ?_
        rotate_left
        · exact rn
        (try simp only [stp, List.set])
        refine tkZ 10 ?_ ?_ ?_
        rotate_left
        · exact rn
        (try simp only [stp, List.set])
        refine tkZ 11 ?_ ?_ ?_
        rotate_left
        · exact rn
        (try simp only [stp, List.set])
        refine wpAnyZ_one (i := 12) rfl (by kernel_rfl) (fun K hK => ?_)
        go_simp
        go_at_call 95
        refine (number_any _ _).mono ?_
        rintro e w1 ⟨rfl, hb1⟩
        simp only [wr_wrap, wr_wrapK]
        have HB1 : Below wc.heap.size wc w1 := Below.trans (Below.refl _ _).drew hb1
        go_wp2_with fail
        refine hK.out _ _ (KZ _ HB1) (fun hHeld => ?_)
        clear hK K
        (try simp only [stp, List.set])
        refine tkZ 13 ?_ ?_ ?_
        rotate_left
        · exact rn
        (try simp only [stp, List.set])
        refine wpAnyZ_last (i := 14) rfl (by kernel_rfl) (by kernel_rfl) (fun K hK => ?_)
        have HW : Below w.heap.size w w1 := Below.trans (by go_grown) (((HBc.trans (HB1.mono (by omega)))).mono (Nat.le_succ _))
        have oL := h.below HW
        have c0 : w1.cell? ⟨gb, t * 2, none⟩ = some (.int .i64 s.vars[t].k) := by rw [HW.cell (by simpa using hg2)]; exact kt0
        have c1' : w1.cell? ⟨gb, t * 2 + 1, none⟩ = some (.int .i64 s.vars[t].n) := by rw [HW.cell (by simpa using hg2)]; exact kt1
        have d0 : w1.frozen? ⟨gb, t * 2, none⟩ = false := by rw [HW.frozen (by simpa using hg2)]; exact f0
        have d1 : w1.frozen? ⟨gb, t * 2 + 1, none⟩ = false := by rw [HW.frozen (by simpa using hg2)]; exact f1
        go_simp
        refine hK.out _ _ ?_
        clear hK K
        (try simp only [stp, List.set])
        refine wpAnyZ_done (by kernel_rfl) ?_ _
        go_wp2
        go_ret
        have HY := reckon_yes a1 b1 s t 6
        rw [show reckoned 6 s.vars[x] s.vars[y] = ⟨1, wr (s.vars[x].n - s.vars[y].n)⟩ from rfl] at HY
        rw [HY.1, HY.2]
        refine ⟨rfl, ?_⟩
        exact ⟨⟨_, _, _, _, oL.put t ht ⟨1, wr (s.vars[x].n - s.vars[y].n)⟩⟩, ((HW.mono hB).setCell hg1 _).setCell hg1 _, fun j _ => by rw [cell_set2 _ _ _ _ _ _ _ _ am]; exact HW.cell hm, frame_put HW (by simp [ownBlocks, Value.ownBlock]) _ _ _ _⟩
      · have KZ : ∀ wx, Below wc.heap.size wc wx → wx.cell? ⟨m, 1, none⟩ = some (.slice (some ⟨gb, 0, none⟩) s.vars.length cap) ∧ wx.cell? ⟨w.heap.size, 1, none⟩ = some (.int .i64 t) ∧ wx.cell? ⟨ba, 1, none⟩ = some (.int .i64 s.vars[x].n) ∧ wx.cell? ⟨bb, 1, none⟩ = some (.int .i64 s.vars[y].n) := fun wx hx => ⟨by rw [hx.cell (by simp; omega)]; exact c1, by rw [hx.cell (by simp; omega)]; exact c2, by rw [hx.cell (by simpa using VA.2.1)]; exact VA.1.2, by rw [hx.cell (by simpa using VB.2.1)]; exact VB.1.2⟩
        go_wp2
        refine wp_region_z (S := (fun wx => wx.cell? ⟨m, 1, none⟩ = some (.slice (some ⟨gb, 0, none⟩) s.vars.length cap) ∧ wx.cell? ⟨w.heap.size, 1, none⟩ = some (.int .i64 t) ∧ wx.cell? ⟨ba, 1, none⟩ = some (.int .i64 s.vars[x].n) ∧ wx.cell? ⟨bb, 1, none⟩ = some (.int .i64 s.vars[y].n))) [14] (by kernel_rfl) (KZ _ (Below.refl _ _).drew) (fun hHeld => ?_)
        refine tkZ 0 ?_ ?_ ?_
        rotate_left
        · exact rn
        (try simp only [stp, List.set])
        refine tkZ 1 ?_ ?_ ?_
        rotate_left
        · exact rn
        (try simp only [stp, List.set])
        refine tkZ 2 ?_ ?_ ?_
        rotate_left
        · exact rn
        (try simp only [stp, List.set])
        refine tkZ 3 ?_ ?_ ?_
        rotate_left
        · exact rn
        (try simp only [stp, List.set])
        refine tkZ 4 ?_ ?_ ?_
        rotate_left
        · exact rn
        (try simp only [stp, List.set])
        refine tkZ 5 ?_ ?_ ?_
        rotate_left
        · exact rn
        (try simp only [stp, List.set])
        refine tkZ 6 ?_ ?_ ?_
        rotate_left
        · exact rn
        (try simp only [stp, List.set])
        refine tkZ 7 ?_ ?_ ?_
        rotate_left
        · exact rn
        (try simp only [stp, List.set])
        refine tkZ 8 ?_ ?_ ?_
        rotate_left
        · exact rn
        (try simp only [stp, List.set])
        refine tkZ 9 ?_ ?_ ?_
        rotate_left
        · exact rn
        (try simp only [stp, List.set])
        refine tkZ 10 ?_ ?_ ?_
        rotate_left
        · exact rn
        (try simp only [stp, List.set])
        refine tkZ 11 ?_ ?_ ?_
        rotate_left
        · exact rn
        (try simp only [stp, List.set])
        refine wpAnyZ_one (i := 12) rfl (by kernel_rfl) (fun K hK => ?_)
        go_simp
        go_at_call 95
        refine (number_any _ _).mono ?_
        rintro e w1 ⟨rfl, hb1⟩
        simp only [wr_wrap, wr_wrapK]
        have HB1 : Below wc.heap.size wc w1 := Below.trans (Below.refl _ _).drew hb1
        go_wp2_with fail
        refine hK.out _ _ (KZ _ HB1) (fun hHeld => ?_)
        clear hK K
        (try simp only [stp, List.set])
        refine tkZ 13 ?_ ?_ ?_
        rotate_left
        · exact rn
        (try simp only [stp, List.set])
        refine wpAnyZ_last (i := 14) rfl (by kernel_rfl) (by kernel_rfl) (fun K hK => ?_)
        have HW : Below w.heap.size w w1 := Below.trans (by go_grown) (((HBc.trans (HB1.mono (by omega)))).mono (Nat.le_succ _))
        have oL := h.below HW
        have c0 : w1.cell? ⟨gb, t * 2, none⟩ = some (.int .i64 s.vars[t].k) := by rw [HW.cell (by simpa using hg2)]; exact kt0
        have c1' : w1.cell? ⟨gb, t * 2 + 1, none⟩ = some (.int .i64 s.vars[t].n) := by rw [HW.cell (by simpa using hg2)]; exact kt1
        have d0 : w1.frozen? ⟨gb, t * 2, none⟩ = false := by rw [HW.frozen (by simpa using hg2)]; exact f0
        have d1 : w1.frozen? ⟨gb, t * 2 + 1, none⟩ = false := by rw [HW.frozen (by simpa using hg2)]; exact f1
        go_simp
        refine hK.out _ _ ?_
        clear hK K
        (try simp only [stp, List.set])
        refine wpAnyZ_done (by kernel_rfl) ?_ _
        go_wp2
        go_ret
        have HY := reckon_yes a1 b1 s t 7
        rw [show reckoned 7 s.vars[x] s.vars[y] = ⟨1, wr (s.vars[x].n * s.vars[y].n)⟩ from rfl] at HY
        rw [HY.1, HY.2]
        refine ⟨rfl, ?_⟩
        exact ⟨⟨_, _, _, _, oL.put t ht ⟨1, wr (s.vars[x].n * s.vars[y].n)⟩⟩, ((HW.mono hB).setCell hg1 _).setCell hg1 _, fun j _ => by rw [cell_set2 _ _ _ _ _ _ _ _ am]; exact HW.cell hm, frame_put HW (by simp [ownBlocks, Value.ownBlock]) _ _ _ _⟩
      · have KZ : ∀ wx, Below wc.heap.size wc wx → wx.cell? ⟨m, 1, none⟩ = some (.slice (some ⟨gb, 0, none⟩) s.vars.length cap) ∧ wx.cell? ⟨w.heap.size, 1, none⟩ = some (.int .i64 t) ∧ wx.cell? ⟨ba, 1, none⟩ = some (.int .i64 s.vars[x].n) ∧ wx.cell? ⟨bb, 1, none⟩ = some (.int .i64 s.vars[y].n) := fun wx hx => ⟨by rw [hx.cell (by simp; omega)]; exact c1, by rw [hx.cell (by simp; omega)]; exact c2, by rw [hx.cell (by simpa using VA.2.1)]; exact VA.1.2, by rw [hx.cell (by simpa using VB.2.1)]; exact VB.1.2⟩
        go_wp2
        refine wp_region_z (S := (fun wx => wx.cell? ⟨m, 1, none⟩ = some (.slice (some ⟨gb, 0, none⟩) s.vars.length cap) ∧ wx.cell? ⟨w.heap.size, 1, none⟩ = some (.int .i64 t) ∧ wx.cell? ⟨ba, 1, none⟩ = some (.int .i64 s.vars[x].n) ∧ wx.cell? ⟨bb, 1, none⟩ = some (.int .i64 s.vars[y].n))) [14] (by kernel_rfl) (KZ _ (Below.refl _ _).drew) (fun hHeld => ?_)
        refine tkZ 0 ?_ ?_ ?_
        rotate_left
        · exact rn
        (try simp only [stp, List.set])
        refine tkZ 1 ?_ ?_ ?_
        rotate_left
        · exact rn
        (try simp only [stp, List.set])
        refine tkZ 2 ?_ ?_ ?_
        rotate_left
        · exact rn
        (try simp only [stp, List.set])
        refine tkZ 3 ?_ ?_ ?_
        rotate_left
        · exact rn
        (try simp only [stp, List.set])
        refine tkZ 4 ?_ ?_ ?_
        rotate_left
        · exact rn
        (try simp only [stp, List.set])
        refine tkZ 5 ?_ ?_ ?_
        rotate_left
        · exact rn
        (try simp only [stp, List.set])
        refine tkZ 6 ?_ ?_ ?_
        rotate_left
        · exact rn
        (try simp only [stp, List.set])
        refine tkZ 7 ?_ ?_ ?_
        rotate_left
        · exact rn
        (try simp only [stp, List.set])
        refine tkZ 8 ?_ ?_ ?_
        rotate_left
        · exact rn
        (try simp only [stp, List.set])
        refine tkZ 9 ?_ ?_ ?_
        rotate_left
        · exact rn
        (try simp only [stp, List.set])
        refine tkZ 10 ?_ ?_ ?_
        rotate_left
        · exact rn
        (try simp only [stp, List.set])
        refine wpAnyZ_take (i := 11) (v := .bool (decide (s.vars[x].n < s.vars[y].n))) rfl (by kernel_rfl) (by kernel_rfl) (by kernel_rfl) (fun _ _ _ h => h) (Or.inl ⟨?_, ?_⟩) (by assumption) ?_
        · rfl
        · intro w hSw
          (try dsimp only at hSw)
          go_simp
        (try simp only [stp, List.set])
        refine wpAnyZ_one (i := 12) rfl (by kernel_rfl) (fun K hK => ?_)
        go_simp
        go_at_call 96
        refine (truth_any _ _).mono ?_
        rintro e w1 ⟨rfl, hb1⟩

        have HB1 : Below wc.heap.size wc w1 := Below.trans (Below.refl _ _).drew hb1
        go_wp2_with fail
        refine hK.out _ _ (KZ _ HB1) (fun hHeld => ?_)
        clear hK K
        (try simp only [stp, List.set])
        refine tkZ 13 ?_ ?_ ?_
        rotate_left
        · exact rn
        (try simp only [stp, List.set])
        refine wpAnyZ_last (i := 14) rfl (by kernel_rfl) (by kernel_rfl) (fun K hK => ?_)
        have HW : Below w.heap.size w w1 := Below.trans (by go_grown) (((HBc.trans (HB1.mono (by omega)))).mono (Nat.le_succ _))
        have oL := h.below HW
        have c0 : w1.cell? ⟨gb, t * 2, none⟩ = some (.int .i64 s.vars[t].k) := by rw [HW.cell (by simpa using hg2)]; exact kt0
        have c1' : w1.cell? ⟨gb, t * 2 + 1, none⟩ = some (.int .i64 s.vars[t].n) := by rw [HW.cell (by simpa using hg2)]; exact kt1
        have d0 : w1.frozen? ⟨gb, t * 2, none⟩ = false := by rw [HW.frozen (by simpa using hg2)]; exact f0
        have d1 : w1.frozen? ⟨gb, t * 2 + 1, none⟩ = false := by rw [HW.frozen (by simpa using hg2)]; exact f1
        go_simp
        refine hK.out _ _ ?_
        clear hK K
        (try simp only [stp, List.set])
        refine wpAnyZ_done (by kernel_rfl) ?_ _
        go_wp2
        go_ret
        have HY := reckon_yes a1 b1 s t 8
        rw [show reckoned 8 s.vars[x] s.vars[y] = (truV (decide (s.vars[x].n < s.vars[y].n))) from rfl] at HY
        rw [HY.1, HY.2]
        refine ⟨rfl, ?_⟩
        exact ⟨⟨_, _, _, _, oL.put t ht (truV (decide (s.vars[x].n < s.vars[y].n)))⟩, ((HW.mono hB).setCell hg1 _).setCell hg1 _, fun j _ => by rw [cell_set2 _ _ _ _ _ _ _ _ am]; exact HW.cell hm, frame_put HW (by simp [ownBlocks, Value.ownBlock]) _ _ _ _⟩
    · have b1' : (s.vars[y].k != 1) = true := by simpa using b1
      rw [a1] at va0
      have HX := hideK (And.intro (h.below (Below.trans (by go_grown) (HBc.mono (Nat.le_succ _)) : Below w.heap.size w wc)) (Below.trans (by go_grown) (HBc.mono (Nat.le_succ _)) : Below w.heap.size w wc))
      clear h
      go_wp2
      go_ret
      rw [(reckon_no (.inr b1) s t k).1, (reckon_no (.inr b1) s t k).2]
      refine ⟨rfl, ?_⟩
      exact ⟨⟨_, _, _, _, HX.out.1⟩, HX.out.2.mono hB, fun j _ => HX.out.2.cell hm, frame_same HX.out.2⟩
  · have a1' : (s.vars[x].k != 1) = true := by simpa using a1
    have HX := hideK (And.intro (h.below (Below.trans (by go_grown) (HBc.mono (Nat.le_succ _)) : Below w.heap.size w wc)) (Below.trans (by go_grown) (HBc.mono (Nat.le_succ _)) : Below w.heap.size w wc))
    clear h
    go_wp2
    go_ret
    rw [(reckon_no (.inl a1) s t k).1, (reckon_no (.inl a1) s t k).2]
    refine ⟨rfl, ?_⟩
    exact ⟨⟨_, _, _, _, HX.out.1⟩, HX.out.2.mono hB, fun j _ => HX.out.2.cell hm, frame_same HX.out.2⟩
end Go.Proofs.YtmapdpcfanecdaaDoor
