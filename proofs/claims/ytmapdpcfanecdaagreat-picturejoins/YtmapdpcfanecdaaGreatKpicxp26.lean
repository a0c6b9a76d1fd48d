/- Walks over package guess: Truth, Holds. -/
import Derived.Test.YtmapdpcfanecdaaGreatKpicxp25
namespace Go.Proofs.YtmapdpcfanecdaaGreat
set_option linter.unusedVariables false
set_option linter.unusedSimpArgs false
open Go.RowKit

theorem ckAllG_one {V F : Int} {c : List Ins} {g : Gs} (hk : ckAllG V F c [g] = 0) : ckProg V F c = 0 ∧ ckGs c g = 0 := by
  unfold ckAllG at hk
  by_cases h0 : ckProg V F c = 0
  · rw [if_pos h0] at hk
    have e : ckGss c [g] = if ckGs c g = 0 then 0 else ckGs c g := rfl
    rw [e] at hk
    by_cases hg : ckGs c g = 0
    · exact ⟨h0, hg⟩
    · rw [if_neg hg] at hk; exact absurd hk hg
  · rw [if_neg h0] at hk; exact absurd hk h0
theorem ckGs_sp {c : List Ins} {g : Gs} (h : ckGs c g = 0) : ckSp g.sp = 0 := by
  unfold ckGs at h
  split at h
  · assumption
  · rename_i hn; exact Decidable.not_not.1 hn
theorem pgW_at (w : World) (V F : Int) (s : Option Addr) (c : List Ins) (cap : Nat) (g : Gs) (ss : Option Addr) (gc : Nat) : GuAt (pgW w V F s c cap g ss gc) (w.heap.size + 1) 0 g ss gc ∧ Below w.heap.size w (pgW w V F s c cap g ss gc) := by
  refine ⟨?_, by go_grown⟩
  have := GuAt.new (w.alloc (.cells #[.int .i64 V, .int .i64 F, .slice s c.length cap] 24)) g ss gc
  rw [World.size_alloc] at this
  exact this

set_option maxHeartbeats 2000000 in
set_option maxRecDepth 10000 in
theorem holdsG_err (V F : Int) (s : Option Addr) (c : List Ins) (cap : Nat) (g : Gs) (ss : Option Addr) (gc : Nat) (vk vn site : Int) (w : World) (hcd : CodeAt w s c) (hs : IntsAt w ss g.s) (h1 : g.s.length ≤ gc) (h2 : gc ≤ maxLen) (hck : ckAllG V F c [g] ≠ 0) :
    Calls Tryz.prog 10 #[pv V F s c cap, gv g ss gc, .agg #[.int .i64 vk, .int .i64 vn], .int .i64 site] w fun e w' => e = .returned (.tuple #[.bool (false), .int .i64 (ckAllG V F c [g])]) ∧ Below w.heap.size w w' := by
  obtain ⟨G00, B00⟩ := pgW_at w V F s c cap g ss gc
  have G0 := G00.alloc (.cells #[.int .i64 vk, .int .i64 vn] 31)
  have B0 := B00.alloc B00.size (.cells #[.int .i64 vk, .int .i64 vn] 31)
  have I0 := (hs.below B00 (Nat.le_refl _)).alloc (.cells #[.int .i64 vk, .int .i64 vn] 31)
  have L0 := GsAt.new1 _ g ss gc I0 h1 h2
  simp only [World.size_alloc] at L0
  have v0 : ((pgW w V F s c cap g ss gc).alloc (.cells #[.int .i64 vk, .int .i64 vn] 31)).cell? ⟨w.heap.size + 1 + 1, 0, none⟩ = some (.int .i64 vk) := by simp [go_sem]
  have v1 : ((pgW w V F s c cap g ss gc).alloc (.cells #[.int .i64 vk, .int .i64 vn] 31)).cell? ⟨w.heap.size + 1 + 1, 1, none⟩ = some (.int .i64 vn) := by simp [go_sem]
  have HC := hideH (checkAllG_any V F s c cap (some ⟨w.heap.size + 1 + 1 + 1, 0, none⟩) [g] 1 _ (((hcd.below B00 (Nat.le_refl _)).alloc _).alloc _) L0 (by simp))
  have hne : (ckAllG V F c [g] != 0) = true := by simpa using hck
  generalize ckAllG V F c [g] = ce at HC hne ⊢
  clear hck
  clear hcd hs L0 G00 B00
  go_enter Tryz.func10, Tryz.ntmps10
  go_wp2_with (go_at_call 40; fail)
  refine HC.out.mono ?_
  rintro e w1 ⟨rfl, hb1⟩
  have G1 := (G0.alloc _).call hb1
  have I1 := (I0.alloc _).call hb1
  have B1 : Below w.heap.size w w1 := (B0.alloc B0.size _).trans (hb1.mono (by simp; omega))
  have u0 : w1.cell? ⟨w.heap.size + 1 + 1, 0, none⟩ = some (.int .i64 vk) := by
    rw [hb1.cell (by simp), World.cell?_alloc_old _ _ _ (by simp)]; exact v0
  have u1 : w1.cell? ⟨w.heap.size + 1 + 1, 1, none⟩ = some (.int .i64 vn) := by
    rw [hb1.cell (by simp), World.cell?_alloc_old _ _ _ (by simp)]; exact v1
  have uz : w.heap.size + 1 + 1 < w1.heap.size := by have := hb1.size; simp at this; omega
  clear hb1 HC G0 I0 B0 v0 v1
  obtain ⟨⟨g0, g1, g2, g3, g4, g5, g6⟩, gz⟩ := id G1
  simp only [Nat.zero_add] at g0 g1 g2 g3 g4 g5 g6
  go_wp2
  go_ret2
  exact ⟨rfl, B1⟩

set_option maxHeartbeats 2000000 in
set_option maxRecDepth 10000 in
theorem holdsG_null (V F : Int) (s : Option Addr) (c : List Ins) (cap : Nat) (g : Gs) (ss : Option Addr) (gc : Nat) (vn site : Int) (w : World) (hcd : CodeAt w s c) (hs : IntsAt w ss g.s) (h1 : g.s.length ≤ gc) (h2 : gc ≤ maxLen) (hck : ckAllG V F c [g] = 0) :
    Calls Tryz.prog 10 #[pv V F s c cap, gv g ss gc, .agg #[.int .i64 0, .int .i64 vn], .int .i64 site] w fun e w' => e = .returned (.tuple #[.bool (g.n), .int .i64 0]) ∧ Below w.heap.size w w' := by
  obtain ⟨G00, B00⟩ := pgW_at w V F s c cap g ss gc
  have G0 := G00.alloc (.cells #[.int .i64 0, .int .i64 vn] 31)
  have B0 := B00.alloc B00.size (.cells #[.int .i64 0, .int .i64 vn] 31)
  have I0 := (hs.below B00 (Nat.le_refl _)).alloc (.cells #[.int .i64 0, .int .i64 vn] 31)
  have L0 := GsAt.new1 _ g ss gc I0 h1 h2
  simp only [World.size_alloc] at L0
  have v0 : ((pgW w V F s c cap g ss gc).alloc (.cells #[.int .i64 0, .int .i64 vn] 31)).cell? ⟨w.heap.size + 1 + 1, 0, none⟩ = some (.int .i64 0) := by simp [go_sem]
  have v1 : ((pgW w V F s c cap g ss gc).alloc (.cells #[.int .i64 0, .int .i64 vn] 31)).cell? ⟨w.heap.size + 1 + 1, 1, none⟩ = some (.int .i64 vn) := by simp [go_sem]
  have HC := hideH (checkAllG_any V F s c cap (some ⟨w.heap.size + 1 + 1 + 1, 0, none⟩) [g] 1 _ (((hcd.below B00 (Nat.le_refl _)).alloc _).alloc _) L0 (by simp))
  rw [hck] at HC
  clear hcd hs L0 G00 B00
  go_enter Tryz.func10, Tryz.ntmps10
  go_wp2_with (go_at_call 40; fail)
  refine HC.out.mono ?_
  rintro e w1 ⟨rfl, hb1⟩
  have G1 := (G0.alloc _).call hb1
  have I1 := (I0.alloc _).call hb1
  have B1 : Below w.heap.size w w1 := (B0.alloc B0.size _).trans (hb1.mono (by simp; omega))
  have u0 : w1.cell? ⟨w.heap.size + 1 + 1, 0, none⟩ = some (.int .i64 0) := by
    rw [hb1.cell (by simp), World.cell?_alloc_old _ _ _ (by simp)]; exact v0
  have u1 : w1.cell? ⟨w.heap.size + 1 + 1, 1, none⟩ = some (.int .i64 vn) := by
    rw [hb1.cell (by simp), World.cell?_alloc_old _ _ _ (by simp)]; exact v1
  have uz : w.heap.size + 1 + 1 < w1.heap.size := by have := hb1.size; simp at this; omega
  clear hb1 HC G0 I0 B0 v0 v1
  obtain ⟨⟨g0, g1, g2, g3, g4, g5, g6⟩, gz⟩ := id G1
  simp only [Nat.zero_add] at g0 g1 g2 g3 g4 g5 g6
  go_wp2
  go_ret2
  exact ⟨rfl, B1⟩

set_option maxHeartbeats 2000000 in
set_option maxRecDepth 10000 in
theorem holdsG_num (V F : Int) (s : Option Addr) (c : List Ins) (cap : Nat) (g : Gs) (ss : Option Addr) (gc : Nat) (vn site : Int) (w : World) (hcd : CodeAt w s c) (hs : IntsAt w ss g.s) (h1 : g.s.length ≤ gc) (h2 : gc ≤ maxLen) (hck : ckAllG V F c [g] = 0) :
    Calls Tryz.prog 10 #[pv V F s c cap, gv g ss gc, .agg #[.int .i64 1, .int .i64 vn], .int .i64 site] w fun e w' => e = .returned (.tuple #[.bool (g.sp.has vn), .int .i64 0]) ∧ Below w.heap.size w w' := by
  obtain ⟨G00, B00⟩ := pgW_at w V F s c cap g ss gc
  have G0 := G00.alloc (.cells #[.int .i64 1, .int .i64 vn] 31)
  have B0 := B00.alloc B00.size (.cells #[.int .i64 1, .int .i64 vn] 31)
  have I0 := (hs.below B00 (Nat.le_refl _)).alloc (.cells #[.int .i64 1, .int .i64 vn] 31)
  have L0 := GsAt.new1 _ g ss gc I0 h1 h2
  simp only [World.size_alloc] at L0
  have v0 : ((pgW w V F s c cap g ss gc).alloc (.cells #[.int .i64 1, .int .i64 vn] 31)).cell? ⟨w.heap.size + 1 + 1, 0, none⟩ = some (.int .i64 1) := by simp [go_sem]
  have v1 : ((pgW w V F s c cap g ss gc).alloc (.cells #[.int .i64 1, .int .i64 vn] 31)).cell? ⟨w.heap.size + 1 + 1, 1, none⟩ = some (.int .i64 vn) := by simp [go_sem]
  have HC := hideH (checkAllG_any V F s c cap (some ⟨w.heap.size + 1 + 1 + 1, 0, none⟩) [g] 1 _ (((hcd.below B00 (Nat.le_refl _)).alloc _).alloc _) L0 (by simp))
  have hH := fun w => has_any g.sp vn w
  rw [ckGs_sp (ckAllG_one hck).2, show (decide ((0 : Int) = 0) && g.sp.has vn) = g.sp.has vn from rfl] at hH
  have HH := hideH hH
  clear hH
  generalize g.sp.has vn = r at HH ⊢
  rw [hck] at HC
  clear hcd hs L0 G00 B00
  go_enter Tryz.func10, Tryz.ntmps10
  go_wp2_with (go_at_call 40; fail)
  refine HC.out.mono ?_
  rintro e w1 ⟨rfl, hb1⟩
  have G1 := (G0.alloc _).call hb1
  have I1 := (I0.alloc _).call hb1
  have B1 : Below w.heap.size w w1 := (B0.alloc B0.size _).trans (hb1.mono (by simp; omega))
  have u0 : w1.cell? ⟨w.heap.size + 1 + 1, 0, none⟩ = some (.int .i64 1) := by
    rw [hb1.cell (by simp), World.cell?_alloc_old _ _ _ (by simp)]; exact v0
  have u1 : w1.cell? ⟨w.heap.size + 1 + 1, 1, none⟩ = some (.int .i64 vn) := by
    rw [hb1.cell (by simp), World.cell?_alloc_old _ _ _ (by simp)]; exact v1
  have uz : w.heap.size + 1 + 1 < w1.heap.size := by have := hb1.size; simp at this; omega
  clear hb1 HC G0 I0 B0 v0 v1
  obtain ⟨⟨g0, g1, g2, g3, g4, g5, g6⟩, gz⟩ := id G1
  simp only [Nat.zero_add] at g0 g1 g2 g3 g4 g5 g6
  go_wp2_with (go_at_call 45; fail)
  refine (HH.out _).mono ?_
  rintro e w2 ⟨rfl, hb2⟩
  go_wp2
  go_ret2
  exact ⟨rfl, B1.trans (hb2.mono B1.size)⟩

set_option maxHeartbeats 2000000 in
set_option maxRecDepth 10000 in
theorem holdsG_truth (V F : Int) (s : Option Addr) (c : List Ins) (cap : Nat) (g : Gs) (ss : Option Addr) (gc : Nat) (vn site : Int) (w : World) (hcd : CodeAt w s c) (hs : IntsAt w ss g.s) (h1 : g.s.length ≤ gc) (h2 : gc ≤ maxLen) (hck : ckAllG V F c [g] = 0) :
    Calls Tryz.prog 10 #[pv V F s c cap, gv g ss gc, .agg #[.int .i64 2, .int .i64 vn], .int .i64 site] w fun e w' => e = .returned (.tuple #[.bool ((g.t && decide (vn = 1)) || (g.f && decide (vn = 0))), .int .i64 0]) ∧ Below w.heap.size w w' := by
  obtain ⟨G00, B00⟩ := pgW_at w V F s c cap g ss gc
  have G0 := G00.alloc (.cells #[.int .i64 2, .int .i64 vn] 31)
  have B0 := B00.alloc B00.size (.cells #[.int .i64 2, .int .i64 vn] 31)
  have I0 := (hs.below B00 (Nat.le_refl _)).alloc (.cells #[.int .i64 2, .int .i64 vn] 31)
  have L0 := GsAt.new1 _ g ss gc I0 h1 h2
  simp only [World.size_alloc] at L0
  have v0 : ((pgW w V F s c cap g ss gc).alloc (.cells #[.int .i64 2, .int .i64 vn] 31)).cell? ⟨w.heap.size + 1 + 1, 0, none⟩ = some (.int .i64 2) := by simp [go_sem]
  have v1 : ((pgW w V F s c cap g ss gc).alloc (.cells #[.int .i64 2, .int .i64 vn] 31)).cell? ⟨w.heap.size + 1 + 1, 1, none⟩ = some (.int .i64 vn) := by simp [go_sem]
  have HC := hideH (checkAllG_any V F s c cap (some ⟨w.heap.size + 1 + 1 + 1, 0, none⟩) [g] 1 _ (((hcd.below B00 (Nat.le_refl _)).alloc _).alloc _) L0 (by simp))
  rw [hck] at HC
  have HR : Hid (((g.t && decide (vn = 1)) || (g.f && decide (vn = 0))) = ((g.t && decide (vn = 1)) || (g.f && decide (vn = 0)))) := rfl
  generalize hr : ((g.t && decide (vn = 1)) || (g.f && decide (vn = 0))) = r at HR ⊢
  have HR2 := hideH hr
  clear hr HR
  clear hcd hs L0 G00 B00
  go_enter Tryz.func10, Tryz.ntmps10
  go_wp2_with (go_at_call 40; fail)
  refine HC.out.mono ?_
  rintro e w1 ⟨rfl, hb1⟩
  have G1 := (G0.alloc _).call hb1
  have I1 := (I0.alloc _).call hb1
  have B1 : Below w.heap.size w w1 := (B0.alloc B0.size _).trans (hb1.mono (by simp; omega))
  have u0 : w1.cell? ⟨w.heap.size + 1 + 1, 0, none⟩ = some (.int .i64 2) := by
    rw [hb1.cell (by simp), World.cell?_alloc_old _ _ _ (by simp)]; exact v0
  have u1 : w1.cell? ⟨w.heap.size + 1 + 1, 1, none⟩ = some (.int .i64 vn) := by
    rw [hb1.cell (by simp), World.cell?_alloc_old _ _ _ (by simp)]; exact v1
  have uz : w.heap.size + 1 + 1 < w1.heap.size := by have := hb1.size; simp at this; omega
  clear hb1 HC G0 I0 B0 v0 v1
  obtain ⟨⟨g0, g1, g2, g3, g4, g5, g6⟩, gz⟩ := id G1
  simp only [Nat.zero_add] at g0 g1 g2 g3 g4 g5 g6
  obtain ⟨n, sp, t, f, sl⟩ := g
  cases t
  · cases f
    · go_wp2
      go_ret2
      exact ⟨ret_t2i (by rw [← HR2.out]; rfl) rfl, B1⟩
    · by_cases hv : vn = 0
      · subst hv
        go_wp2
        go_ret2
        exact ⟨ret_t2i (by rw [← HR2.out]; rfl) rfl, B1⟩
      · have hv' : (vn == 0) = false := by simpa using hv
        go_wp2
        go_ret2
        exact ⟨ret_t2i (by rw [← HR2.out]; simp [hv]) rfl, B1⟩
  · by_cases hv : vn = 1
    · subst hv
      go_wp2
      go_ret2
      exact ⟨ret_t2i (by rw [← HR2.out]; simp) rfl, B1⟩
    · have hv' : (vn == 1) = false := by simpa using hv
      cases f
      · go_wp2
        go_ret2
        exact ⟨ret_t2i (by rw [← HR2.out]; simp [hv]) rfl, B1⟩
      · by_cases hz : vn = 0
        · subst hz
          go_wp2
          go_ret2
          exact ⟨ret_t2i (by rw [← HR2.out]; rfl) rfl, B1⟩
        · have hz' : (vn == 0) = false := by simpa using hz
          go_wp2
          go_ret2
          exact ⟨ret_t2i (by rw [← HR2.out]; simp [hv, hz]) rfl, B1⟩

set_option maxHeartbeats 2000000 in
set_option maxRecDepth 10000 in
theorem holdsG_thing (V F : Int) (s : Option Addr) (c : List Ins) (cap : Nat) (g : Gs) (ss : Option Addr) (gc : Nat) (vn site : Int) (w : World) (hcd : CodeAt w s c) (hs : IntsAt w ss g.s) (h1 : g.s.length ≤ gc) (h2 : gc ≤ maxLen) (hck : ckAllG V F c [g] = 0) :
    Calls Tryz.prog 10 #[pv V F s c cap, gv g ss gc, .agg #[.int .i64 3, .int .i64 vn], .int .i64 site] w fun e w' => e = .returned (.tuple #[.bool (g.s.contains site), .int .i64 0]) ∧ Below w.heap.size w w' := by
  obtain ⟨G00, B00⟩ := pgW_at w V F s c cap g ss gc
  have G0 := G00.alloc (.cells #[.int .i64 3, .int .i64 vn] 31)
  have B0 := B00.alloc B00.size (.cells #[.int .i64 3, .int .i64 vn] 31)
  have I0 := (hs.below B00 (Nat.le_refl _)).alloc (.cells #[.int .i64 3, .int .i64 vn] 31)
  have L0 := GsAt.new1 _ g ss gc I0 h1 h2
  simp only [World.size_alloc] at L0
  have v0 : ((pgW w V F s c cap g ss gc).alloc (.cells #[.int .i64 3, .int .i64 vn] 31)).cell? ⟨w.heap.size + 1 + 1, 0, none⟩ = some (.int .i64 3) := by simp [go_sem]
  have v1 : ((pgW w V F s c cap g ss gc).alloc (.cells #[.int .i64 3, .int .i64 vn] 31)).cell? ⟨w.heap.size + 1 + 1, 1, none⟩ = some (.int .i64 vn) := by simp [go_sem]
  have HC := hideH (checkAllG_any V F s c cap (some ⟨w.heap.size + 1 + 1 + 1, 0, none⟩) [g] 1 _ (((hcd.below B00 (Nat.le_refl _)).alloc _).alloc _) L0 (by simp))
  have hgl : g.s.length ≤ 9223372036854775807 := by unfold maxLen at h2; omega
  rw [hck] at HC
  clear hcd hs L0 G00 B00
  go_enter Tryz.func10, Tryz.ntmps10
  go_wp2_with (go_at_call 40; fail)
  refine HC.out.mono ?_
  rintro e w1 ⟨rfl, hb1⟩
  have G1 := (G0.alloc _).call hb1
  have I1 := (I0.alloc _).call hb1
  have B1 : Below w.heap.size w w1 := (B0.alloc B0.size _).trans (hb1.mono (by simp; omega))
  have u0 : w1.cell? ⟨w.heap.size + 1 + 1, 0, none⟩ = some (.int .i64 3) := by
    rw [hb1.cell (by simp), World.cell?_alloc_old _ _ _ (by simp)]; exact v0
  have u1 : w1.cell? ⟨w.heap.size + 1 + 1, 1, none⟩ = some (.int .i64 vn) := by
    rw [hb1.cell (by simp), World.cell?_alloc_old _ _ _ (by simp)]; exact v1
  have uz : w.heap.size + 1 + 1 < w1.heap.size := by have := hb1.size; simp at this; omega
  clear hb1 HC G0 I0 B0 v0 v1
  obtain ⟨⟨g0, g1, g2, g3, g4, g5, g6⟩, gz⟩ := id G1
  simp only [Nat.zero_add] at g0 g1 g2 g3 g4 g5 g6
  go_wp2_with (go_at_call 42; fail)
  refine (containsI_any site ss gc g.s _ hgl I1).mono ?_
  rintro e w2 ⟨rfl, rfl⟩
  go_wp2
  go_ret2
  exact ⟨ret_t2i (by simp) rfl, B1⟩

set_option maxHeartbeats 2000000 in
set_option maxRecDepth 10000 in
theorem holdsG_kind (V F : Int) (s : Option Addr) (c : List Ins) (cap : Nat) (g : Gs) (ss : Option Addr) (gc : Nat) (vk vn site : Int) (w : World) (hcd : CodeAt w s c) (hs : IntsAt w ss g.s) (h1 : g.s.length ≤ gc) (h2 : gc ≤ maxLen) (hck : ckAllG V F c [g] = 0) (hk0 : (vk == 0) = false) (hk1 : (vk == 1) = false) (hk2 : (vk == 2) = false) (hk3 : (vk == 3) = false) :
    Calls Tryz.prog 10 #[pv V F s c cap, gv g ss gc, .agg #[.int .i64 vk, .int .i64 vn], .int .i64 site] w fun e w' => e = .returned (.tuple #[.bool (false), .int .i64 6]) ∧ Below w.heap.size w w' := by
  obtain ⟨G00, B00⟩ := pgW_at w V F s c cap g ss gc
  have G0 := G00.alloc (.cells #[.int .i64 vk, .int .i64 vn] 31)
  have B0 := B00.alloc B00.size (.cells #[.int .i64 vk, .int .i64 vn] 31)
  have I0 := (hs.below B00 (Nat.le_refl _)).alloc (.cells #[.int .i64 vk, .int .i64 vn] 31)
  have L0 := GsAt.new1 _ g ss gc I0 h1 h2
  simp only [World.size_alloc] at L0
  have v0 : ((pgW w V F s c cap g ss gc).alloc (.cells #[.int .i64 vk, .int .i64 vn] 31)).cell? ⟨w.heap.size + 1 + 1, 0, none⟩ = some (.int .i64 vk) := by simp [go_sem]
  have v1 : ((pgW w V F s c cap g ss gc).alloc (.cells #[.int .i64 vk, .int .i64 vn] 31)).cell? ⟨w.heap.size + 1 + 1, 1, none⟩ = some (.int .i64 vn) := by simp [go_sem]
  have HC := hideH (checkAllG_any V F s c cap (some ⟨w.heap.size + 1 + 1 + 1, 0, none⟩) [g] 1 _ (((hcd.below B00 (Nat.le_refl _)).alloc _).alloc _) L0 (by simp))
  rw [hck] at HC
  clear hcd hs L0 G00 B00
  go_enter Tryz.func10, Tryz.ntmps10
  go_wp2_with (go_at_call 40; fail)
  refine HC.out.mono ?_
  rintro e w1 ⟨rfl, hb1⟩
  have G1 := (G0.alloc _).call hb1
  have I1 := (I0.alloc _).call hb1
  have B1 : Below w.heap.size w w1 := (B0.alloc B0.size _).trans (hb1.mono (by simp; omega))
  have u0 : w1.cell? ⟨w.heap.size + 1 + 1, 0, none⟩ = some (.int .i64 vk) := by
    rw [hb1.cell (by simp), World.cell?_alloc_old _ _ _ (by simp)]; exact v0
  have u1 : w1.cell? ⟨w.heap.size + 1 + 1, 1, none⟩ = some (.int .i64 vn) := by
    rw [hb1.cell (by simp), World.cell?_alloc_old _ _ _ (by simp)]; exact v1
  have uz : w.heap.size + 1 + 1 < w1.heap.size := by have := hb1.size; simp at this; omega
  clear hb1 HC G0 I0 B0 v0 v1
  obtain ⟨⟨g0, g1, g2, g3, g4, g5, g6⟩, gz⟩ := id G1
  simp only [Nat.zero_add] at g0 g1 g2 g3 g4 g5 g6
  go_wp2
  go_ret2
  exact ⟨rfl, B1⟩

end Go.Proofs.YtmapdpcfanecdaaGreat
