/- Walks over package guess: Truth, Holds. -/
import Derived.Test.YtmapdpcfanecdaaGreatKpicyp25
import Derived.Test.YtmapdpcfanecdaaGreatKpicyp26
import Derived.Test.YtmapdpcfanecdaaGreatKpicyp11
import Derived.Test.YtmapdpcfanecdaaGreatKpicyp21
import Derived.Deep.QuietTactic
import Derived.BigQuiet
import Derived.Lib.QuietBelow
namespace Go.Proofs.YtmapdpcfanecdaaGreat
set_option linter.unusedVariables false
set_option linter.unusedSimpArgs false
open Go.RowKit

set_option maxHeartbeats 1000000 in
theorem checkG_any (V F : Int) (s : Option Addr) (c : List Ins) (cap : Nat) (g : Gs) (ss : Option Addr) (gc : Nat) (w : World) (hcd : CodeAt w s c) (hs : IntsAt w ss g.s) (h1 : g.s.length ≤ gc) (h2 : gc ≤ maxLen) :
    Calls Tryz.prog 18 #[pv V F s c cap, gv g ss gc] w fun e w' => e = .returned (.int .i64 (ckAllG V F c [g])) ∧ Below w.heap.size w w' := by
  have B0 : Below w.heap.size w (pgW w V F s c cap g ss gc) := by go_grown
  have L0 := GsAt.new1 (pgW w V F s c cap g ss gc) g ss gc ((hs.alloc _).alloc _) h1 h2
  simp only [World.size_alloc] at L0
  have HC := hideH (checkAllG_any V F s c cap (some ⟨w.heap.size + 1 + 1, 0, none⟩) [g] 1 _ (((hcd.alloc _).alloc _).alloc _) L0 (by simp))
  generalize ckAllG V F c [g] = ce at HC ⊢
  clear hcd hs L0
  go_enter Tryz.func18, Tryz.ntmps18
  go_wp2_with (go_at_call 40; fail)
  refine HC.out.mono ?_
  rintro e w1 ⟨rfl, hb1⟩
  go_wp2
  go_ret
  exact ⟨rfl, (B0.alloc B0.size _).trans (hb1.mono (by simp; omega))⟩

set_option maxHeartbeats 2000000 in
set_option maxRecDepth 10000 in
theorem joinG_ok (V F : Int) (s : Option Addr) (c : List Ins) (cap : Nat) (g : Gs) (ss : Option Addr) (gc : Nat) (h : Gs) (st : Option Addr) (hc : Nat) (w : World)
    (hcd : CodeAt w s c) (hs : IntsAt w ss g.s) (h1 : g.s.length ≤ gc) (h2 : gc ≤ maxLen) (ht : IntsAt w st h.s) (h3 : h.s.length ≤ hc) (h4 : hc ≤ maxLen) (hck : ckAllG V F c [g, h] = 0) (hlen : ([g, h].flatMap Gs.s).length ≤ 1000000) :
    Calls Tryz.prog 7 #[pv V F s c cap, gv g ss gc, gv h st hc] w fun e w' => ∃ v, e = .returned (.tuple #[.agg #[.bool (g.n || h.n), .bool (joinSp g.sp h.sp).n, .int .i64 (joinSp g.sp h.sp).lo, .int .i64 (joinSp g.sp h.sp).hi, .bool (g.t || h.t), .bool (g.f || h.f), v], .int .i64 0]) ∧ w'.ownsRow w.heap.size 3 1 v (sitesOf [g, h]).length ((sitesOf [g, h]).map (.int .i64)) ∧ Below w.heap.size w w' := by
  obtain ⟨P0, G0, H0, R0, F0⟩ := togW_at w V F s c cap g ss gc h st hc
  have B0 := togW_below w V F s c cap g ss gc h st hc
  have C0 : CodeAt (togW w V F s c cap g ss gc h st hc) s c := hcd.below B0 (Nat.le_refl _)
  have I0 : IntsAt (togW w V F s c cap g ss gc h st hc) ss g.s := hs.below B0 (Nat.le_refl _)
  have J0 : IntsAt (togW w V F s c cap g ss gc h st hc) st h.s := ht.below B0 (Nat.le_refl _)
  have HT := hideH (togetherG_join V F s c cap g ss gc h st hc _ C0 I0 h1 h2 J0 h3 h4 hck hlen)
  clear hck hlen hcd hs ht P0 G0 H0 C0 I0 J0
  generalize joinSp g.sp h.sp = J at HT ⊢
  generalize sitesOf [g, h] = T at HT ⊢
  go_enter Tryz.func7, Tryz.ntmps7
  go_wp2_with (go_at_call 37; fail)
  refine HT.out.mono ?_
  rintro e w1 ⟨v, rfl, hown, hb1⟩
  have R1 := R0.call hb1
  have F1 : Fr7 w1 (w.heap.size + 1 + 1 + 1) := F0.call hb1
  have B1 : Below w.heap.size w w1 := B0.trans (hb1.mono B0.size)
  simp only [World.size_alloc] at hown
  have O1 := hown
  obtain ⟨vs, vc, rfl, -, -, -, -⟩ := IntsAt.own hown
  clear hb1 R0 F0 B0 HT hown
  obtain ⟨⟨r0, r1, r2, r3, r4, r5, r6⟩, rz⟩ := id R1
  simp only [Nat.zero_add, zeroG] at r0 r1 r2 r3 r4 r5 r6
  have fz := F1.1
  go_wp2
  refine bodyPost_ret (v := .tuple #[.agg #[.bool (g.n || h.n), .bool J.n, .int .i64 J.lo, .int .i64 J.hi, .bool (g.t || h.t), .bool (g.f || h.f), .slice vs T.length vc], .int .i64 0]) (by simp [results, Tryz.results7, go_sem, r0, r1, r2, r3, r4, r5, r6]) rfl ⟨_, rfl, ?_, ?_⟩
  · exact ownsRow_base (ownsRow_put7 O1 (by omega)) (by omega)
  · exact below_put7 B1 (by omega)

set_option maxHeartbeats 2000000 in
set_option maxRecDepth 10000 in
theorem wideG_ok (V F : Int) (s : Option Addr) (c : List Ins) (cap : Nat) (g : Gs) (ss : Option Addr) (gc : Nat) (h : Gs) (st : Option Addr) (hc : Nat) (w : World)
    (hcd : CodeAt w s c) (hs : IntsAt w ss g.s) (h1 : g.s.length ≤ gc) (h2 : gc ≤ maxLen) (ht : IntsAt w st h.s) (h3 : h.s.length ≤ hc) (h4 : hc ≤ maxLen) (hck : ckAllG V F c [g, h] = 0) (hlen : ([g, h].flatMap Gs.s).length ≤ 1000000) :
    Calls Tryz.prog 8 #[pv V F s c cap, gv g ss gc, gv h st hc] w fun e w' => ∃ v, e = .returned (.tuple #[.agg #[.bool (g.n || h.n), .bool (wideSp g.sp h.sp).n, .int .i64 (wideSp g.sp h.sp).lo, .int .i64 (wideSp g.sp h.sp).hi, .bool (g.t || h.t), .bool (g.f || h.f), v], .int .i64 0]) ∧ w'.ownsRow w.heap.size 3 1 v (sitesOf [g, h]).length ((sitesOf [g, h]).map (.int .i64)) ∧ Below w.heap.size w w' := by
  obtain ⟨P0, G0, H0, R0, F0⟩ := togW_at w V F s c cap g ss gc h st hc
  have B0 := togW_below w V F s c cap g ss gc h st hc
  have C0 : CodeAt (togW w V F s c cap g ss gc h st hc) s c := hcd.below B0 (Nat.le_refl _)
  have I0 : IntsAt (togW w V F s c cap g ss gc h st hc) ss g.s := hs.below B0 (Nat.le_refl _)
  have J0 : IntsAt (togW w V F s c cap g ss gc h st hc) st h.s := ht.below B0 (Nat.le_refl _)
  have HT := hideH (togetherG_wide V F s c cap g ss gc h st hc _ C0 I0 h1 h2 J0 h3 h4 hck hlen)
  clear hck hlen hcd hs ht P0 G0 H0 C0 I0 J0
  generalize wideSp g.sp h.sp = J at HT ⊢
  generalize sitesOf [g, h] = T at HT ⊢
  go_enter Tryz.func8, Tryz.ntmps8
  go_wp2_with (go_at_call 37; fail)
  refine HT.out.mono ?_
  rintro e w1 ⟨v, rfl, hown, hb1⟩
  have R1 := R0.call hb1
  have F1 : Fr7 w1 (w.heap.size + 1 + 1 + 1) := F0.call hb1
  have B1 : Below w.heap.size w w1 := B0.trans (hb1.mono B0.size)
  simp only [World.size_alloc] at hown
  have O1 := hown
  obtain ⟨vs, vc, rfl, -, -, -, -⟩ := IntsAt.own hown
  clear hb1 R0 F0 B0 HT hown
  obtain ⟨⟨r0, r1, r2, r3, r4, r5, r6⟩, rz⟩ := id R1
  simp only [Nat.zero_add, zeroG] at r0 r1 r2 r3 r4 r5 r6
  have fz := F1.1
  go_wp2
  refine bodyPost_ret (v := .tuple #[.agg #[.bool (g.n || h.n), .bool J.n, .int .i64 J.lo, .int .i64 J.hi, .bool (g.t || h.t), .bool (g.f || h.f), .slice vs T.length vc], .int .i64 0]) (by simp [results, Tryz.results8, go_sem, r0, r1, r2, r3, r4, r5, r6]) rfl ⟨_, rfl, ?_, ?_⟩
  · exact ownsRow_base (ownsRow_put7 O1 (by omega)) (by omega)
  · exact below_put7 B1 (by omega)

end Go.Proofs.YtmapdpcfanecdaaGreat

namespace Go.Proofs.YtmapdpcfanecdaaGreat
set_option linter.unusedVariables false
set_option linter.unusedSimpArgs false
open Go.RowKit

/-- The boxes of Within: program, two guesses. -/
abbrev winW (w : World) (V F : Int) (s : Option Addr) (c : List Ins) (cap : Nat) (g : Gs) (ss : Option Addr) (gc : Nat) (h : Gs) (st : Option Addr) (hc : Nat) : World :=
  ((w.alloc (.cells #[.int .i64 V, .int .i64 F, .slice s c.length cap] 24)).alloc (.cells #[.bool g.n, .bool g.sp.n, .int .i64 g.sp.lo, .int .i64 g.sp.hi, .bool g.t, .bool g.f, .slice ss g.s.length gc] 29)).alloc (.cells #[.bool h.n, .bool h.sp.n, .int .i64 h.sp.lo, .int .i64 h.sp.hi, .bool h.t, .bool h.f, .slice st h.s.length hc] 29)
theorem ret_t2i {a c : Bool} {b d : Int} (h : a = c) (h' : b = d) : Ending.returned (.tuple #[.bool a, .int .i64 b]) = .returned (.tuple #[.bool c, .int .i64 d]) := by rw [h, h']
end Go.Proofs.YtmapdpcfanecdaaGreat

namespace Go.Proofs.YtmapdpcfanecdaaGreat
set_option linter.unusedVariables false
set_option linter.unusedSimpArgs false
open Go.RowKit

theorem ckAllG_one {V F : Int} {c : List Ins} {g : Gs} (hk : ckAllG V F c [g] = 0) : ckProg V F c = 0 ∧ ckGs c g = 0 := by
  unfold ckAllG at hk
  by_cases h0 : ckProg V F c = 0
  · rw [if_pos h0] at hk
    have e : ckGss c [g] = if ckGs c g = 0 then 0 else ckGs c g := rfl
    rw [e] at hk
    by_cases hg : ckGs c g = 0
    · exact ⟨h0, hg⟩
    · rw [if_neg hg] at hk; exact absurd hk hg
  · rw [if_neg h0] at hk; exact absurd hk h0
theorem ckGs_sp {c : List Ins} {g : Gs} (h : ckGs c g = 0) : ckSp g.sp = 0 := by
  unfold ckGs at h
  split at h
  · assumption
  · rename_i hn; exact Decidable.not_not.1 hn
theorem pgW_at (w : World) (V F : Int) (s : Option Addr) (c : List Ins) (cap : Nat) (g : Gs) (ss : Option Addr) (gc : Nat) : GuAt (pgW w V F s c cap g ss gc) (w.heap.size + 1) 0 g ss gc ∧ Below w.heap.size w (pgW w V F s c cap g ss gc) := by
  refine ⟨?_, by go_grown⟩
  have := GuAt.new (w.alloc (.cells #[.int .i64 V, .int .i64 F, .slice s c.length cap] 24)) g ss gc
  rw [World.size_alloc] at this
  exact this

set_option maxHeartbeats 2000000 in
set_option maxRecDepth 10000 in
theorem holdsG_err (V F : Int) (s : Option Addr) (c : List Ins) (cap : Nat) (g : Gs) (ss : Option Addr) (gc : Nat) (vk vn site : Int) (w : World) (hcd : CodeAt w s c) (hs : IntsAt w ss g.s) (h1 : g.s.length ≤ gc) (h2 : gc ≤ maxLen) (hck : ckAllG V F c [g] ≠ 0) :
    Calls Tryz.prog 10 #[pv V F s c cap, gv g ss gc, .agg #[.int .i64 vk, .int .i64 vn], .int .i64 site] w fun e w' => e = .returned (.tuple #[.bool (false), .int .i64 (ckAllG V F c [g])]) ∧ Below w.heap.size w w' := by
  obtain ⟨G00, B00⟩ := pgW_at w V F s c cap g ss gc
  have G0 := G00.alloc (.cells #[.int .i64 vk, .int .i64 vn] 31)
  have B0 := B00.alloc B00.size (.cells #[.int .i64 vk, .int .i64 vn] 31)
  have I0 := (hs.below B00 (Nat.le_refl _)).alloc (.cells #[.int .i64 vk, .int .i64 vn] 31)
  have L0 := GsAt.new1 _ g ss gc I0 h1 h2
  simp only [World.size_alloc] at L0
  have v0 : ((pgW w V F s c cap g ss gc).alloc (.cells #[.int .i64 vk, .int .i64 vn] 31)).cell? ⟨w.heap.size + 1 + 1, 0, none⟩ = some (.int .i64 vk) := by simp [go_sem]
  have v1 : ((pgW w V F s c cap g ss gc).alloc (.cells #[.int .i64 vk, .int .i64 vn] 31)).cell? ⟨w.heap.size + 1 + 1, 1, none⟩ = some (.int .i64 vn) := by simp [go_sem]
  have HC := hideH (checkAllG_any V F s c cap (some ⟨w.heap.size + 1 + 1 + 1, 0, none⟩) [g] 1 _ (((hcd.below B00 (Nat.le_refl _)).alloc _).alloc _) L0 (by simp))
  have hne : (ckAllG V F c [g] != 0) = true := by simpa using hck
  generalize ckAllG V F c [g] = ce at HC hne ⊢
  clear hck
  clear hcd hs L0 G00 B00
  go_enter Tryz.func10, Tryz.ntmps10
  go_wp2_with (go_at_call 40; fail)
  refine HC.out.mono ?_
  rintro e w1 ⟨rfl, hb1⟩
  have G1 := (G0.alloc _).call hb1
  have I1 := (I0.alloc _).call hb1
  have B1 : Below w.heap.size w w1 := (B0.alloc B0.size _).trans (hb1.mono (by simp; omega))
  have u0 : w1.cell? ⟨w.heap.size + 1 + 1, 0, none⟩ = some (.int .i64 vk) := by
    rw [hb1.cell (by simp), World.cell?_alloc_old _ _ _ (by simp)]; exact v0
  have u1 : w1.cell? ⟨w.heap.size + 1 + 1, 1, none⟩ = some (.int .i64 vn) := by
    rw [hb1.cell (by simp), World.cell?_alloc_old _ _ _ (by simp)]; exact v1
  have uz : w.heap.size + 1 + 1 < w1.heap.size := by have := hb1.size; simp at this; omega
  clear hb1 HC G0 I0 B0 v0 v1
  obtain ⟨⟨g0, g1, g2, g3, g4, g5, g6⟩, gz⟩ := id G1
  simp only [Nat.zero_add] at g0 g1 g2 g3 g4 g5 g6
  go_wp2
  go_ret2
  exact ⟨rfl, B1⟩

set_option maxHeartbeats 2000000 in
set_option maxRecDepth 10000 in
theorem holdsG_null (V F : Int) (s : Option Addr) (c : List Ins) (cap : Nat) (g : Gs) (ss : Option Addr) (gc : Nat) (vn site : Int) (w : World) (hcd : CodeAt w s c) (hs : IntsAt w ss g.s) (h1 : g.s.length ≤ gc) (h2 : gc ≤ maxLen) (hck : ckAllG V F c [g] = 0) :
    Calls Tryz.prog 10 #[pv V F s c cap, gv g ss gc, .agg #[.int .i64 0, .int .i64 vn], .int .i64 site] w fun e w' => e = .returned (.tuple #[.bool (g.n), .int .i64 0]) ∧ Below w.heap.size w w' := by
  obtain ⟨G00, B00⟩ := pgW_at w V F s c cap g ss gc
  have G0 := G00.alloc (.cells #[.int .i64 0, .int .i64 vn] 31)
  have B0 := B00.alloc B00.size (.cells #[.int .i64 0, .int .i64 vn] 31)
  have I0 := (hs.below B00 (Nat.le_refl _)).alloc (.cells #[.int .i64 0, .int .i64 vn] 31)
  have L0 := GsAt.new1 _ g ss gc I0 h1 h2
  simp only [World.size_alloc] at L0
  have v0 : ((pgW w V F s c cap g ss gc).alloc (.cells #[.int .i64 0, .int .i64 vn] 31)).cell? ⟨w.heap.size + 1 + 1, 0, none⟩ = some (.int .i64 0) := by simp [go_sem]
  have v1 : ((pgW w V F s c cap g ss gc).alloc (.cells #[.int .i64 0, .int .i64 vn] 31)).cell? ⟨w.heap.size + 1 + 1, 1, none⟩ = some (.int .i64 vn) := by simp [go_sem]
  have HC := hideH (checkAllG_any V F s c cap (some ⟨w.heap.size + 1 + 1 + 1, 0, none⟩) [g] 1 _ (((hcd.below B00 (Nat.le_refl _)).alloc _).alloc _) L0 (by simp))
  rw [hck] at HC
  clear hcd hs L0 G00 B00
  go_enter Tryz.func10, Tryz.ntmps10
  go_wp2_with (go_at_call 40; fail)
  refine HC.out.mono ?_
  rintro e w1 ⟨rfl, hb1⟩
  have G1 := (G0.alloc _).call hb1
  have I1 := (I0.alloc _).call hb1
  have B1 : Below w.heap.size w w1 := (B0.alloc B0.size _).trans (hb1.mono (by simp; omega))
  have u0 : w1.cell? ⟨w.heap.size + 1 + 1, 0, none⟩ = some (.int .i64 0) := by
    rw [hb1.cell (by simp), World.cell?_alloc_old _ _ _ (by simp)]; exact v0
  have u1 : w1.cell? ⟨w.heap.size + 1 + 1, 1, none⟩ = some (.int .i64 vn) := by
    rw [hb1.cell (by simp), World.cell?_alloc_old _ _ _ (by simp)]; exact v1
  have uz : w.heap.size + 1 + 1 < w1.heap.size := by have := hb1.size; simp at this; omega
  clear hb1 HC G0 I0 B0 v0 v1
  obtain ⟨⟨g0, g1, g2, g3, g4, g5, g6⟩, gz⟩ := id G1
  simp only [Nat.zero_add] at g0 g1 g2 g3 g4 g5 g6
  go_wp2
  go_ret2
  exact ⟨rfl, B1⟩

set_option maxHeartbeats 2000000 in
set_option maxRecDepth 10000 in
theorem holdsG_num (V F : Int) (s : Option Addr) (c : List Ins) (cap : Nat) (g : Gs) (ss : Option Addr) (gc : Nat) (vn site : Int) (w : World) (hcd : CodeAt w s c) (hs : IntsAt w ss g.s) (h1 : g.s.length ≤ gc) (h2 : gc ≤ maxLen) (hck : ckAllG V F c [g] = 0) :
    Calls Tryz.prog 10 #[pv V F s c cap, gv g ss gc, .agg #[.int .i64 1, .int .i64 vn], .int .i64 site] w fun e w' => e = .returned (.tuple #[.bool (g.sp.has vn), .int .i64 0]) ∧ Below w.heap.size w w' := by
  obtain ⟨G00, B00⟩ := pgW_at w V F s c cap g ss gc
  have G0 := G00.alloc (.cells #[.int .i64 1, .int .i64 vn] 31)
  have B0 := B00.alloc B00.size (.cells #[.int .i64 1, .int .i64 vn] 31)
  have I0 := (hs.below B00 (Nat.le_refl _)).alloc (.cells #[.int .i64 1, .int .i64 vn] 31)
  have L0 := GsAt.new1 _ g ss gc I0 h1 h2
  simp only [World.size_alloc] at L0
  have v0 : ((pgW w V F s c cap g ss gc).alloc (.cells #[.int .i64 1, .int .i64 vn] 31)).cell? ⟨w.heap.size + 1 + 1, 0, none⟩ = some (.int .i64 1) := by simp [go_sem]
  have v1 : ((pgW w V F s c cap g ss gc).alloc (.cells #[.int .i64 1, .int .i64 vn] 31)).cell? ⟨w.heap.size + 1 + 1, 1, none⟩ = some (.int .i64 vn) := by simp [go_sem]
  have HC := hideH (checkAllG_any V F s c cap (some ⟨w.heap.size + 1 + 1 + 1, 0, none⟩) [g] 1 _ (((hcd.below B00 (Nat.le_refl _)).alloc _).alloc _) L0 (by simp))
  have hH := fun w => has_any g.sp vn w
  rw [ckGs_sp (ckAllG_one hck).2, show (decide ((0 : Int) = 0) && g.sp.has vn) = g.sp.has vn from rfl] at hH
  have HH := hideH hH
  clear hH
  generalize g.sp.has vn = r at HH ⊢
  rw [hck] at HC
  clear hcd hs L0 G00 B00
  go_enter Tryz.func10, Tryz.ntmps10
  go_wp2_with (go_at_call 40; fail)
  refine HC.out.mono ?_
  rintro e w1 ⟨rfl, hb1⟩
  have G1 := (G0.alloc _).call hb1
  have I1 := (I0.alloc _).call hb1
  have B1 : Below w.heap.size w w1 := (B0.alloc B0.size _).trans (hb1.mono (by simp; omega))
  have u0 : w1.cell? ⟨w.heap.size + 1 + 1, 0, none⟩ = some (.int .i64 1) := by
    rw [hb1.cell (by simp), World.cell?_alloc_old _ _ _ (by simp)]; exact v0
  have u1 : w1.cell? ⟨w.heap.size + 1 + 1, 1, none⟩ = some (.int .i64 vn) := by
    rw [hb1.cell (by simp), World.cell?_alloc_old _ _ _ (by simp)]; exact v1
  have uz : w.heap.size + 1 + 1 < w1.heap.size := by have := hb1.size; simp at this; omega
  clear hb1 HC G0 I0 B0 v0 v1
  obtain ⟨⟨g0, g1, g2, g3, g4, g5, g6⟩, gz⟩ := id G1
  simp only [Nat.zero_add] at g0 g1 g2 g3 g4 g5 g6
  go_wp2_with (go_at_call 45; fail)
  refine (HH.out _).mono ?_
  rintro e w2 ⟨rfl, hb2⟩
  go_wp2
  go_ret2
  exact ⟨rfl, B1.trans (hb2.mono B1.size)⟩

set_option maxHeartbeats 2000000 in
set_option maxRecDepth 10000 in
theorem holdsG_truth (V F : Int) (s : Option Addr) (c : List Ins) (cap : Nat) (g : Gs) (ss : Option Addr) (gc : Nat) (vn site : Int) (w : World) (hcd : CodeAt w s c) (hs : IntsAt w ss g.s) (h1 : g.s.length ≤ gc) (h2 : gc ≤ maxLen) (hck : ckAllG V F c [g] = 0) :
    Calls Tryz.prog 10 #[pv V F s c cap, gv g ss gc, .agg #[.int .i64 2, .int .i64 vn], .int .i64 site] w fun e w' => e = .returned (.tuple #[.bool ((g.t && decide (vn = 1)) || (g.f && decide (vn = 0))), .int .i64 0]) ∧ Below w.heap.size w w' := by
  obtain ⟨G00, B00⟩ := pgW_at w V F s c cap g ss gc
  have G0 := G00.alloc (.cells #[.int .i64 2, .int .i64 vn] 31)
  have B0 := B00.alloc B00.size (.cells #[.int .i64 2, .int .i64 vn] 31)
  have I0 := (hs.below B00 (Nat.le_refl _)).alloc (.cells #[.int .i64 2, .int .i64 vn] 31)
  have L0 := GsAt.new1 _ g ss gc I0 h1 h2
  simp only [World.size_alloc] at L0
  have v0 : ((pgW w V F s c cap g ss gc).alloc (.cells #[.int .i64 2, .int .i64 vn] 31)).cell? ⟨w.heap.size + 1 + 1, 0, none⟩ = some (.int .i64 2) := by simp [go_sem]
  have v1 : ((pgW w V F s c cap g ss gc).alloc (.cells #[.int .i64 2, .int .i64 vn] 31)).cell? ⟨w.heap.size + 1 + 1, 1, none⟩ = some (.int .i64 vn) := by simp [go_sem]
  have HC := hideH (checkAllG_any V F s c cap (some ⟨w.heap.size + 1 + 1 + 1, 0, none⟩) [g] 1 _ (((hcd.below B00 (Nat.le_refl _)).alloc _).alloc _) L0 (by simp))
  rw [hck] at HC
  have HR : Hid (((g.t && decide (vn = 1)) || (g.f && decide (vn = 0))) = ((g.t && decide (vn = 1)) || (g.f && decide (vn = 0)))) := rfl
  generalize hr : ((g.t && decide (vn = 1)) || (g.f && decide (vn = 0))) = r at HR ⊢
  have HR2 := hideH hr
  clear hr HR
  clear hcd hs L0 G00 B00
  go_enter Tryz.func10, Tryz.ntmps10
  go_wp2_with (go_at_call 40; fail)
  refine HC.out.mono ?_
  rintro e w1 ⟨rfl, hb1⟩
  have G1 := (G0.alloc _).call hb1
  have I1 := (I0.alloc _).call hb1
  have B1 : Below w.heap.size w w1 := (B0.alloc B0.size _).trans (hb1.mono (by simp; omega))
  have u0 : w1.cell? ⟨w.heap.size + 1 + 1, 0, none⟩ = some (.int .i64 2) := by
    rw [hb1.cell (by simp), World.cell?_alloc_old _ _ _ (by simp)]; exact v0
  have u1 : w1.cell? ⟨w.heap.size + 1 + 1, 1, none⟩ = some (.int .i64 vn) := by
    rw [hb1.cell (by simp), World.cell?_alloc_old _ _ _ (by simp)]; exact v1
  have uz : w.heap.size + 1 + 1 < w1.heap.size := by have := hb1.size; simp at this; omega
  clear hb1 HC G0 I0 B0 v0 v1
  obtain ⟨⟨g0, g1, g2, g3, g4, g5, g6⟩, gz⟩ := id G1
  simp only [Nat.zero_add] at g0 g1 g2 g3 g4 g5 g6
  obtain ⟨n, sp, t, f, sl⟩ := g
  cases t
  · cases f
    · go_wp2
      go_ret2
      exact ⟨ret_t2i (by rw [← HR2.out]; rfl) rfl, B1⟩
    · by_cases hv : vn = 0
      · subst hv
        go_wp2
        go_ret2
        exact ⟨ret_t2i (by rw [← HR2.out]; rfl) rfl, B1⟩
      · have hv' : (vn == 0) = false := by simpa using hv
        go_wp2
        go_ret2
        exact ⟨ret_t2i (by rw [← HR2.out]; simp [hv]) rfl, B1⟩
  · by_cases hv : vn = 1
    · subst hv
      go_wp2
      go_ret2
      exact ⟨ret_t2i (by rw [← HR2.out]; simp) rfl, B1⟩
    · have hv' : (vn == 1) = false := by simpa using hv
      cases f
      · go_wp2
        go_ret2
        exact ⟨ret_t2i (by rw [← HR2.out]; simp [hv]) rfl, B1⟩
      · by_cases hz : vn = 0
        · subst hz
          go_wp2
          go_ret2
          exact ⟨ret_t2i (by rw [← HR2.out]; rfl) rfl, B1⟩
        · have hz' : (vn == 0) = false := by simpa using hz
          go_wp2
          go_ret2
          exact ⟨ret_t2i (by rw [← HR2.out]; simp [hv, hz]) rfl, B1⟩

set_option maxHeartbeats 2000000 in
set_option maxRecDepth 10000 in
theorem holdsG_thing (V F : Int) (s : Option Addr) (c : List Ins) (cap : Nat) (g : Gs) (ss : Option Addr) (gc : Nat) (vn site : Int) (w : World) (hcd : CodeAt w s c) (hs : IntsAt w ss g.s) (h1 : g.s.length ≤ gc) (h2 : gc ≤ maxLen) (hck : ckAllG V F c [g] = 0) :
    Calls Tryz.prog 10 #[pv V F s c cap, gv g ss gc, .agg #[.int .i64 3, .int .i64 vn], .int .i64 site] w fun e w' => e = .returned (.tuple #[.bool (g.s.contains site), .int .i64 0]) ∧ Below w.heap.size w w' := by
  obtain ⟨G00, B00⟩ := pgW_at w V F s c cap g ss gc
  have G0 := G00.alloc (.cells #[.int .i64 3, .int .i64 vn] 31)
  have B0 := B00.alloc B00.size (.cells #[.int .i64 3, .int .i64 vn] 31)
  have I0 := (hs.below B00 (Nat.le_refl _)).alloc (.cells #[.int .i64 3, .int .i64 vn] 31)
  have L0 := GsAt.new1 _ g ss gc I0 h1 h2
  simp only [World.size_alloc] at L0
  have v0 : ((pgW w V F s c cap g ss gc).alloc (.cells #[.int .i64 3, .int .i64 vn] 31)).cell? ⟨w.heap.size + 1 + 1, 0, none⟩ = some (.int .i64 3) := by simp [go_sem]
  have v1 : ((pgW w V F s c cap g ss gc).alloc (.cells #[.int .i64 3, .int .i64 vn] 31)).cell? ⟨w.heap.size + 1 + 1, 1, none⟩ = some (.int .i64 vn) := by simp [go_sem]
  have HC := hideH (checkAllG_any V F s c cap (some ⟨w.heap.size + 1 + 1 + 1, 0, none⟩) [g] 1 _ (((hcd.below B00 (Nat.le_refl _)).alloc _).alloc _) L0 (by simp))
  have hgl : g.s.length ≤ 9223372036854775807 := by unfold maxLen at h2; omega
  rw [hck] at HC
  clear hcd hs L0 G00 B00
  go_enter Tryz.func10, Tryz.ntmps10
  go_wp2_with (go_at_call 40; fail)
  refine HC.out.mono ?_
  rintro e w1 ⟨rfl, hb1⟩
  have G1 := (G0.alloc _).call hb1
  have I1 := (I0.alloc _).call hb1
  have B1 : Below w.heap.size w w1 := (B0.alloc B0.size _).trans (hb1.mono (by simp; omega))
  have u0 : w1.cell? ⟨w.heap.size + 1 + 1, 0, none⟩ = some (.int .i64 3) := by
    rw [hb1.cell (by simp), World.cell?_alloc_old _ _ _ (by simp)]; exact v0
  have u1 : w1.cell? ⟨w.heap.size + 1 + 1, 1, none⟩ = some (.int .i64 vn) := by
    rw [hb1.cell (by simp), World.cell?_alloc_old _ _ _ (by simp)]; exact v1
  have uz : w.heap.size + 1 + 1 < w1.heap.size := by have := hb1.size; simp at this; omega
  clear hb1 HC G0 I0 B0 v0 v1
  obtain ⟨⟨g0, g1, g2, g3, g4, g5, g6⟩, gz⟩ := id G1
  simp only [Nat.zero_add] at g0 g1 g2 g3 g4 g5 g6
  go_wp2_with (go_at_call 42; fail)
  refine (containsI_any site ss gc g.s _ hgl I1).mono ?_
  rintro e w2 ⟨rfl, rfl⟩
  go_wp2
  go_ret2
  exact ⟨ret_t2i (by simp) rfl, B1⟩

set_option maxHeartbeats 2000000 in
set_option maxRecDepth 10000 in
theorem holdsG_kind (V F : Int) (s : Option Addr) (c : List Ins) (cap : Nat) (g : Gs) (ss : Option Addr) (gc : Nat) (vk vn site : Int) (w : World) (hcd : CodeAt w s c) (hs : IntsAt w ss g.s) (h1 : g.s.length ≤ gc) (h2 : gc ≤ maxLen) (hck : ckAllG V F c [g] = 0) (hk0 : (vk == 0) = false) (hk1 : (vk == 1) = false) (hk2 : (vk == 2) = false) (hk3 : (vk == 3) = false) :
    Calls Tryz.prog 10 #[pv V F s c cap, gv g ss gc, .agg #[.int .i64 vk, .int .i64 vn], .int .i64 site] w fun e w' => e = .returned (.tuple #[.bool (false), .int .i64 6]) ∧ Below w.heap.size w w' := by
  obtain ⟨G00, B00⟩ := pgW_at w V F s c cap g ss gc
  have G0 := G00.alloc (.cells #[.int .i64 vk, .int .i64 vn] 31)
  have B0 := B00.alloc B00.size (.cells #[.int .i64 vk, .int .i64 vn] 31)
  have I0 := (hs.below B00 (Nat.le_refl _)).alloc (.cells #[.int .i64 vk, .int .i64 vn] 31)
  have L0 := GsAt.new1 _ g ss gc I0 h1 h2
  simp only [World.size_alloc] at L0
  have v0 : ((pgW w V F s c cap g ss gc).alloc (.cells #[.int .i64 vk, .int .i64 vn] 31)).cell? ⟨w.heap.size + 1 + 1, 0, none⟩ = some (.int .i64 vk) := by simp [go_sem]
  have v1 : ((pgW w V F s c cap g ss gc).alloc (.cells #[.int .i64 vk, .int .i64 vn] 31)).cell? ⟨w.heap.size + 1 + 1, 1, none⟩ = some (.int .i64 vn) := by simp [go_sem]
  have HC := hideH (checkAllG_any V F s c cap (some ⟨w.heap.size + 1 + 1 + 1, 0, none⟩) [g] 1 _ (((hcd.below B00 (Nat.le_refl _)).alloc _).alloc _) L0 (by simp))
  rw [hck] at HC
  clear hcd hs L0 G00 B00
  go_enter Tryz.func10, Tryz.ntmps10
  go_wp2_with (go_at_call 40; fail)
  refine HC.out.mono ?_
  rintro e w1 ⟨rfl, hb1⟩
  have G1 := (G0.alloc _).call hb1
  have I1 := (I0.alloc _).call hb1
  have B1 : Below w.heap.size w w1 := (B0.alloc B0.size _).trans (hb1.mono (by simp; omega))
  have u0 : w1.cell? ⟨w.heap.size + 1 + 1, 0, none⟩ = some (.int .i64 vk) := by
    rw [hb1.cell (by simp), World.cell?_alloc_old _ _ _ (by simp)]; exact v0
  have u1 : w1.cell? ⟨w.heap.size + 1 + 1, 1, none⟩ = some (.int .i64 vn) := by
    rw [hb1.cell (by simp), World.cell?_alloc_old _ _ _ (by simp)]; exact v1
  have uz : w.heap.size + 1 + 1 < w1.heap.size := by have := hb1.size; simp at this; omega
  clear hb1 HC G0 I0 B0 v0 v1
  obtain ⟨⟨g0, g1, g2, g3, g4, g5, g6⟩, gz⟩ := id G1
  simp only [Nat.zero_add] at g0 g1 g2 g3 g4 g5 g6
  go_wp2
  go_ret2
  exact ⟨rfl, B1⟩

end Go.Proofs.YtmapdpcfanecdaaGreat
