/- For every program, kind and two guesses that the law GuessDoes is handed, it returns true and leaves them as they were: Do of package guess answers just what the document's own words ask, errors too. No condition. -/
import Derived.Test.YtmapdpcfanecdaaGreatKguyp54
import Derived.Test.YtmapdpcfanecdaaGreatKguyp42
import Derived.Test.YtmapdpcfanecdaaGreatKguyp24
import Derived.Test.YtmapdpcfanecdaaGreatRows
import Derived.Test.YtmapdpcfanecdaaGreatKguyp02
import Derived.Test.YtmapdpcfanecdaaGreatKguyp04
import Derived.WalkKit
import Derived.ProofKit
import Derived.OpenShut
import Derived.Carry
import Derived.Deep.DeepHandedRow
import Derived.Deep.DeepWitnessRowRef
namespace Go.Proofs.YtmapdpcfanecdaaGreat
set_option linter.unusedVariables false
set_option linter.unusedSimpArgs false
open Go.RowKit

/-- What the law was handed lies in three blocks, and behind them. -/
def LawD (w : World) (b : Nat) (V F : Int) (s : Option Addr) (c : List Ins) (cap : Nat) (g : Gs) (ss : Option Addr) (gc : Nat) (h : Gs) (st : Option Addr) (hc : Nat) : Prop :=
  PrAt w b V F s c cap ∧ GuAt w (b + 1) 0 g ss gc ∧ GuAt w (b + 1 + 1) 0 h st hc ∧ CodeAt w s c ∧ IntsAt w ss g.s ∧ IntsAt w st h.s
theorem LawD.below {w w' : World} {b : Nat} {V F : Int} {s : Option Addr} {c : List Ins} {cap : Nat} {g : Gs} {ss : Option Addr} {gc : Nat} {h : Gs} {st : Option Addr} {hc : Nat} (l : LawD w b V F s c cap g ss gc h st hc) (hb : Below w.heap.size w w') : LawD w' b V F s c cap g ss gc h st hc := by
  obtain ⟨l1, l2, l3, l5, l6, l7⟩ := l
  exact ⟨l1.call hb, l2.call hb, l3.call hb, l5.call hb, l6.call hb, l7.call hb⟩

def lawV (w : World) (V F : Int) (s : Option Addr) (c : List Ins) (cap : Nat) (g : Gs) (ss : Option Addr) (gc : Nat) (h : Gs) (st : Option Addr) (hc : Nat) : World := (((w.alloc (.cells #[.int .i64 V, .int .i64 F, .slice s c.length cap] 24)).alloc (.cells #[.bool g.n, .bool g.sp.n, .int .i64 g.sp.lo, .int .i64 g.sp.hi, .bool g.t, .bool g.f, .slice ss g.s.length gc] 29)).alloc (.cells #[.bool h.n, .bool h.sp.n, .int .i64 h.sp.lo, .int .i64 h.sp.hi, .bool h.t, .bool h.f, .slice st h.s.length hc] 29))
theorem lawV_at (w : World) (V F : Int) (s : Option Addr) (c : List Ins) (cap : Nat) (g : Gs) (ss : Option Addr) (gc : Nat) (h : Gs) (st : Option Addr) (hc : Nat) (hcd : CodeAt w s c) (hs : IntsAt w ss g.s) (ht : IntsAt w st h.s) : LawD (lawV w V F s c cap g ss gc h st hc) w.heap.size V F s c cap g ss gc h st hc ∧ Below w.heap.size w (lawV w V F s c cap g ss gc h st hc) := by
  unfold lawV
  refine ⟨⟨((PrAt.new w V F s c cap).alloc _).alloc _, ?_, ?_, ((hcd.alloc _).alloc _).alloc _, ((hs.alloc _).alloc _).alloc _, ((ht.alloc _).alloc _).alloc _⟩, by go_grown⟩
  · have := GuAt.new (w.alloc (.cells #[.int .i64 V, .int .i64 F, .slice s c.length cap] 24)) g ss gc
    rw [World.size_alloc] at this
    exact this.alloc _
  · have := GuAt.new ((w.alloc (.cells #[.int .i64 V, .int .i64 F, .slice s c.length cap] 24)).alloc (.cells #[.bool g.n, .bool g.sp.n, .int .i64 g.sp.lo, .int .i64 g.sp.hi, .bool g.t, .bool g.f, .slice ss g.s.length gc] 29)) h st hc
    rw [World.size_alloc, World.size_alloc] at this
    exact this

/-- What the law keeps: the guess that came, in a variable of its own. -/
def LD (W0 : World) (J : Gs) (js : Option Addr) (jc bJ : Nat) (w : World) : Prop :=
  Below W0.heap.size W0 w ∧ IntsAt w js J.s ∧ GuAt w bJ 0 J js jc
theorem LD.call {W0 : World} {J : Gs} {js : Option Addr} {jc bJ : Nat} {w w' : World} (h : LD W0 J js jc bJ w) (hb : Below w.heap.size w w') : LD W0 J js jc bJ w' :=
  ⟨h.1.trans (hb.mono h.1.size), h.2.1.call hb, h.2.2.call hb⟩
theorem IntsAt.blk {w : World} {ss : Option Addr} {l : List Int} (h : IntsAt w ss l) : l = [] ∨ ∀ a, ss = some a → a.block < w.heap.size := by
  rcases h with h | ⟨k, off, hs, hlt, -⟩
  · exact .inl h
  · refine .inr fun a ha => ?_
    rw [hs] at ha
    cases ha
    exact hlt
theorem LD.put {W0 : World} {J : Gs} {js : Option Addr} {jc bJ : Nat} {w : World} {b1 : Nat} {v0 v1 v2 v3 v4 v5 v6 : Value} (h : LD W0 J js jc bJ w) (hz : W0.heap.size ≤ b1) (hj : bJ ≠ b1) (hI : J.s = [] ∨ ∀ a, js = some a → a.block < b1) : LD W0 J js jc bJ (Go.Proofs.YtmapdpcfanecdaaGreat.put7 w b1 v0 v1 v2 v3 v4 v5 v6) := by
  refine ⟨below_put7 h.1 hz, ?_, h.2.2.put7 hj⟩
  rcases hI with hI | hI
  · exact .inl hI
  · exact h.2.1.far7 (fun a ha e => by have := hI a ha; omega)
/-- Whatever the errno: what came is what was wanted. -/
theorem guessIs_V (J : Gs) (js : Option Addr) (jc : Nat) (e : Int) (vs : Option Addr) (vc : Nat) (w : World) (hj : IntsAt w js J.s) (hv : IntsAt w vs J.s) (hl : J.s.length ≤ maxLen) (hz : e ≠ 0 → J = zeroG ∧ js = none ∧ jc = 0) :
    Calls Tryz.prog 19 #[gv J js jc, .int .i64 e, .int .i64 e, gv J vs vc] w fun r w' => r = .returned (.bool true) ∧ Below w.heap.size w w' := by
  by_cases h0 : e = 0
  · subst h0
    exact guessIs_ok J js jc vs vc w hj hv hl
  · obtain ⟨rfl, rfl, rfl⟩ := hz h0
    exact guessIs_err e zeroG vs vc w (by simpa using h0)

set_option maxHeartbeats 8000000 in
set_option maxRecDepth 20000 in
theorem guessDoes_any (V F : Int) (s : Option Addr) (c : List Ins) (cap : Nat) (k : Int) (g : Gs) (ss : Option Addr) (gc : Nat) (h : Gs) (st : Option Addr) (hc : Nat) (w : World)
    (hcd : CodeAt w s c) (hs : IntsAt w ss g.s) (h1 : g.s.length ≤ gc) (h2 : gc ≤ maxLen) (ht : IntsAt w st h.s) (h3 : h.s.length ≤ hc) (h4 : hc ≤ maxLen) :
    Calls Tryz.prog 4 #[pv V F s c cap, .int .i64 k, gv g ss gc, gv h st hc] w fun e w' => e = .returned (.bool true) ∧ Below w.heap.size w w' := by
  obtain ⟨L0, B0⟩ := lawV_at w V F s c cap g ss gc h st hc hcd hs ht
  have LW : ∀ {wx : World}, LawD wx w.heap.size V F s c cap g ss gc h st hc → CodeAt wx s c ∧ IntsAt wx ss g.s ∧ IntsAt wx st h.s := fun l => ⟨l.2.2.2.1, l.2.2.2.2.1, l.2.2.2.2.2⟩
  have HW0 : Hid (lawV w V F s c cap g ss gc h st hc = (((w.alloc (.cells #[.int .i64 V, .int .i64 F, .slice s c.length cap] 24)).alloc (.cells #[.bool g.n, .bool g.sp.n, .int .i64 g.sp.lo, .int .i64 g.sp.hi, .bool g.t, .bool g.f, .slice ss g.s.length gc] 29)).alloc (.cells #[.bool h.n, .bool h.sp.n, .int .i64 h.sp.lo, .int .i64 h.sp.hi, .bool h.t, .bool h.f, .slice st h.s.length hc] 29))) := rfl
  generalize hW0 : lawV w V F s c cap g ss gc h st hc = W0 at *
  clear hW0 hcd hs ht
  have mx : maxLen ≤ 9223372036854775807 := by decide
  have hgl : g.s.length ≤ 9223372036854775807 := Nat.le_trans (Nat.le_trans h1 h2) mx
  have hhl : h.s.length ≤ 9223372036854775807 := Nat.le_trans (Nat.le_trans h3 h4) mx
  clear mx
  go_enter Tryz.func4, Tryz.ntmps4
  go_wp2_with (go_at_call 20; fail)
  rw [← HW0.out]
  refine (doU V F s c cap g ss gc h st hc k _ (LW L0).1 (LW L0).2.1 h1 h2 (LW L0).2.2 h3 h4).mono ?_
  rintro e w1 ⟨J, js, jc, wr, rfl, hJ, iJ1, lJ, nJ, hb1⟩
  have BB1 : Below W0.heap.size W0 w1 := hb1
  have HJ := hideH hJ
  clear hJ hb1
  generalize hE0 : doE (ckAllG V F c [g, h]) k = er at nJ HJ ⊢
  have HE := hideH hE0
  clear hE0
  obtain ⟨Pq, Gq, Hq, Cq, Iq, Tq⟩ := L0.below BB1
  obtain ⟨⟨p0, p1, p2⟩, pz⟩ := id Pq
  obtain ⟨⟨g0, g1, g2, g3, g4, g5, g6⟩, gz⟩ := id Gq
  obtain ⟨⟨k0, k1, k2, k3, k4, k5, k6⟩, kz⟩ := id Hq
  simp only [Nat.zero_add] at g0 g1 g2 g3 g4 g5 g6 k0 k1 k2 k3 k4 k5 k6
  go_upto_region 2 with fail
  have AJ2 := GuAt.new w1 J js jc
  have iJ2 := iJ1.alloc (.cells #[.bool J.n, .bool J.sp.n, .int .i64 J.sp.lo, .int .i64 J.sp.hi, .bool J.t, .bool J.f, .slice js J.s.length jc] 29)
  have BB2 := BB1.alloc BB1.size (.cells #[.bool J.n, .bool J.sp.n, .int .i64 J.sp.lo, .int .i64 J.sp.hi, .bool J.t, .bool J.f, .slice js J.s.length jc] 29)
  have zb : W0.heap.size ≤ w1.heap.size := BB1.size
  generalize w1.alloc (.cells #[.bool J.n, .bool J.sp.n, .int .i64 J.sp.lo, .int .i64 J.sp.hi, .bool J.t, .bool J.f, .slice js J.s.length jc] 29) = w2 at *
  generalize w1.heap.size = bJ at *
  clear p0 p1 p2 pz g0 g1 g2 g3 g4 g5 g6 gz k0 k1 k2 k3 k4 k5 k6 kz Pq Gq Hq Cq Iq Tq iJ1 BB1
  obtain ⟨Pq, Gq, Hq, Cq, Iq, Tq⟩ := L0.below BB2
  obtain ⟨⟨p0, p1, p2⟩, pz⟩ := id Pq
  obtain ⟨⟨g0, g1, g2, g3, g4, g5, g6⟩, gz⟩ := id Gq
  obtain ⟨⟨k0, k1, k2, k3, k4, k5, k6⟩, kz⟩ := id Hq
  simp only [Nat.zero_add] at g0 g1 g2 g3 g4 g5 g6 k0 k1 k2 k3 k4 k5 k6
  go_wp2_with (go_at_call 12; fail)
  have E3 := GsAt.new2 w2 g ss gc h st hc (LW (L0.below BB2)).2.1 h1 h2 (LW (L0.below BB2)).2.2 h3 h4
  unfold twoW at E3
  have BB3 := BB2.alloc BB2.size (.cells #[.bool g.n, .bool g.sp.n, .int .i64 g.sp.lo, .int .i64 g.sp.hi, .bool g.t, .bool g.f, .slice ss g.s.length gc, .bool h.n, .bool h.sp.n, .int .i64 h.sp.lo, .int .i64 h.sp.hi, .bool h.t, .bool h.f, .slice st h.s.length hc] 29)
  refine (checkGuesses_any V F s c cap (some ⟨w2.heap.size, 0, none⟩) [g, h] 2 _ (LW (L0.below BB3)).1 E3 (by simp)).mono ?_
  rintro e w4 ⟨rfl, hb4⟩
  have LD4 : LD W0 J js jc bJ w4 := ⟨BB3.trans (hb4.mono BB3.size), (iJ2.alloc _).call hb4, (AJ2.alloc _).call hb4⟩
  clear p0 p1 p2 pz g0 g1 g2 g3 g4 g5 g6 gz k0 k1 k2 k3 k4 k5 k6 kz Pq Gq Hq Cq Iq Tq iJ2 BB2 AJ2 E3 BB3 hb4
  generalize HWV : ckAllG V F c [g, h] = wv at *
  have HBk : Hid (∃ bk : Bool, bk = (decide (wv = 0) && (decide (k < 4) || decide (10 < k))) ∧ er = if bk = true then 6 else wv) := by
    refine ⟨_, rfl, ?_⟩
    rw [← HE.out]
    unfold doE
    by_cases e : wv = 0 <;> by_cases e2 : k < 4 <;> by_cases e3 : 10 < k <;> simp [e, e2, e3]
  obtain ⟨bk, hq1, hq2⟩ := HBk.out
  have Hb1 := hideH hq1
  have Hb2 := hideH hq2
  clear hq1 hq2 HBk
  go_upto_region 3 with fail
  go_cut [38] (fun t wy => t = .bool bk ∧ LD W0 J js jc bJ wy)
  case first =>
    by_cases e1 : wv = 0
    · subst e1
      by_cases e2 : k < 4
      · go_wp2_with fail
        go_meet
        exact ⟨by rw [Hb1.out]; simp [e2], LD4⟩
      · by_cases e3 : 10 < k
        · go_wp2_with fail
          go_meet
          exact ⟨by rw [Hb1.out]; simp [e2, e3], LD4⟩
        · go_wp2_with fail
          go_meet
          exact ⟨by rw [Hb1.out]; simp [e2, e3], LD4⟩
    · have e1b : (wv == 0) = false := by simpa using e1
      go_wp2_with fail
      go_meet
      exact ⟨by rw [Hb1.out]; simp [e1], LD4⟩
  obtain ⟨rfl, LD5⟩ := hcut
  clear LD4
  go_upto_if 38 with fail
  go_cut [12] (fun t wy => t = .int .i64 er ∧ LD W0 J js jc bJ wy)
  case first =>
    cases bk with
    | true =>
      go_wp2_with fail
      go_meet
      exact ⟨by rw [Hb2.out]; simp, LD5⟩
    | false =>
      go_wp2_with fail
      go_meet
      exact ⟨by rw [Hb2.out]; simp, LD5⟩
  obtain ⟨rfl, LD6⟩ := hcut
  clear LD5 Hb1 Hb2
  go_upto_if 40 with fail
  have U8 : GuAt (wc.alloc (.cells #[.bool false, .bool false, .int .i64 0, .int .i64 0, .bool false, .bool false, .slice none 0 0] 29)) wc.heap.size 0 zeroG none 0 := GuAt.new wc zeroG none 0
  have FU8 : Fr7 (wc.alloc (.cells #[.bool false, .bool false, .int .i64 0, .int .i64 0, .bool false, .bool false, .slice none 0 0] 29)) wc.heap.size := ⟨fun j => by simp [go_sem], by simp⟩
  have LD8 : LD W0 J js jc bJ (wc.alloc (.cells #[.bool false, .bool false, .int .i64 0, .int .i64 0, .bool false, .bool false, .slice none 0 0] 29)) := LD6.call ((Below.refl _ _).alloc (Nat.le_refl _) _)
  have zb1 : W0.heap.size ≤ wc.heap.size := LD6.1.size
  have zj : bJ < wc.heap.size := LD6.2.2.2
  have zi := LD6.2.1.blk
  have Bq : ∀ wx, Below (wc.alloc (.cells #[.bool false, .bool false, .int .i64 0, .int .i64 0, .bool false, .bool false, .slice none 0 0] 29)).heap.size (wc.alloc (.cells #[.bool false, .bool false, .int .i64 0, .int .i64 0, .bool false, .bool false, .slice none 0 0] 29)) wx → wc.heap.size < wx.heap.size := fun wx hx => by have := hx.size; simp at this; omega
  generalize wc.alloc (.cells #[.bool false, .bool false, .int .i64 0, .int .i64 0, .bool false, .bool false, .slice none 0 0] 29) = w8 at *
  generalize wc.heap.size = b1 at *
  clear LD6
  go_cut [14] (fun t wy => t = .bool wr ∧ ∃ vs vc, LD W0 J js jc bJ wy ∧ GuAt wy b1 0 J vs vc ∧ IntsAt wy vs J.s)
  case first =>
    by_cases e1 : er = 0
    · subst e1
      have hkk : ¬ (k < 4 ∨ 10 < k) := by
        intro e
        have h6 := HE.out
        unfold doE at h6
        by_cases hu : wv = 0
        · rw [if_pos hu, if_pos e] at h6
          omega
        · rw [if_neg hu] at h6
          exact hu h6
      have hw0 : wv = 0 := by
        have h6 := HE.out
        unfold doE at h6
        by_cases hu : wv = 0
        · exact hu
        · rw [if_neg hu] at h6
          exact h6
      subst hw0
      have eJ := HJ.out
      rw [if_pos rfl] at eJ
      have hcR := fun wx hs ht => doRU (V := V) (F := F) (c := c) g ss gc h st hc k wx hs hgl ht hhl HWV hkk
      rw [← eJ] at hcR
      dsimp only at hcR
      have HR := hideH hcR
      clear eJ hcR HJ HE nJ HWV
      obtain ⟨Pq, Gq, Hq, Cq, Iq, Tq⟩ := L0.below LD8.1
      obtain ⟨⟨p0, p1, p2⟩, pz⟩ := id Pq
      obtain ⟨⟨g0, g1, g2, g3, g4, g5, g6⟩, gz⟩ := id Gq
      obtain ⟨⟨k0, k1, k2, k3, k4, k5, k6⟩, kz⟩ := id Hq
      simp only [Nat.zero_add] at g0 g1 g2 g3 g4 g5 g6 k0 k1 k2 k3 k4 k5 k6
      go_wp2_with (go_at_call 21; fail)
      refine (HR.out _ (LW (L0.below LD8.1)).2.1 (LW (L0.below LD8.1)).2.2).mono ?_
      rintro e w11 ⟨vs, vc, rfl, hd, hb11⟩
      have LD11 := LD8.call hb11
      have U11 := U8.call hb11
      have FU11 := FU8.call hb11
      clear p0 p1 p2 pz g0 g1 g2 g3 g4 g5 g6 gz k0 k1 k2 k3 k4 k5 k6 kz Pq Gq Hq Cq Iq Tq LD8 U8 FU8 hb11 Bq
      obtain ⟨⟨r0, r1, r2, r3, r4, r5, r6⟩, rz⟩ := id U11
      simp only [Nat.zero_add] at r0 r1 r2 r3 r4 r5 r6
      simp only [zeroG] at r0 r1 r2 r3 r4 r5 r6
      have fz := FU11.1
      have LD12 : LD W0 J js jc bJ (Go.Proofs.YtmapdpcfanecdaaGreat.put7 w11 b1 (.bool J.n) (.bool J.sp.n) (.int .i64 J.sp.lo) (.int .i64 J.sp.hi) (.bool J.t) (.bool J.f) (.slice vs J.s.length vc)) := LD11.put zb1 (Nat.ne_of_lt zj) zi
      have U12 : GuAt (Go.Proofs.YtmapdpcfanecdaaGreat.put7 w11 b1 (.bool J.n) (.bool J.sp.n) (.int .i64 J.sp.lo) (.int .i64 J.sp.hi) (.bool J.t) (.bool J.f) (.slice vs J.s.length vc)) b1 0 J vs vc := GuAt.store (g := J) (ss := vs) (cap := vc) U11
      have I12 : IntsAt (Go.Proofs.YtmapdpcfanecdaaGreat.put7 w11 b1 (.bool J.n) (.bool J.sp.n) (.int .i64 J.sp.lo) (.int .i64 J.sp.hi) (.bool J.t) (.bool J.f) (.slice vs J.s.length vc)) vs J.s := by
        have hv : ∀ wx, LawD wx w.heap.size V F s c cap g ss gc h st hc → IntsAt wx vs J.s := by
          intro wx l
          rcases hd with hd | ⟨hd1, hd2⟩
          · exact .inl hd
          · rw [hd1, hd2]
            exact (LW l).2.1
        exact hv _ (L0.below LD12.1)
      go_wp2_with fail
      go_meet
      exact ⟨rfl, vs, vc, LD12, U12, I12⟩
    · have e1b : (er == 0) = false := by simpa using e1
      have eJ := HJ.out
      rw [if_neg e1] at eJ
      obtain ⟨rfl, rfl⟩ := nJ e1
      obtain ⟨rfl, rfl⟩ := Prod.mk.inj eJ
      go_wp2_with fail
      go_meet
      exact ⟨rfl, none, 0, LD8, U8, .inl rfl⟩
  obtain ⟨rfl, vs, vc, LD10, U10, I10⟩ := hcut
  clear LD8 U8 FU8 Bq
  go_wp2_with (go_at_call 17; fail)
  refine (guessBegun_any _).mono ?_
  rintro e w13 ⟨rfl, hb13⟩
  have LD13 := LD10.call hb13
  have U13 := U10.call hb13
  have I13 := I10.call hb13
  clear LD10 U10 I10 hb13
  obtain ⟨⟨r0, r1, r2, r3, r4, r5, r6⟩, rz⟩ := id LD13.2.2
  simp only [Nat.zero_add] at r0 r1 r2 r3 r4 r5 r6
  obtain ⟨⟨x0, x1, x2, x3, x4, x5, x6⟩, xz⟩ := id U13
  simp only [Nat.zero_add] at x0 x1 x2 x3 x4 x5 x6
  go_wp2_with (go_at_call 19; fail)
  refine (guessIs_V J js jc er vs vc w13 LD13.2.1 I13 lJ (fun e => ⟨(Prod.mk.inj (HJ.out.trans (if_neg e))).1, (nJ e).1, (nJ e).2⟩)).mono ?_
  rintro e w14 ⟨rfl, hb14⟩
  have LD14 := LD13.call hb14
  clear LD13 hb14 r0 r1 r2 r3 r4 r5 r6 rz x0 x1 x2 x3 x4 x5 x6 xz
  cases wr with
  | true =>
    go_wp2
    go_ret
    exact ⟨rfl, B0.trans (LD14.1.mono B0.size)⟩
  | false =>
    go_wp2
    go_ret
    exact ⟨rfl, B0.trans (LD14.1.mono B0.size)⟩
end Go.Proofs.YtmapdpcfanecdaaGreat

namespace Go.Proofs.YtmapdpcfanecdaaGreat
set_option linter.unusedVariables false
set_option linter.unusedSimpArgs false
open Go.ChangeShapes Go.WideShapes Go.ChangeAt Go.RowKit

namespace guessDoes
theorem ownS : ownKnob Tryz.prog.godebug = none := by kernel_rfl
set_option maxRecDepth 100000 in
theorem contract (H : Type) (enc : TypeId × Value → H) (W : World) (base : Nat) (args : Array Value) (ds gs : List (DataW H)) (before : List MemPlace)
    (hval : ∀ (j : Nat) t v, Tryz.f4.params[j]? = some t → args[j]? = some v → Value.okWide Tryz.prog W .any base t v)
    (hW : DataW.Whole enc Tryz.prog Tryz.f4.params.toList Rows.guessDoesSpec.vars false W args.toList ds gs before) :
    Calls Tryz.prog 4 args W fun e W' => ∃ v, e = .returned v ∧ Rows.guessDoesSpec.post enc Tryz.prog Tryz.f4 false true false false W args v W' := by
  have hlt := hW.lt
  have hW' := hW
  obtain ⟨p, q, hA0, hV, rfl, hfz, hnd⟩ := hW
  have hA : DataW.TrodAll enc Tryz.prog W 0 (fun _ => true) true Tryz.f4.params.toList args.toList ds p := hA0
  rw [Tryz.params4] at hA hval
  obtain ⟨v0, vs0, d0, ds0, p0, q0, e0, rfl, rfl, h0, hr0⟩ := trodAll_cons hA
  obtain ⟨v1, vs1, d1, ds1, p1, q1, e1, rfl, rfl, h1, hr1⟩ := trodAll_cons hr0
  obtain ⟨v2, vs2, d2, ds2, p2, q2, e2, rfl, rfl, h2, hr2⟩ := trodAll_cons hr1
  obtain ⟨v3, vs3, d3, ds3, p3, q3, e3, rfl, rfl, h3, hr3⟩ := trodAll_cons hr2
  obtain ⟨rfl, rfl, rfl⟩ := trodAll_nil hr3
  subst e1
  subst e2
  subst e3
  have ea : args = #[v0, v1, v2, v3] := by cases args; simp_all
  subst ea
  obtain ⟨rfl, rfl⟩ := trodVars_none hV
  obtain ⟨V, F, s, cap, c, rfl, hl, hm, hcd, _⟩ := open_program (hval 0 24 v0 rfl rfl) h0
  obtain ⟨k, rfl, _⟩ := open_int Tryz.underlying3 (hval 1 3 v1 rfl rfl) h1
  obtain ⟨g, ss, gc, rfl, g1, g2, g3⟩ := open_guess (hval 2 29 v2 rfl rfl) h2
  obtain ⟨h, st, hc, rfl, k1, k2, k3⟩ := open_guess (hval 3 29 v3 rfl rfl) h3
  refine (guessDoes_any V F s c cap k g ss gc h st hc W hcd g3 g1 g2 k3 k1 k2).mono fun e W' ⟨he, hb⟩ => ?_
  subst he
  refine ⟨_, rfl, _, _, _, [], p0 ++ (p1 ++ (p2 ++ (p3 ++ []))), [], hW', ?_, ?_, ?_, hb.frame _, fun h => by cases h⟩
  · exact trodAll_mk1 (shut_bool Tryz.underlying4 _)
  · rw [Tryz.params4]
    exact trodAll_cons_mk (Below.trod (by kernel_rfl) (by kernel_rfl) (of_decide_eq_true (by kernel_rfl)) h0 hb (fun x hx => hlt x (by simp [hx]))) (trodAll_cons_mk (Below.trod (by kernel_rfl) (by kernel_rfl) (of_decide_eq_true (by kernel_rfl)) h1 hb (fun x hx => hlt x (by simp [hx]))) (trodAll_cons_mk (Below.trod (by kernel_rfl) (by kernel_rfl) (of_decide_eq_true (by kernel_rfl)) h2 hb (fun x hx => hlt x (by simp [hx]))) (trodAll_cons_mk (Below.trod (by kernel_rfl) (by kernel_rfl) (of_decide_eq_true (by kernel_rfl)) h3 hb (fun x hx => hlt x (by simp [hx]))) (rfl))))
  · rfl

theorem witness_row (os : Os) {H : Type} (enc : TypeId × Value → H) :
    (OpenSpec.ofChange Rows.guessDoesSpec).preRow enc Tryz.prog Tryz.f4 Rows.guessDoesRow.domain false Rows.guessDoesRow.laid ((World.settled Tryz.prog os).forCall (fun _ _ => 0) ⟨#[], #[.agg #[.int .i64 0, .int .i64 0, .slice none 0 0], .int .i64 0, .agg #[.bool false, .bool false, .int .i64 0, .int .i64 0, .bool false, .bool false, .slice none 0 0], .agg #[.bool false, .bool false, .int .i64 0, .int .i64 0, .bool false, .bool false, .slice none 0 0]], []⟩).memory #[.agg #[.int .i64 0, .int .i64 0, .slice none 0 0], .int .i64 0, .agg #[.bool false, .bool false, .int .i64 0, .int .i64 0, .bool false, .bool false, .slice none 0 0], .agg #[.bool false, .bool false, .int .i64 0, .int .i64 0, .bool false, .bool false, .slice none 0 0]] := by
  have hw : (DataW.whole enc Tryz.prog ((World.settled Tryz.prog os).forCall (fun _ _ => 0) ⟨#[], #[.agg #[.int .i64 0, .int .i64 0, .slice none 0 0], .int .i64 0, .agg #[.bool false, .bool false, .int .i64 0, .int .i64 0, .bool false, .bool false, .slice none 0 0], .agg #[.bool false, .bool false, .int .i64 0, .int .i64 0, .bool false, .bool false, .slice none 0 0]], []⟩).memory Tryz.f4.params.toList Rows.guessDoesSpec.vars false #[Value.agg #[.int .i64 0, .int .i64 0, .slice none 0 0], .int .i64 0, .agg #[.bool false, .bool false, .int .i64 0, .int .i64 0, .bool false, .bool false, .slice none 0 0], .agg #[.bool false, .bool false, .int .i64 0, .int .i64 0, .bool false, .bool false, .slice none 0 0]].toList 8).isSome = true := by kernel_rfl
  obtain ⟨x, hx⟩ := Option.isSome_iff_exists.1 hw
  exact OpenSpec.preRow_of_cond 8 hx rfl (fun k hk => by cases hk) (by kernel_rfl) ⟨[], rfl, List.nodup_nil, fun b off h => by cases h⟩

set_option maxRecDepth 100000 in
theorem lifted (os : Os) (started : os.Started) (H : Type) (enc : TypeId × Value → H) (F : Stop.Interp) :
    ReturnsInHanded {} Tryz.checked os 4 .any ((OpenSpec.ofChange Rows.guessDoesSpec).preRow enc Tryz.prog Tryz.f4 Rows.guessDoesRow.domain false Rows.guessDoesRow.laid) (((OpenSpec.ofChange Rows.guessDoesSpec).at F).post enc Tryz.prog Tryz.f4 false true false false) := by
  refine returnsInHanded_of_row (C := Tryz.checked) (s := OpenSpec.ofChange Rows.guessDoesSpec) ownS started (by kernel_rfl) Tryz.func4
    (witness_row_atRef (enc := enc) (C := Tryz.checked) false (World.settled Tryz.prog os) #[.agg #[.int .i64 0, .int .i64 0, .slice none 0 0], .int .i64 0, .agg #[.bool false, .bool false, .int .i64 0, .int .i64 0, .bool false, .bool false, .slice none 0 0], .agg #[.bool false, .bool false, .int .i64 0, .int .i64 0, .bool false, .bool false, .slice none 0 0]] rfl (by kernel_rfl) (by kernel_rfl) (by kernel_rfl) (witness_row os enc)) ?_
  intro W base args ds gs before hval hW _ _ _ hL hS _
  exact contract H enc W base args ds gs before hval hW
end guessDoes

theorem guessDoes_holds : Rows.GuessDoesSaid :=
  OpenClaim.holds_of_cond 4 Tryz.f4 rfl rfl rfl rfl rfl rfl rfl ⟨rfl, rfl, rfl, rfl, rfl⟩ rfl rfl rfl rfl rfl (by kernel_rfl) Tryz.func4 (by kernel_rfl)
    (of_decide_eq_true (by kernel_rfl)) (by unfold Func.isWrapper; first | (rw [if_pos (by decide +kernel)]; kernel_rfl) | (rw [if_neg (by decide +kernel)]; exact ⟨rfl, rfl⟩))
    (fun os started H enc _ F => by rw [OpenClaim.pre_eq_preRow]; exact guessDoes.lifted os started H enc F)
end Go.Proofs.YtmapdpcfanecdaaGreat
