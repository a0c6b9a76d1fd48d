/- The law GuessJoins over what it calls. -/
import Derived.Test.YtmapdpcfanecdaaGreatKguxp49
import Derived.Test.YtmapdpcfanecdaaGreatKguxp53
import Derived.Test.YtmapdpcfanecdaaGreatKguxp35
import Derived.Test.YtmapdpcfanecdaaGreatKguxp45
import Derived.Test.YtmapdpcfanecdaaGreatKguxp46
namespace Go.Proofs.YtmapdpcfanecdaaGreat
set_option linter.unusedVariables false
set_option linter.unusedSimpArgs false
open Go.RowKit

/-- What the law was handed lies in four blocks, and behind them. -/
def LawAt (w : World) (b : Nat) (V F : Int) (s : Option Addr) (c : List Ins) (cap : Nat) (g : Gs) (ss : Option Addr) (gc : Nat) (h : Gs) (st : Option Addr) (hc : Nat) (vk vn : Int) : Prop :=
  PrAt w b V F s c cap ∧ GuAt w (b + 1) 0 g ss gc ∧ GuAt w (b + 1 + 1) 0 h st hc ∧ (w.cell? ⟨b + 1 + 1 + 1, 0, none⟩ = some (.int .i64 vk) ∧ w.cell? ⟨b + 1 + 1 + 1, 1, none⟩ = some (.int .i64 vn) ∧ b + 1 + 1 + 1 < w.heap.size) ∧ CodeAt w s c ∧ IntsAt w ss g.s ∧ IntsAt w st h.s
theorem LawAt.below {w w' : World} {b : Nat} {V F : Int} {s : Option Addr} {c : List Ins} {cap : Nat} {g : Gs} {ss : Option Addr} {gc : Nat} {h : Gs} {st : Option Addr} {hc : Nat} {vk vn : Int} (l : LawAt w b V F s c cap g ss gc h st hc vk vn) (hb : Below w.heap.size w w') : LawAt w' b V F s c cap g ss gc h st hc vk vn := by
  obtain ⟨l1, l2, l3, ⟨v0, v1, vz⟩, l5, l6, l7⟩ := l
  exact ⟨l1.call hb, l2.call hb, l3.call hb, ⟨by rw [hb.cell (by simpa using vz)]; exact v0, by rw [hb.cell (by simpa using vz)]; exact v1, Nat.lt_of_lt_of_le vz hb.size⟩, l5.call hb, l6.call hb, l7.call hb⟩

def lawW (w : World) (V F : Int) (s : Option Addr) (c : List Ins) (cap : Nat) (g : Gs) (ss : Option Addr) (gc : Nat) (h : Gs) (st : Option Addr) (hc : Nat) (vk vn : Int) : World := ((((w.alloc (.cells #[.int .i64 V, .int .i64 F, .slice s c.length cap] 24)).alloc (.cells #[.bool g.n, .bool g.sp.n, .int .i64 g.sp.lo, .int .i64 g.sp.hi, .bool g.t, .bool g.f, .slice ss g.s.length gc] 29)).alloc (.cells #[.bool h.n, .bool h.sp.n, .int .i64 h.sp.lo, .int .i64 h.sp.hi, .bool h.t, .bool h.f, .slice st h.s.length hc] 29)).alloc (.cells #[.int .i64 vk, .int .i64 vn] 31))
theorem lawW_at (w : World) (V F : Int) (s : Option Addr) (c : List Ins) (cap : Nat) (g : Gs) (ss : Option Addr) (gc : Nat) (h : Gs) (st : Option Addr) (hc : Nat) (vk vn : Int) (hcd : CodeAt w s c) (hs : IntsAt w ss g.s) (ht : IntsAt w st h.s) : LawAt (lawW w V F s c cap g ss gc h st hc vk vn) w.heap.size V F s c cap g ss gc h st hc vk vn ∧ Below w.heap.size w (lawW w V F s c cap g ss gc h st hc vk vn) := by
  unfold lawW
  refine ⟨⟨((PrAt.new w V F s c cap).alloc _).alloc _ |>.alloc _, ?_, ?_, ⟨by simp [go_sem], by simp [go_sem], by simp⟩, (((hcd.alloc _).alloc _).alloc _).alloc _, (((hs.alloc _).alloc _).alloc _).alloc _, (((ht.alloc _).alloc _).alloc _).alloc _⟩, by go_grown⟩
  · have := GuAt.new (w.alloc (.cells #[.int .i64 V, .int .i64 F, .slice s c.length cap] 24)) g ss gc
    rw [World.size_alloc] at this
    exact (this.alloc _).alloc _
  · have := GuAt.new ((w.alloc (.cells #[.int .i64 V, .int .i64 F, .slice s c.length cap] 24)).alloc (.cells #[.bool g.n, .bool g.sp.n, .int .i64 g.sp.lo, .int .i64 g.sp.hi, .bool g.t, .bool g.f, .slice ss g.s.length gc] 29)) h st hc
    rw [World.size_alloc, World.size_alloc] at this
    exact this.alloc _

/-- What the law keeps: two guesses that came, in variables of its own. -/
def LF (W0 : World) (J : Gs) (js : Option Addr) (jc bJ : Nat) (X : Gs) (xs : Option Addr) (xc bX : Nat) (w : World) : Prop :=
  Below W0.heap.size W0 w ∧ IntsAt w js J.s ∧ IntsAt w xs X.s ∧ GuAt w bJ 0 J js jc ∧ GuAt w bX 0 X xs xc
theorem LF.call {W0 : World} {J : Gs} {js : Option Addr} {jc bJ : Nat} {X : Gs} {xs : Option Addr} {xc bX : Nat} {w w' : World} (h : LF W0 J js jc bJ X xs xc bX w) (hb : Below w.heap.size w w') : LF W0 J js jc bJ X xs xc bX w' :=
  ⟨h.1.trans (hb.mono h.1.size), h.2.1.call hb, h.2.2.1.call hb, h.2.2.2.1.call hb, h.2.2.2.2.call hb⟩
/-- .. and two that are wanted. -/
def LG (W0 : World) (J : Gs) (js : Option Addr) (jc bJ : Nat) (X : Gs) (xs : Option Addr) (xc bX b1 : Nat) (vs : Option Addr) (vc : Nat) (us : Option Addr) (uc : Nat) (w : World) : Prop :=
  LF W0 J js jc bJ X xs xc bX w ∧ GuAt w b1 0 J vs vc ∧ IntsAt w vs J.s ∧ GuAt w (b1 + 1) 0 X us uc ∧ IntsAt w us X.s
theorem LG.call {W0 : World} {J : Gs} {js : Option Addr} {jc bJ : Nat} {X : Gs} {xs : Option Addr} {xc bX b1 : Nat} {vs : Option Addr} {vc : Nat} {us : Option Addr} {uc : Nat} {w w' : World} (h : LG W0 J js jc bJ X xs xc bX b1 vs vc us uc w) (hb : Below w.heap.size w w') : LG W0 J js jc bJ X xs xc bX b1 vs vc us uc w' :=
  ⟨h.1.call hb, h.2.1.call hb, h.2.2.1.call hb, h.2.2.2.1.call hb, h.2.2.2.2.call hb⟩
theorem IntsAt.past7 {w : World} {ss : Option Addr} {l : List Int} {b : Nat} {v0 v1 v2 v3 v4 v5 v6 : Value} (h : IntsAt w ss l) (hf : ∀ a, ss = some a → b ≠ a.block) : IntsAt (Go.Proofs.YtmapdpcfanecdaaGreat.put7 w b v0 v1 v2 v3 v4 v5 v6) ss l := by
  rcases h with h | ⟨k, off, hs, hlt, hi⟩
  · exact .inl h
  · refine .inr ⟨k, off, hs, by rw [size_put7]; exact hlt, fun j hj => ?_⟩
    rw [cell_put7 _ _ _ _ _ _ _ _ _ _ _ (fun e => hf _ hs e.symm)]
    exact hi j hj
theorem Fr7.past7 {w : World} {b k : Nat} {v0 v1 v2 v3 v4 v5 v6 : Value} (h : Fr7 w k) : Fr7 (Go.Proofs.YtmapdpcfanecdaaGreat.put7 w b v0 v1 v2 v3 v4 v5 v6) k := by
  unfold Go.Proofs.YtmapdpcfanecdaaGreat.put7
  exact h.set.set.set.set.set.set.set
/-- Whatever the errno: what came is what was wanted. -/
theorem guessIs_U (J : Gs) (js : Option Addr) (jc : Nat) (e : Int) (vs : Option Addr) (vc : Nat) (w : World) (hj : IntsAt w js J.s) (hv : IntsAt w vs J.s) (hl : J.s.length ≤ maxLen) (hz : e ≠ 0 → J = zeroG ∧ js = none ∧ jc = 0) :
    Calls Tryz.prog 19 #[gv J js jc, .int .i64 e, .int .i64 e, gv J vs vc] w fun r w' => r = .returned (.bool true) ∧ Below w.heap.size w w' := by
  by_cases h0 : e = 0
  · subst h0
    exact guessIs_ok J js jc vs vc w hj hv hl
  · obtain ⟨rfl, rfl, rfl⟩ := hz h0
    exact guessIs_err e zeroG vs vc w (by simpa using h0)

def reg6 (b : Nat) (V F : Int) (s : Option Addr) (c : List Ins) (cap : Nat) (g : Gs) (ss : Option Addr) (gc : Nat) (h : Gs) (st : Option Addr) (hc : Nat) (w' : World) : Prop :=
  (w'.cell? ⟨b, 0, none⟩ = some (.int .i64 V) ∧ w'.cell? ⟨b, 1, none⟩ = some (.int .i64 F) ∧ w'.cell? ⟨b, 2, none⟩ = some (.slice s c.length cap)) ∧ (w'.cell? ⟨b + 1, 0, none⟩ = some (.bool g.n) ∧ w'.cell? ⟨b + 1, 1, none⟩ = some (.bool g.sp.n) ∧ w'.cell? ⟨b + 1, 2, none⟩ = some (.int .i64 g.sp.lo) ∧ w'.cell? ⟨b + 1, 3, none⟩ = some (.int .i64 g.sp.hi) ∧ w'.cell? ⟨b + 1, 4, none⟩ = some (.bool g.t) ∧ w'.cell? ⟨b + 1, 5, none⟩ = some (.bool g.f) ∧ w'.cell? ⟨b + 1, 6, none⟩ = some (.slice ss g.s.length gc)) ∧ (w'.cell? ⟨b + 1 + 1, 0, none⟩ = some (.bool h.n) ∧ w'.cell? ⟨b + 1 + 1, 1, none⟩ = some (.bool h.sp.n) ∧ w'.cell? ⟨b + 1 + 1, 2, none⟩ = some (.int .i64 h.sp.lo) ∧ w'.cell? ⟨b + 1 + 1, 3, none⟩ = some (.int .i64 h.sp.hi) ∧ w'.cell? ⟨b + 1 + 1, 4, none⟩ = some (.bool h.t) ∧ w'.cell? ⟨b + 1 + 1, 5, none⟩ = some (.bool h.f) ∧ w'.cell? ⟨b + 1 + 1, 6, none⟩ = some (.slice st h.s.length hc))

set_option maxHeartbeats 8000000 in
set_option maxRecDepth 20000 in
theorem guessJoins_any (V F : Int) (s : Option Addr) (c : List Ins) (cap : Nat) (g : Gs) (ss : Option Addr) (gc : Nat) (h : Gs) (st : Option Addr) (hc : Nat) (vk vn site : Int) (w : World)
    (hcd : CodeAt w s c) (hs : IntsAt w ss g.s) (h1 : g.s.length ≤ gc) (h2 : gc ≤ maxLen) (ht : IntsAt w st h.s) (h3 : h.s.length ≤ hc) (h4 : hc ≤ maxLen) :
    Calls Tryz.prog 3 #[pv V F s c cap, gv g ss gc, gv h st hc, .agg #[.int .i64 vk, .int .i64 vn], .int .i64 site] w fun e w' => e = .returned (.bool true) ∧ Below w.heap.size w w' := by
  obtain ⟨L0, B0⟩ := lawW_at w V F s c cap g ss gc h st hc vk vn hcd hs ht
  have LW : ∀ {wx : World}, LawAt wx w.heap.size V F s c cap g ss gc h st hc vk vn → CodeAt wx s c ∧ IntsAt wx ss g.s ∧ IntsAt wx st h.s := fun l => ⟨l.2.2.2.2.1, l.2.2.2.2.2.1, l.2.2.2.2.2.2⟩
  have HW0 : Hid (lawW w V F s c cap g ss gc h st hc vk vn = ((((w.alloc (.cells #[.int .i64 V, .int .i64 F, .slice s c.length cap] 24)).alloc (.cells #[.bool g.n, .bool g.sp.n, .int .i64 g.sp.lo, .int .i64 g.sp.hi, .bool g.t, .bool g.f, .slice ss g.s.length gc] 29)).alloc (.cells #[.bool h.n, .bool h.sp.n, .int .i64 h.sp.lo, .int .i64 h.sp.hi, .bool h.t, .bool h.f, .slice st h.s.length hc] 29)).alloc (.cells #[.int .i64 vk, .int .i64 vn] 31))) := rfl
  generalize hW0 : lawW w V F s c cap g ss gc h st hc vk vn = W0 at *
  clear hW0 hcd hs ht
  have mx : maxLen ≤ 9223372036854775807 := by decide
  have hgm : g.s.length ≤ maxLen := Nat.le_trans h1 h2
  have hgl : g.s.length ≤ 9223372036854775807 := Nat.le_trans hgm mx
  have hhl : h.s.length ≤ 9223372036854775807 := Nat.le_trans (Nat.le_trans h3 h4) mx
  clear mx
  go_enter Tryz.func3, Tryz.ntmps3
  go_wp2_with (go_at_call 7; fail)
  rw [← HW0.out]
  refine (joinU V F s c cap g ss gc h st hc _ (LW L0).1 (LW L0).2.1 h1 h2 (LW L0).2.2 h3 h4).mono ?_
  rintro e w1 ⟨J, js, jc, rfl, hJ, iJ1, lJ, mJ, nJ, hb1⟩
  have BB1 : Below W0.heap.size W0 w1 := hb1
  have HJ := hideH hJ
  clear hJ
  generalize HU : ckAllG V F c [g] = u at *
  generalize HWV : ckAllG V F c [g, h] = wv at *
  obtain ⟨P1, G1, H1, VV1, C1, I1, T1⟩ := L0.below BB1
  obtain ⟨⟨p0, p1, p2⟩, pz⟩ := id P1
  obtain ⟨⟨g0, g1, g2, g3, g4, g5, g6⟩, gz⟩ := id G1
  obtain ⟨⟨k0, k1, k2, k3, k4, k5, k6⟩, kz⟩ := id H1
  obtain ⟨v0, v1, vz⟩ := id VV1
  simp only [Nat.zero_add] at g0 g1 g2 g3 g4 g5 g6 k0 k1 k2 k3 k4 k5 k6
  go_wp2_with (go_at_call 8; fail)
  have BA := BB1.alloc BB1.size (.cells #[.bool J.n, .bool J.sp.n, .int .i64 J.sp.lo, .int .i64 J.sp.hi, .bool J.t, .bool J.f, .slice js J.s.length jc] 29)
  have La := L0.below BA
  have hc0 := wideU V F s c cap g ss gc h st hc _ (LW La).1 (LW La).2.1 h1 h2 (LW La).2.2 h3 h4
  try rw [HU] at hc0
  try rw [HWV] at hc0
  refine hc0.mono ?_
  clear hc0
  rintro e w2 ⟨X, xs, xc, rfl, hX, iX2, lX, mX, nX, hb2⟩
  have BB2 := BA.trans (hb2.mono BA.size)
  have iJ2 := (iJ1.alloc _).call hb2
  have AJ2 := (GuAt.new w1 J js jc).call hb2
  have zAJ : W0.heap.size ≤ w1.heap.size := BB1.size
  generalize w1.heap.size = bAJ at *
  clear p0 p1 p2 pz g0 g1 g2 g3 g4 g5 g6 gz k0 k1 k2 k3 k4 k5 k6 kz v0 v1 vz La P1 G1 H1 VV1 C1 I1 T1 hb2 BB1 BA iJ1
  obtain ⟨P2, G2, H2, VV2, C2, I2, T2⟩ := L0.below BB2
  obtain ⟨⟨p0, p1, p2⟩, pz⟩ := id P2
  obtain ⟨⟨g0, g1, g2, g3, g4, g5, g6⟩, gz⟩ := id G2
  obtain ⟨⟨k0, k1, k2, k3, k4, k5, k6⟩, kz⟩ := id H2
  obtain ⟨v0, v1, vz⟩ := id VV2
  simp only [Nat.zero_add] at g0 g1 g2 g3 g4 g5 g6 k0 k1 k2 k3 k4 k5 k6
  have HX := hideH hX
  clear hX
  go_wp2_with (go_at_call 9; fail)
  have BA := BB2.alloc BB2.size (.cells #[.bool X.n, .bool X.sp.n, .int .i64 X.sp.lo, .int .i64 X.sp.hi, .bool X.t, .bool X.f, .slice xs X.s.length xc] 29)
  have La := L0.below BA
  have hc0 := withinU V F s c cap g ss gc h st hc _ (LW La).1 (LW La).2.1 h1 h2 (LW La).2.2 h3 h4
  try rw [HU] at hc0
  try rw [HWV] at hc0
  refine hc0.mono ?_
  clear hc0
  rintro e w3 ⟨rfl, hb3⟩
  have BB3 := BA.trans (hb3.mono BA.size)
  have iJ3 := (iJ2.alloc _).call hb3
  have iX3 := (iX2.alloc _).call hb3
  have AJ3 := (AJ2.alloc _).call hb3
  have AX3 := (GuAt.new w2 X xs xc).call hb3
  have zAX : W0.heap.size ≤ w2.heap.size := BB2.size
  generalize w2.heap.size = bAX at *
  clear p0 p1 p2 pz g0 g1 g2 g3 g4 g5 g6 gz k0 k1 k2 k3 k4 k5 k6 kz v0 v1 vz La P2 G2 H2 VV2 C2 I2 T2 hb3 BB2 BA iJ2 iX2 AJ2
  obtain ⟨P3, G3, H3, VV3, C3, I3, T3⟩ := L0.below BB3
  obtain ⟨⟨p0, p1, p2⟩, pz⟩ := id P3
  obtain ⟨⟨g0, g1, g2, g3, g4, g5, g6⟩, gz⟩ := id G3
  obtain ⟨⟨k0, k1, k2, k3, k4, k5, k6⟩, kz⟩ := id H3
  obtain ⟨v0, v1, vz⟩ := id VV3
  simp only [Nat.zero_add] at g0 g1 g2 g3 g4 g5 g6 k0 k1 k2 k3 k4 k5 k6
  generalize HI : (if wv = 0 then inGs g h else false) = isIn at *
  go_wp2_with (go_at_call 10; fail)
  have La := L0.below BB3
  have hc0 := holdsU V F s c cap g ss gc vk vn site _ (LW La).1 (LW La).2.1 h1 h2
  try rw [HU] at hc0
  try rw [HWV] at hc0
  refine hc0.mono ?_
  clear hc0
  rintro e w4 ⟨rfl, hb4⟩
  have BB4 := BB3.trans (hb4.mono BB3.size)
  have iJ4 := iJ3.call hb4
  have iX4 := iX3.call hb4
  have AJ4 := AJ3.call hb4
  have AX4 := AX3.call hb4
  clear p0 p1 p2 pz g0 g1 g2 g3 g4 g5 g6 gz k0 k1 k2 k3 k4 k5 k6 kz v0 v1 vz La P3 G3 H3 VV3 C3 I3 T3 hb4 BB3 iJ3 iX3 AJ3 AX3
  obtain ⟨P4, G4, H4, VV4, C4, I4, T4⟩ := L0.below BB4
  obtain ⟨⟨p0, p1, p2⟩, pz⟩ := id P4
  obtain ⟨⟨g0, g1, g2, g3, g4, g5, g6⟩, gz⟩ := id G4
  obtain ⟨⟨k0, k1, k2, k3, k4, k5, k6⟩, kz⟩ := id H4
  obtain ⟨v0, v1, vz⟩ := id VV4
  simp only [Nat.zero_add] at g0 g1 g2 g3 g4 g5 g6 k0 k1 k2 k3 k4 k5 k6
  generalize HK : kindE u vk = k at *
  generalize HH : (if k = 0 then heldGs g vk vn site else false) = held at *
  go_wp2_with (go_at_call 11; fail)
  have La := L0.below BB4
  have hc0 := truthU V F s c cap g ss gc _ (LW La).1 (LW La).2.1 h1 h2
  try rw [HU] at hc0
  try rw [HWV] at hc0
  refine hc0.mono ?_
  clear hc0
  rintro e w5 ⟨rfl, hb5⟩
  have BB5 := BB4.trans (hb5.mono BB4.size)
  have iJ5 := iJ4.call hb5
  have iX5 := iX4.call hb5
  have AJ5 := AJ4.call hb5
  have AX5 := AX4.call hb5
  clear p0 p1 p2 pz g0 g1 g2 g3 g4 g5 g6 gz k0 k1 k2 k3 k4 k5 k6 kz v0 v1 vz La P4 G4 H4 VV4 C4 I4 T4 hb5 BB4 iJ4 iX4 AJ4 AX4
  obtain ⟨P5, G5, H5, VV5, C5, I5, T5⟩ := L0.below BB5
  obtain ⟨⟨p0, p1, p2⟩, pz⟩ := id P5
  obtain ⟨⟨g0, g1, g2, g3, g4, g5, g6⟩, gz⟩ := id G5
  obtain ⟨⟨k0, k1, k2, k3, k4, k5, k6⟩, kz⟩ := id H5
  obtain ⟨v0, v1, vz⟩ := id VV5
  simp only [Nat.zero_add] at g0 g1 g2 g3 g4 g5 g6 k0 k1 k2 k3 k4 k5 k6
  generalize HY : (if u = 0 then yesGs g else false) = yes at *
  generalize HN : (if u = 0 then noGs g else false) = no at *
  go_wp2
  have KS6 : ∀ wx, LawAt wx w.heap.size V F s c cap g ss gc h st hc vk vn → reg6 w.heap.size V F s c cap g ss gc h st hc wx := fun wx l => ⟨l.1.1, by simpa using l.2.1.1, by simpa using l.2.2.1.1⟩
  clear p0 p1 p2 pz g0 g1 g2 g3 g4 g5 g6 gz k0 k1 k2 k3 k4 k5 k6 kz v0 v1 vz P5 G5 H5 VV5 C5 I5 T5
  go_cut [22, 23] (fun t22 t23 wc => t22 = .int .i64 u ∧ t23 = .int .i64 wv ∧ Below W0.heap.size W0 wc ∧ IntsAt wc js J.s ∧ IntsAt wc xs X.s ∧ GuAt wc bAJ 0 J js jc ∧ GuAt wc bAX 0 X xs xc)
  case first =>
    rename_i J1 K1 hJ1 hK1
    have BB6 := BB5.drew
    have iJ6 := iJ5.drew
    have iX6 := iX5.drew
    have AJ6 := AJ5.drew
    have AX6 := AX5.drew
    refine wp_region_held_drew (S := reg6 w.heap.size V F s c cap g ss gc h st hc) (by kernel_rfl) (KS6 _ (L0.below BB6)) (fun hHeld => ?_)
    unfold reg6 at hHeld KS6 ⊢
    clear BB5 iJ5 iX5 AJ5 AX5
    generalize w5.drew = w6 at *
    refine wpAnyH_take (i := 0) (v := ?_) rfl (by kernel_rfl) (by kernel_rfl) (by kernel_rfl) (fun _ _ _ h => h) (Or.inl ⟨?_, ?_⟩) (by assumption) ?_
    rotate_left
    · rfl
    · (intro w hSw; (try dsimp only at hSw); first | (go_simp; done) | (go_simp; with_reducible rfl))
    (try simp only [Act.put, List.getElem_toArray, List.getElem_cons_zero, List.getElem_cons_succ, List.setIfInBounds_toArray, List.set_cons_zero, List.set_cons_succ])
    refine wpAnyH_take (i := 1) (v := ?_) rfl (by kernel_rfl) (by kernel_rfl) (by kernel_rfl) (fun _ _ _ h => h) (Or.inl ⟨?_, ?_⟩) (by assumption) ?_
    rotate_left
    · rfl
    · (intro w hSw; (try dsimp only at hSw); first | (go_simp; done) | (go_simp; with_reducible rfl))
    (try simp only [Act.put, List.getElem_toArray, List.getElem_cons_zero, List.getElem_cons_succ, List.setIfInBounds_toArray, List.set_cons_zero, List.set_cons_succ])
    refine wpAnyH_take (i := 4) (v := ?_) rfl (by kernel_rfl) (by kernel_rfl) (by kernel_rfl) (fun _ _ _ h => h) (Or.inl ⟨?_, ?_⟩) (by assumption) ?_
    rotate_left
    · rfl
    · (intro w hSw; (try dsimp only at hSw); first | (go_simp; done) | (go_simp; with_reducible rfl))
    (try simp only [Act.put, List.getElem_toArray, List.getElem_cons_zero, List.getElem_cons_succ, List.setIfInBounds_toArray, List.set_cons_zero, List.set_cons_succ])
    refine wpAnyH_take (i := 5) (v := ?_) rfl (by kernel_rfl) (by kernel_rfl) (by kernel_rfl) (fun _ _ _ h => h) (Or.inl ⟨?_, ?_⟩) (by assumption) ?_
    rotate_left
    · rfl
    · (intro w hSw; (try dsimp only at hSw); first | (go_simp; done) | (go_simp; with_reducible rfl))
    (try simp only [Act.put, List.getElem_toArray, List.getElem_cons_zero, List.getElem_cons_succ, List.setIfInBounds_toArray, List.set_cons_zero, List.set_cons_succ])
    refine wpAnyH_take (i := 6) (v := ?_) rfl (by kernel_rfl) (by kernel_rfl) (by kernel_rfl) (fun _ _ _ h => h) (Or.inl ⟨?_, ?_⟩) (by assumption) ?_
    rotate_left
    · rfl
    · (intro w hSw; (try dsimp only at hSw); first | (go_simp; done) | (go_simp; with_reducible rfl))
    (try simp only [Act.put, List.getElem_toArray, List.getElem_cons_zero, List.getElem_cons_succ, List.setIfInBounds_toArray, List.set_cons_zero, List.set_cons_succ])
    refine wpAnyH_ready (rs := [2, 7]) (by kernel_rfl) (by simp) ?_
    refine AllReadyH.cons rfl (fun K hK => ?_) (AllReadyH.cons rfl (fun K hK => ?_) AllReadyH.nil)
    · go_simp
      have BB7 := BB6.alloc BB6.size (.cells #[.bool g.n, .bool g.sp.n, .int .i64 g.sp.lo, .int .i64 g.sp.hi, .bool g.t, .bool g.f, .slice ss g.s.length gc] 29)
      have iJ7 := iJ6.alloc (.cells #[.bool g.n, .bool g.sp.n, .int .i64 g.sp.lo, .int .i64 g.sp.hi, .bool g.t, .bool g.f, .slice ss g.s.length gc] 29)
      have iX7 := iX6.alloc (.cells #[.bool g.n, .bool g.sp.n, .int .i64 g.sp.lo, .int .i64 g.sp.hi, .bool g.t, .bool g.f, .slice ss g.s.length gc] 29)
      have AJ7 := AJ6.alloc (.cells #[.bool g.n, .bool g.sp.n, .int .i64 g.sp.lo, .int .i64 g.sp.hi, .bool g.t, .bool g.f, .slice ss g.s.length gc] 29)
      have AX7 := AX6.alloc (.cells #[.bool g.n, .bool g.sp.n, .int .i64 g.sp.lo, .int .i64 g.sp.hi, .bool g.t, .bool g.f, .slice ss g.s.length gc] 29)
      have D7 := GsAt.new1 w6 g ss gc (LW (L0.below BB6)).2.1 h1 h2
      refine hK.out _ _ (KS6 _ (L0.below BB7)) (fun hHeld7 => ?_)
      clear hK K
      (try simp only [Act.put, List.getElem_toArray, List.getElem_cons_zero, List.getElem_cons_succ, List.setIfInBounds_toArray, List.set_cons_zero, List.set_cons_succ])
      generalize w6.alloc (.cells #[.bool g.n, .bool g.sp.n, .int .i64 g.sp.lo, .int .i64 g.sp.hi, .bool g.t, .bool g.f, .slice ss g.s.length gc] 29) = w7 at *
      generalize w6.heap.size = db at *
      refine wpAnyH_ready (rs := [3, 7]) (by kernel_rfl) (by simp) ?_
      refine AllReadyH.cons rfl (fun K hK => ?_) (AllReadyH.cons rfl (fun K hK => ?_) AllReadyH.nil)
      · go_simp
        have hc0 := checkGuesses_any V F s c cap (some ⟨db, 0, none⟩) [g] 1 w7 (LW (L0.below BB7)).1 D7 (by simp)
        rw [HU] at hc0
        refine hc0.mono ?_
        clear hc0
        rintro e w8 ⟨rfl, hb8⟩
        have BB8 := BB7.trans (hb8.mono BB7.size)
        have iJ8 := iJ7.call hb8
        have iX8 := iX7.call hb8
        have AJ8 := AJ7.call hb8
        have AX8 := AX7.call hb8
        have D8 := D7.call hb8
        refine hK.out _ _ (KS6 _ (L0.below BB8)) (fun hHeld8 => ?_)
        clear hK K hb8
        (try simp only [Act.put, List.getElem_toArray, List.getElem_cons_zero, List.getElem_cons_succ, List.setIfInBounds_toArray, List.set_cons_zero, List.set_cons_succ])
        refine wpAnyH_ready (rs := [7]) (by kernel_rfl) (by simp) ?_
        refine AllReadyH.cons rfl (fun K hK => ?_) AllReadyH.nil
        go_simp
        have BB9 := BB8.alloc BB8.size (.cells #[.bool g.n, .bool g.sp.n, .int .i64 g.sp.lo, .int .i64 g.sp.hi, .bool g.t, .bool g.f, .slice ss g.s.length gc, .bool h.n, .bool h.sp.n, .int .i64 h.sp.lo, .int .i64 h.sp.hi, .bool h.t, .bool h.f, .slice st h.s.length hc] 29)
        have iJ9 := iJ8.alloc (.cells #[.bool g.n, .bool g.sp.n, .int .i64 g.sp.lo, .int .i64 g.sp.hi, .bool g.t, .bool g.f, .slice ss g.s.length gc, .bool h.n, .bool h.sp.n, .int .i64 h.sp.lo, .int .i64 h.sp.hi, .bool h.t, .bool h.f, .slice st h.s.length hc] 29)
        have iX9 := iX8.alloc (.cells #[.bool g.n, .bool g.sp.n, .int .i64 g.sp.lo, .int .i64 g.sp.hi, .bool g.t, .bool g.f, .slice ss g.s.length gc, .bool h.n, .bool h.sp.n, .int .i64 h.sp.lo, .int .i64 h.sp.hi, .bool h.t, .bool h.f, .slice st h.s.length hc] 29)
        have AJ9 := AJ8.alloc (.cells #[.bool g.n, .bool g.sp.n, .int .i64 g.sp.lo, .int .i64 g.sp.hi, .bool g.t, .bool g.f, .slice ss g.s.length gc, .bool h.n, .bool h.sp.n, .int .i64 h.sp.lo, .int .i64 h.sp.hi, .bool h.t, .bool h.f, .slice st h.s.length hc] 29)
        have AX9 := AX8.alloc (.cells #[.bool g.n, .bool g.sp.n, .int .i64 g.sp.lo, .int .i64 g.sp.hi, .bool g.t, .bool g.f, .slice ss g.s.length gc, .bool h.n, .bool h.sp.n, .int .i64 h.sp.lo, .int .i64 h.sp.hi, .bool h.t, .bool h.f, .slice st h.s.length hc] 29)
        have D9 := D8.alloc (.cells #[.bool g.n, .bool g.sp.n, .int .i64 g.sp.lo, .int .i64 g.sp.hi, .bool g.t, .bool g.f, .slice ss g.s.length gc, .bool h.n, .bool h.sp.n, .int .i64 h.sp.lo, .int .i64 h.sp.hi, .bool h.t, .bool h.f, .slice st h.s.length hc] 29)
        have E9 := GsAt.new2 w8 g ss gc h st hc (LW (L0.below BB8)).2.1 h1 h2 (LW (L0.below BB8)).2.2 h3 h4
        unfold twoW at E9
        refine hK.out _ _ (KS6 _ (L0.below BB9)) (fun hHeld9 => ?_)
        clear hK K
        (try simp only [Act.put, List.getElem_toArray, List.getElem_cons_zero, List.getElem_cons_succ, List.setIfInBounds_toArray, List.set_cons_zero, List.set_cons_succ])
        generalize w8.alloc (.cells #[.bool g.n, .bool g.sp.n, .int .i64 g.sp.lo, .int .i64 g.sp.hi, .bool g.t, .bool g.f, .slice ss g.s.length gc, .bool h.n, .bool h.sp.n, .int .i64 h.sp.lo, .int .i64 h.sp.hi, .bool h.t, .bool h.f, .slice st h.s.length hc] 29) = w9 at *
        generalize w8.heap.size = eb at *
        refine wpAnyH_ready (rs := [8]) (by kernel_rfl) (by simp) ?_
        refine AllReadyH.cons rfl (fun K hK => ?_) AllReadyH.nil
        go_simp
        have hc0 := checkGuesses_any V F s c cap (some ⟨eb, 0, none⟩) [g, h] 2 w9 (LW (L0.below BB9)).1 E9 (by simp)
        rw [HWV] at hc0
        refine hc0.mono ?_
        clear hc0
        rintro e w10 ⟨rfl, hb10⟩
        have BB10 := BB9.trans (hb10.mono BB9.size)
        have iJ10 := iJ9.call hb10
        have iX10 := iX9.call hb10
        have AJ10 := AJ9.call hb10
        have AX10 := AX9.call hb10
        have D10 := D9.call hb10
        have E10 := E9.call hb10
        refine hK.out _ _ (KS6 _ (L0.below BB10)) (fun hHeld10 => ?_)
        clear hK K hb10
        (try simp only [Act.put, List.getElem_toArray, List.getElem_cons_zero, List.getElem_cons_succ, List.setIfInBounds_toArray, List.set_cons_zero, List.set_cons_succ])
        refine wpAnyH_take (i := 9) (v := ?_) rfl (by kernel_rfl) (by kernel_rfl) (by kernel_rfl) (fun _ _ _ h => h) (Or.inl ⟨?_, ?_⟩) (by assumption) ?_
        rotate_left
        · rfl
        · (intro w hSw; (try dsimp only at hSw); first | (go_simp; done) | (go_simp; with_reducible rfl))
        (try simp only [Act.put, List.getElem_toArray, List.getElem_cons_zero, List.getElem_cons_succ, List.setIfInBounds_toArray, List.set_cons_zero, List.set_cons_succ])
        refine wpAnyH_take (i := 10) (v := ?_) rfl (by kernel_rfl) (by kernel_rfl) (by kernel_rfl) (fun _ _ _ h => h) (Or.inl ⟨?_, ?_⟩) (by assumption) ?_
        rotate_left
        · rfl
        · (intro w hSw; (try dsimp only at hSw); first | (go_simp; done) | (go_simp; with_reducible rfl))
        (try simp only [Act.put, List.getElem_toArray, List.getElem_cons_zero, List.getElem_cons_succ, List.setIfInBounds_toArray, List.set_cons_zero, List.set_cons_succ])
        refine wpAnyH_done (by kernel_rfl) ?_ _
        first | refine hK1 _ _ (Met.intro (hJ1 _ _ ?_)) | refine Met.intro (hJ1 _ _ ?_) | refine hJ1 _ _ ?_
        (repeat apply Exists.intro)
        refine ⟨?_, rfl⟩
        exact ⟨rfl, rfl, BB10, iJ10, iX10, AJ10, AX10⟩
      · go_simp
        have BB8 := BB7.alloc BB7.size (.cells #[.bool g.n, .bool g.sp.n, .int .i64 g.sp.lo, .int .i64 g.sp.hi, .bool g.t, .bool g.f, .slice ss g.s.length gc, .bool h.n, .bool h.sp.n, .int .i64 h.sp.lo, .int .i64 h.sp.hi, .bool h.t, .bool h.f, .slice st h.s.length hc] 29)
        have iJ8 := iJ7.alloc (.cells #[.bool g.n, .bool g.sp.n, .int .i64 g.sp.lo, .int .i64 g.sp.hi, .bool g.t, .bool g.f, .slice ss g.s.length gc, .bool h.n, .bool h.sp.n, .int .i64 h.sp.lo, .int .i64 h.sp.hi, .bool h.t, .bool h.f, .slice st h.s.length hc] 29)
        have iX8 := iX7.alloc (.cells #[.bool g.n, .bool g.sp.n, .int .i64 g.sp.lo, .int .i64 g.sp.hi, .bool g.t, .bool g.f, .slice ss g.s.length gc, .bool h.n, .bool h.sp.n, .int .i64 h.sp.lo, .int .i64 h.sp.hi, .bool h.t, .bool h.f, .slice st h.s.length hc] 29)
        have AJ8 := AJ7.alloc (.cells #[.bool g.n, .bool g.sp.n, .int .i64 g.sp.lo, .int .i64 g.sp.hi, .bool g.t, .bool g.f, .slice ss g.s.length gc, .bool h.n, .bool h.sp.n, .int .i64 h.sp.lo, .int .i64 h.sp.hi, .bool h.t, .bool h.f, .slice st h.s.length hc] 29)
        have AX8 := AX7.alloc (.cells #[.bool g.n, .bool g.sp.n, .int .i64 g.sp.lo, .int .i64 g.sp.hi, .bool g.t, .bool g.f, .slice ss g.s.length gc, .bool h.n, .bool h.sp.n, .int .i64 h.sp.lo, .int .i64 h.sp.hi, .bool h.t, .bool h.f, .slice st h.s.length hc] 29)
        have D8 := D7.alloc (.cells #[.bool g.n, .bool g.sp.n, .int .i64 g.sp.lo, .int .i64 g.sp.hi, .bool g.t, .bool g.f, .slice ss g.s.length gc, .bool h.n, .bool h.sp.n, .int .i64 h.sp.lo, .int .i64 h.sp.hi, .bool h.t, .bool h.f, .slice st h.s.length hc] 29)
        have E8 := GsAt.new2 w7 g ss gc h st hc (LW (L0.below BB7)).2.1 h1 h2 (LW (L0.below BB7)).2.2 h3 h4
        unfold twoW at E8
        refine hK.out _ _ (KS6 _ (L0.below BB8)) (fun hHeld8 => ?_)
        clear hK K
        (try simp only [Act.put, List.getElem_toArray, List.getElem_cons_zero, List.getElem_cons_succ, List.setIfInBounds_toArray, List.set_cons_zero, List.set_cons_succ])
        generalize w7.alloc (.cells #[.bool g.n, .bool g.sp.n, .int .i64 g.sp.lo, .int .i64 g.sp.hi, .bool g.t, .bool g.f, .slice ss g.s.length gc, .bool h.n, .bool h.sp.n, .int .i64 h.sp.lo, .int .i64 h.sp.hi, .bool h.t, .bool h.f, .slice st h.s.length hc] 29) = w8 at *
        generalize w7.heap.size = eb at *
        refine wpAnyH_ready (rs := [3]) (by kernel_rfl) (by simp) ?_
        refine AllReadyH.cons rfl (fun K hK => ?_) AllReadyH.nil
        go_simp
        have hc0 := checkGuesses_any V F s c cap (some ⟨db, 0, none⟩) [g] 1 w8 (LW (L0.below BB8)).1 D8 (by simp)
        rw [HU] at hc0
        refine hc0.mono ?_
        clear hc0
        rintro e w9 ⟨rfl, hb9⟩
        have BB9 := BB8.trans (hb9.mono BB8.size)
        have iJ9 := iJ8.call hb9
        have iX9 := iX8.call hb9
        have AJ9 := AJ8.call hb9
        have AX9 := AX8.call hb9
        have D9 := D8.call hb9
        have E9 := E8.call hb9
        refine hK.out _ _ (KS6 _ (L0.below BB9)) (fun hHeld9 => ?_)
        clear hK K hb9
        (try simp only [Act.put, List.getElem_toArray, List.getElem_cons_zero, List.getElem_cons_succ, List.setIfInBounds_toArray, List.set_cons_zero, List.set_cons_succ])
        refine wpAnyH_ready (rs := [8]) (by kernel_rfl) (by simp) ?_
        refine AllReadyH.cons rfl (fun K hK => ?_) AllReadyH.nil
        go_simp
        have hc0 := checkGuesses_any V F s c cap (some ⟨eb, 0, none⟩) [g, h] 2 w9 (LW (L0.below BB9)).1 E9 (by simp)
        rw [HWV] at hc0
        refine hc0.mono ?_
        clear hc0
        rintro e w10 ⟨rfl, hb10⟩
        have BB10 := BB9.trans (hb10.mono BB9.size)
        have iJ10 := iJ9.call hb10
        have iX10 := iX9.call hb10
        have AJ10 := AJ9.call hb10
        have AX10 := AX9.call hb10
        have D10 := D9.call hb10
        have E10 := E9.call hb10
        refine hK.out _ _ (KS6 _ (L0.below BB10)) (fun hHeld10 => ?_)
        clear hK K hb10
        (try simp only [Act.put, List.getElem_toArray, List.getElem_cons_zero, List.getElem_cons_succ, List.setIfInBounds_toArray, List.set_cons_zero, List.set_cons_succ])
        refine wpAnyH_take (i := 9) (v := ?_) rfl (by kernel_rfl) (by kernel_rfl) (by kernel_rfl) (fun _ _ _ h => h) (Or.inl ⟨?_, ?_⟩) (by assumption) ?_
        rotate_left
        · rfl
        · (intro w hSw; (try dsimp only at hSw); first | (go_simp; done) | (go_simp; with_reducible rfl))
        (try simp only [Act.put, List.getElem_toArray, List.getElem_cons_zero, List.getElem_cons_succ, List.setIfInBounds_toArray, List.set_cons_zero, List.set_cons_succ])
        refine wpAnyH_take (i := 10) (v := ?_) rfl (by kernel_rfl) (by kernel_rfl) (by kernel_rfl) (fun _ _ _ h => h) (Or.inl ⟨?_, ?_⟩) (by assumption) ?_
        rotate_left
        · rfl
        · (intro w hSw; (try dsimp only at hSw); first | (go_simp; done) | (go_simp; with_reducible rfl))
        (try simp only [Act.put, List.getElem_toArray, List.getElem_cons_zero, List.getElem_cons_succ, List.setIfInBounds_toArray, List.set_cons_zero, List.set_cons_succ])
        refine wpAnyH_done (by kernel_rfl) ?_ _
        first | refine hK1 _ _ (Met.intro (hJ1 _ _ ?_)) | refine Met.intro (hJ1 _ _ ?_) | refine hJ1 _ _ ?_
        (repeat apply Exists.intro)
        refine ⟨?_, rfl⟩
        exact ⟨rfl, rfl, BB10, iJ10, iX10, AJ10, AX10⟩
    · go_simp
      have BB7 := BB6.alloc BB6.size (.cells #[.bool g.n, .bool g.sp.n, .int .i64 g.sp.lo, .int .i64 g.sp.hi, .bool g.t, .bool g.f, .slice ss g.s.length gc, .bool h.n, .bool h.sp.n, .int .i64 h.sp.lo, .int .i64 h.sp.hi, .bool h.t, .bool h.f, .slice st h.s.length hc] 29)
      have iJ7 := iJ6.alloc (.cells #[.bool g.n, .bool g.sp.n, .int .i64 g.sp.lo, .int .i64 g.sp.hi, .bool g.t, .bool g.f, .slice ss g.s.length gc, .bool h.n, .bool h.sp.n, .int .i64 h.sp.lo, .int .i64 h.sp.hi, .bool h.t, .bool h.f, .slice st h.s.length hc] 29)
      have iX7 := iX6.alloc (.cells #[.bool g.n, .bool g.sp.n, .int .i64 g.sp.lo, .int .i64 g.sp.hi, .bool g.t, .bool g.f, .slice ss g.s.length gc, .bool h.n, .bool h.sp.n, .int .i64 h.sp.lo, .int .i64 h.sp.hi, .bool h.t, .bool h.f, .slice st h.s.length hc] 29)
      have AJ7 := AJ6.alloc (.cells #[.bool g.n, .bool g.sp.n, .int .i64 g.sp.lo, .int .i64 g.sp.hi, .bool g.t, .bool g.f, .slice ss g.s.length gc, .bool h.n, .bool h.sp.n, .int .i64 h.sp.lo, .int .i64 h.sp.hi, .bool h.t, .bool h.f, .slice st h.s.length hc] 29)
      have AX7 := AX6.alloc (.cells #[.bool g.n, .bool g.sp.n, .int .i64 g.sp.lo, .int .i64 g.sp.hi, .bool g.t, .bool g.f, .slice ss g.s.length gc, .bool h.n, .bool h.sp.n, .int .i64 h.sp.lo, .int .i64 h.sp.hi, .bool h.t, .bool h.f, .slice st h.s.length hc] 29)
      have E7 := GsAt.new2 w6 g ss gc h st hc (LW (L0.below BB6)).2.1 h1 h2 (LW (L0.below BB6)).2.2 h3 h4
      unfold twoW at E7
      refine hK.out _ _ (KS6 _ (L0.below BB7)) (fun hHeld7 => ?_)
      clear hK K
      (try simp only [Act.put, List.getElem_toArray, List.getElem_cons_zero, List.getElem_cons_succ, List.setIfInBounds_toArray, List.set_cons_zero, List.set_cons_succ])
      generalize w6.alloc (.cells #[.bool g.n, .bool g.sp.n, .int .i64 g.sp.lo, .int .i64 g.sp.hi, .bool g.t, .bool g.f, .slice ss g.s.length gc, .bool h.n, .bool h.sp.n, .int .i64 h.sp.lo, .int .i64 h.sp.hi, .bool h.t, .bool h.f, .slice st h.s.length hc] 29) = w7 at *
      generalize w6.heap.size = eb at *
      refine wpAnyH_ready (rs := [2]) (by kernel_rfl) (by simp) ?_
      refine AllReadyH.cons rfl (fun K hK => ?_) AllReadyH.nil
      go_simp
      have BB8 := BB7.alloc BB7.size (.cells #[.bool g.n, .bool g.sp.n, .int .i64 g.sp.lo, .int .i64 g.sp.hi, .bool g.t, .bool g.f, .slice ss g.s.length gc] 29)
      have iJ8 := iJ7.alloc (.cells #[.bool g.n, .bool g.sp.n, .int .i64 g.sp.lo, .int .i64 g.sp.hi, .bool g.t, .bool g.f, .slice ss g.s.length gc] 29)
      have iX8 := iX7.alloc (.cells #[.bool g.n, .bool g.sp.n, .int .i64 g.sp.lo, .int .i64 g.sp.hi, .bool g.t, .bool g.f, .slice ss g.s.length gc] 29)
      have AJ8 := AJ7.alloc (.cells #[.bool g.n, .bool g.sp.n, .int .i64 g.sp.lo, .int .i64 g.sp.hi, .bool g.t, .bool g.f, .slice ss g.s.length gc] 29)
      have AX8 := AX7.alloc (.cells #[.bool g.n, .bool g.sp.n, .int .i64 g.sp.lo, .int .i64 g.sp.hi, .bool g.t, .bool g.f, .slice ss g.s.length gc] 29)
      have E8 := E7.alloc (.cells #[.bool g.n, .bool g.sp.n, .int .i64 g.sp.lo, .int .i64 g.sp.hi, .bool g.t, .bool g.f, .slice ss g.s.length gc] 29)
      have D8 := GsAt.new1 w7 g ss gc (LW (L0.below BB7)).2.1 h1 h2
      refine hK.out _ _ (KS6 _ (L0.below BB8)) (fun hHeld8 => ?_)
      clear hK K
      (try simp only [Act.put, List.getElem_toArray, List.getElem_cons_zero, List.getElem_cons_succ, List.setIfInBounds_toArray, List.set_cons_zero, List.set_cons_succ])
      generalize w7.alloc (.cells #[.bool g.n, .bool g.sp.n, .int .i64 g.sp.lo, .int .i64 g.sp.hi, .bool g.t, .bool g.f, .slice ss g.s.length gc] 29) = w8 at *
      generalize w7.heap.size = db at *
      refine wpAnyH_ready (rs := [3]) (by kernel_rfl) (by simp) ?_
      refine AllReadyH.cons rfl (fun K hK => ?_) AllReadyH.nil
      go_simp
      have hc0 := checkGuesses_any V F s c cap (some ⟨db, 0, none⟩) [g] 1 w8 (LW (L0.below BB8)).1 D8 (by simp)
      rw [HU] at hc0
      refine hc0.mono ?_
      clear hc0
      rintro e w9 ⟨rfl, hb9⟩
      have BB9 := BB8.trans (hb9.mono BB8.size)
      have iJ9 := iJ8.call hb9
      have iX9 := iX8.call hb9
      have AJ9 := AJ8.call hb9
      have AX9 := AX8.call hb9
      have D9 := D8.call hb9
      have E9 := E8.call hb9
      refine hK.out _ _ (KS6 _ (L0.below BB9)) (fun hHeld9 => ?_)
      clear hK K hb9
      (try simp only [Act.put, List.getElem_toArray, List.getElem_cons_zero, List.getElem_cons_succ, List.setIfInBounds_toArray, List.set_cons_zero, List.set_cons_succ])
      refine wpAnyH_ready (rs := [8]) (by kernel_rfl) (by simp) ?_
      refine AllReadyH.cons rfl (fun K hK => ?_) AllReadyH.nil
      go_simp
      have hc0 := checkGuesses_any V F s c cap (some ⟨eb, 0, none⟩) [g, h] 2 w9 (LW (L0.below BB9)).1 E9 (by simp)
      rw [HWV] at hc0
      refine hc0.mono ?_
      clear hc0
      rintro e w10 ⟨rfl, hb10⟩
      have BB10 := BB9.trans (hb10.mono BB9.size)
      have iJ10 := iJ9.call hb10
      have iX10 := iX9.call hb10
      have AJ10 := AJ9.call hb10
      have AX10 := AX9.call hb10
      have D10 := D9.call hb10
      have E10 := E9.call hb10
      refine hK.out _ _ (KS6 _ (L0.below BB10)) (fun hHeld10 => ?_)
      clear hK K hb10
      (try simp only [Act.put, List.getElem_toArray, List.getElem_cons_zero, List.getElem_cons_succ, List.setIfInBounds_toArray, List.set_cons_zero, List.set_cons_succ])
      refine wpAnyH_take (i := 9) (v := ?_) rfl (by kernel_rfl) (by kernel_rfl) (by kernel_rfl) (fun _ _ _ h => h) (Or.inl ⟨?_, ?_⟩) (by assumption) ?_
      rotate_left
      · rfl
      · (intro w hSw; (try dsimp only at hSw); first | (go_simp; done) | (go_simp; with_reducible rfl))
      (try simp only [Act.put, List.getElem_toArray, List.getElem_cons_zero, List.getElem_cons_succ, List.setIfInBounds_toArray, List.set_cons_zero, List.set_cons_succ])
      refine wpAnyH_take (i := 10) (v := ?_) rfl (by kernel_rfl) (by kernel_rfl) (by kernel_rfl) (fun _ _ _ h => h) (Or.inl ⟨?_, ?_⟩) (by assumption) ?_
      rotate_left
      · rfl
      · (intro w hSw; (try dsimp only at hSw); first | (go_simp; done) | (go_simp; with_reducible rfl))
      (try simp only [Act.put, List.getElem_toArray, List.getElem_cons_zero, List.getElem_cons_succ, List.setIfInBounds_toArray, List.set_cons_zero, List.set_cons_succ])
      refine wpAnyH_done (by kernel_rfl) ?_ _
      first | refine hK1 _ _ (Met.intro (hJ1 _ _ ?_)) | refine Met.intro (hJ1 _ _ ?_) | refine hJ1 _ _ ?_
      (repeat apply Exists.intro)
      refine ⟨?_, rfl⟩
      exact ⟨rfl, rfl, BB10, iJ10, iX10, AJ10, AX10⟩
  obtain ⟨rfl, rfl, BB7, iJ7, iX7, AJ7, AX7⟩ := hcut
  have LF7 : LF W0 J js jc bAJ X xs xc bAX wc := ⟨BB7, iJ7, iX7, AJ7, AX7⟩
  clear BB5 iJ5 iX5 AJ5 AX5 iJ7 iX7 AJ7 AX7
  obtain ⟨Pq, Gq, Hq, VVq, Cq, Iq, Tq⟩ := L0.below BB7
  obtain ⟨⟨p0, p1, p2⟩, pz⟩ := id Pq
  obtain ⟨⟨g0, g1, g2, g3, g4, g5, g6⟩, gz⟩ := id Gq
  obtain ⟨⟨k0, k1, k2, k3, k4, k5, k6⟩, kz⟩ := id Hq
  obtain ⟨v0, v1, vz⟩ := id VVq
  simp only [Nat.zero_add] at g0 g1 g2 g3 g4 g5 g6 k0 k1 k2 k3 k4 k5 k6
  have HBk : Hid (∃ bk : Bool, bk = (decide (u = 0) && (decide (vk < 0) || decide (3 < vk))) ∧ k = if bk = true then 6 else u) := by
    refine ⟨_, rfl, ?_⟩
    rw [← HK]
    unfold kindE
    by_cases e : u = 0 <;> by_cases e2 : vk < 0 <;> by_cases e3 : 3 < vk <;> simp [e, e2, e3]
  obtain ⟨bk, hb1, hb2⟩ := HBk.out
  have Hb1 := hideH hb1
  have Hb2 := hideH hb2
  clear hb1 hb2 HBk
  go_upto_region 8 with fail
  go_cut [88] (fun t wy => t = .bool bk ∧ LF W0 J js jc bAJ X xs xc bAX wy)
  case first =>
    by_cases e1 : u = 0
    · subst e1
      by_cases e2 : vk < 0
      · go_wp2_with fail
        go_meet
        exact ⟨by rw [Hb1.out]; simp [e2], LF7⟩
      · by_cases e3 : 3 < vk
        · go_wp2_with fail
          go_meet
          exact ⟨by rw [Hb1.out]; simp [e2, e3], LF7⟩
        · go_wp2_with fail
          go_meet
          exact ⟨by rw [Hb1.out]; simp [e2, e3], LF7⟩
    · have e1b : (u == 0) = false := by simpa using e1
      go_wp2_with fail
      go_meet
      exact ⟨by rw [Hb1.out]; simp [e1], LF7⟩
  obtain ⟨rfl, LF8⟩ := hcut
  clear p0 p1 p2 pz g0 g1 g2 g3 g4 g5 g6 gz k0 k1 k2 k3 k4 k5 k6 kz v0 v1 vz Pq Gq Hq VVq Cq Iq Tq LF7 BB7
  go_upto_if 88 with fail
  go_cut [24] (fun t wy => t = .int .i64 k ∧ LF W0 J js jc bAJ X xs xc bAX wy)
  case first =>
    cases bk with
    | true =>
      go_wp2_with fail
      go_meet
      exact ⟨by rw [Hb2.out]; simp, LF8⟩
    | false =>
      go_wp2_with fail
      go_meet
      exact ⟨by rw [Hb2.out]; simp, LF8⟩
  obtain ⟨rfl, LF9⟩ := hcut
  clear LF8 Hb1 Hb2
  go_upto_if 90 with fail
  have Bc8 : Below wc.heap.size wc ((wc.alloc (.cells #[.bool false, .bool false, .int .i64 0, .int .i64 0, .bool false, .bool false, .slice none 0 0] 29)).alloc (.cells #[.bool false, .bool false, .int .i64 0, .int .i64 0, .bool false, .bool false, .slice none 0 0] 29)) := by go_grown
  have U8 : GuAt ((wc.alloc (.cells #[.bool false, .bool false, .int .i64 0, .int .i64 0, .bool false, .bool false, .slice none 0 0] 29)).alloc (.cells #[.bool false, .bool false, .int .i64 0, .int .i64 0, .bool false, .bool false, .slice none 0 0] 29)) wc.heap.size 0 zeroG none 0 := (GuAt.new wc zeroG none 0).alloc (.cells #[.bool false, .bool false, .int .i64 0, .int .i64 0, .bool false, .bool false, .slice none 0 0] 29)
  have Y8 : GuAt ((wc.alloc (.cells #[.bool false, .bool false, .int .i64 0, .int .i64 0, .bool false, .bool false, .slice none 0 0] 29)).alloc (.cells #[.bool false, .bool false, .int .i64 0, .int .i64 0, .bool false, .bool false, .slice none 0 0] 29)) (wc.heap.size + 1) 0 zeroG none 0 := by
    have := GuAt.new (wc.alloc (.cells #[.bool false, .bool false, .int .i64 0, .int .i64 0, .bool false, .bool false, .slice none 0 0] 29)) zeroG none 0
    rw [World.size_alloc] at this
    exact this
  have FU8 : Fr7 ((wc.alloc (.cells #[.bool false, .bool false, .int .i64 0, .int .i64 0, .bool false, .bool false, .slice none 0 0] 29)).alloc (.cells #[.bool false, .bool false, .int .i64 0, .int .i64 0, .bool false, .bool false, .slice none 0 0] 29)) wc.heap.size := ⟨fun j => by simp [go_sem], by simp; omega⟩
  have FY8 : Fr7 ((wc.alloc (.cells #[.bool false, .bool false, .int .i64 0, .int .i64 0, .bool false, .bool false, .slice none 0 0] 29)).alloc (.cells #[.bool false, .bool false, .int .i64 0, .int .i64 0, .bool false, .bool false, .slice none 0 0] 29)) (wc.heap.size + 1) := ⟨fun j => by simp [go_sem], by simp⟩
  generalize (wc.alloc (.cells #[.bool false, .bool false, .int .i64 0, .int .i64 0, .bool false, .bool false, .slice none 0 0] 29)).alloc (.cells #[.bool false, .bool false, .int .i64 0, .int .i64 0, .bool false, .bool false, .slice none 0 0] 29) = w8 at *
  have zb1 : W0.heap.size ≤ wc.heap.size := LF9.1.size
  generalize HQ : wc.heap.size = b1 at *
  have HQh := hideH HQ
  clear HQ
  go_cut [27] (fun t wy => t = .bool isIn ∧ ∃ vs vc us uc, LG W0 J js jc bAJ X xs xc bAX b1 vs vc us uc wy)
  case first =>
    rename_i J1 K1 hJ1 hK1
    have LQ : ∀ {wx : World}, Below b1 wc wx → LF W0 J js jc bAJ X xs xc bAX wx := fun hb => LF9.call (by rw [HQh.out]; exact hb)
    have QS : ∀ {wx : World}, Below b1 wc wx → b1 ≤ wx.heap.size := fun hb => by rw [← HQh.out]; exact hb.size
    by_cases e1 : wv = 0
    · subst e1
      have eJ := HJ.out
      have eX := HX.out
      rw [if_pos rfl] at eJ eX HI
      have EJ := hideH eJ
      have EX := hideH eX
      have EI := hideH HI
      clear eJ eX HI HJ HX
      go_wp2_with fail
      have Bc10 := Bc8.drew
      have U10 := U8.drew
      have Y10 := Y8.drew
      have FU10 := FU8.drew
      have FY10 := FY8.drew
      refine wp_region_held_drew (S := reg6 w.heap.size V F s c cap g ss gc h st hc) (by kernel_rfl) (KS6 _ (L0.below (LQ Bc10).1)) (fun hHeld => ?_)
      unfold reg6 at hHeld KS6 ⊢
      clear Bc8 U8 Y8 FU8 FY8
      generalize w8.drew = w10 at *
      refine wpAnyH_take (i := 0) (v := ?_) rfl (by kernel_rfl) (by kernel_rfl) (by kernel_rfl) (fun _ _ _ h => h) (Or.inl ⟨?_, ?_⟩) (by assumption) ?_
      rotate_left
      · rfl
      · (intro w hSw; (try dsimp only at hSw); first | (go_simp; done) | (go_simp; with_reducible rfl))
      (try simp only [Act.put, List.getElem_toArray, List.getElem_cons_zero, List.getElem_cons_succ, List.setIfInBounds_toArray, List.set_cons_zero, List.set_cons_succ])
      refine wpAnyH_take (i := 1) (v := ?_) rfl (by kernel_rfl) (by kernel_rfl) (by kernel_rfl) (fun _ _ _ h => h) (Or.inl ⟨?_, ?_⟩) (by assumption) ?_
      rotate_left
      · rfl
      · (intro w hSw; (try dsimp only at hSw); first | (go_simp; done) | (go_simp; with_reducible rfl))
      (try simp only [Act.put, List.getElem_toArray, List.getElem_cons_zero, List.getElem_cons_succ, List.setIfInBounds_toArray, List.set_cons_zero, List.set_cons_succ])
      refine wpAnyH_take (i := 3) (v := ?_) rfl (by kernel_rfl) (by kernel_rfl) (by kernel_rfl) (fun _ _ _ h => h) (Or.inl ⟨?_, ?_⟩) (by assumption) ?_
      rotate_left
      · rfl
      · (intro w hSw; (try dsimp only at hSw); first | (go_simp; done) | (go_simp; with_reducible rfl))
      (try simp only [Act.put, List.getElem_toArray, List.getElem_cons_zero, List.getElem_cons_succ, List.setIfInBounds_toArray, List.set_cons_zero, List.set_cons_succ])
      refine wpAnyH_take (i := 4) (v := ?_) rfl (by kernel_rfl) (by kernel_rfl) (by kernel_rfl) (fun _ _ _ h => h) (Or.inl ⟨?_, ?_⟩) (by assumption) ?_
      rotate_left
      · rfl
      · (intro w hSw; (try dsimp only at hSw); first | (go_simp; done) | (go_simp; with_reducible rfl))
      (try simp only [Act.put, List.getElem_toArray, List.getElem_cons_zero, List.getElem_cons_succ, List.setIfInBounds_toArray, List.set_cons_zero, List.set_cons_succ])
      refine wpAnyH_take (i := 6) (v := ?_) rfl (by kernel_rfl) (by kernel_rfl) (by kernel_rfl) (fun _ _ _ h => h) (Or.inl ⟨?_, ?_⟩) (by assumption) ?_
      rotate_left
      · rfl
      · (intro w hSw; (try dsimp only at hSw); first | (go_simp; done) | (go_simp; with_reducible rfl))
      (try simp only [Act.put, List.getElem_toArray, List.getElem_cons_zero, List.getElem_cons_succ, List.setIfInBounds_toArray, List.set_cons_zero, List.set_cons_succ])
      refine wpAnyH_take (i := 7) (v := ?_) rfl (by kernel_rfl) (by kernel_rfl) (by kernel_rfl) (fun _ _ _ h => h) (Or.inl ⟨?_, ?_⟩) (by assumption) ?_
      rotate_left
      · rfl
      · (intro w hSw; (try dsimp only at hSw); first | (go_simp; done) | (go_simp; with_reducible rfl))
      (try simp only [Act.put, List.getElem_toArray, List.getElem_cons_zero, List.getElem_cons_succ, List.setIfInBounds_toArray, List.set_cons_zero, List.set_cons_succ])
      refine wpAnyH_ready (rs := [2]) (by kernel_rfl) (by simp) ?_
      refine AllReadyH.cons rfl (fun K hK => ?_) AllReadyH.nil
      go_simp
      have hc0 := joinR g ss gc h st hc w10 (LW (L0.below (LQ Bc10).1)).2.1 (LW (L0.below (LQ Bc10).1)).2.2 HWV
      rw [← EJ.out] at hc0
      refine hc0.mono ?_
      clear hc0
      rintro e w11 ⟨vs, vc, rfl, iv11, fv, hb11⟩
      have zu := U10.2
      have zy := Y10.2
      have fv1 : ∀ a, vs = some a → b1 + 1 < a.block := fun a ha => Nat.lt_of_lt_of_le zy (fv a ha)
      have Bc11 := Bc10.trans (hb11.mono (QS Bc10))
      have U11 := U10.call hb11
      have Y11 := Y10.call hb11
      have FU11 := FU10.call hb11
      have FY11 := FY10.call hb11
      refine hK.out _ _ (KS6 _ (L0.below (LQ Bc11).1)) (fun hHeld11 => ?_)
      clear hK K hb11 Bc10 U10 Y10 FU10 FY10 fv zu zy
      (try simp only [Act.put, List.getElem_toArray, List.getElem_cons_zero, List.getElem_cons_succ, List.setIfInBounds_toArray, List.set_cons_zero, List.set_cons_succ])
      refine wpAnyH_ready (rs := [5]) (by kernel_rfl) (by simp) ?_
      refine AllReadyH.cons rfl (fun K hK => ?_) AllReadyH.nil
      go_simp
      have hc0 := wideR g ss gc h st hc w11 (LW (L0.below (LQ Bc11).1)).2.1 (LW (L0.below (LQ Bc11).1)).2.2 HWV
      rw [← EX.out] at hc0
      refine hc0.mono ?_
      clear hc0
      rintro e w12 ⟨us, uc, rfl, iu12, fv, hb12⟩
      have zy := Y11.2
      have fu1 : ∀ a, us = some a → b1 + 1 < a.block := fun a ha => Nat.lt_of_lt_of_le zy (fv a ha)
      have Bc12 := Bc11.trans (hb12.mono (QS Bc11))
      have iv12 := iv11.call hb12
      have U12 := U11.call hb12
      have Y12 := Y11.call hb12
      have FU12 := FU11.call hb12
      have FY12 := FY11.call hb12
      refine hK.out _ _ (KS6 _ (L0.below (LQ Bc12).1)) (fun hHeld12 => ?_)
      clear hK K hb12 Bc11 U11 Y11 FU11 FY11 iv11 fv zy
      (try simp only [Act.put, List.getElem_toArray, List.getElem_cons_zero, List.getElem_cons_succ, List.setIfInBounds_toArray, List.set_cons_zero, List.set_cons_succ])
      refine wpAnyH_ready (rs := [8]) (by kernel_rfl) (by simp) ?_
      refine AllReadyH.cons rfl (fun K hK => ?_) AllReadyH.nil
      go_simp
      have hc0 := guessIn_any g ss gc h st hc w12 (LW (L0.below (LQ Bc12).1)).2.1 hgl (LW (L0.below (LQ Bc12).1)).2.2 hhl
      rw [EI.out] at hc0
      refine hc0.mono ?_
      clear hc0
      rintro e w13 ⟨rfl, hb13⟩
      have Bc13 := Bc12.trans (hb13.mono (QS Bc12))
      have iv13 := iv12.call hb13
      have iu13 := iu12.call hb13
      have U13 := U12.call hb13
      have Y13 := Y12.call hb13
      have FU13 := FU12.call hb13
      have FY13 := FY12.call hb13
      refine hK.out _ _ (KS6 _ (L0.below (LQ Bc13).1)) (fun hHeld13 => ?_)
      clear hK K hb13 Bc12 U12 Y12 FU12 FY12 iv12 iu12
      (try simp only [Act.put, List.getElem_toArray, List.getElem_cons_zero, List.getElem_cons_succ, List.setIfInBounds_toArray, List.set_cons_zero, List.set_cons_succ])
      obtain ⟨⟨r0, r1, r2, r3, r4, r5, r6⟩, rz⟩ := id U13
      simp only [Nat.zero_add] at r0 r1 r2 r3 r4 r5 r6
      simp only [zeroG] at r0 r1 r2 r3 r4 r5 r6
      have fz := FU13.1
      refine wpAnyH_ready (rs := [9]) (by kernel_rfl) (by simp) ?_
      refine AllReadyH.cons rfl (fun K hK => ?_) AllReadyH.nil
      go_simp
      have Bc14 : Below b1 wc (Go.Proofs.YtmapdpcfanecdaaGreat.put7 w13 b1 (.bool J.n) (.bool J.sp.n) (.int .i64 J.sp.lo) (.int .i64 J.sp.hi) (.bool J.t) (.bool J.f) (.slice vs J.s.length vc)) := below_put7 Bc13 (Nat.le_refl _)
      have U14 : GuAt (Go.Proofs.YtmapdpcfanecdaaGreat.put7 w13 b1 (.bool J.n) (.bool J.sp.n) (.int .i64 J.sp.lo) (.int .i64 J.sp.hi) (.bool J.t) (.bool J.f) (.slice vs J.s.length vc)) b1 0 J vs vc := GuAt.store (g := J) (ss := vs) (cap := vc) U13
      have Y14 : GuAt (Go.Proofs.YtmapdpcfanecdaaGreat.put7 w13 b1 (.bool J.n) (.bool J.sp.n) (.int .i64 J.sp.lo) (.int .i64 J.sp.hi) (.bool J.t) (.bool J.f) (.slice vs J.s.length vc)) (b1 + 1) 0 zeroG none 0 := Y13.put7 (by omega)
      have FY14 : Fr7 (Go.Proofs.YtmapdpcfanecdaaGreat.put7 w13 b1 (.bool J.n) (.bool J.sp.n) (.int .i64 J.sp.lo) (.int .i64 J.sp.hi) (.bool J.t) (.bool J.f) (.slice vs J.s.length vc)) (b1 + 1) := FY13.past7
      have iv14 : IntsAt (Go.Proofs.YtmapdpcfanecdaaGreat.put7 w13 b1 (.bool J.n) (.bool J.sp.n) (.int .i64 J.sp.lo) (.int .i64 J.sp.hi) (.bool J.t) (.bool J.f) (.slice vs J.s.length vc)) vs J.s := iv13.past7 (fun a ha => by have := fv1 a ha; omega)
      have iu14 : IntsAt (Go.Proofs.YtmapdpcfanecdaaGreat.put7 w13 b1 (.bool J.n) (.bool J.sp.n) (.int .i64 J.sp.lo) (.int .i64 J.sp.hi) (.bool J.t) (.bool J.f) (.slice vs J.s.length vc)) us X.s := iu13.past7 (fun a ha => by have := fu1 a ha; omega)
      refine hK.out _ (Go.Proofs.YtmapdpcfanecdaaGreat.put7 w13 b1 (.bool J.n) (.bool J.sp.n) (.int .i64 J.sp.lo) (.int .i64 J.sp.hi) (.bool J.t) (.bool J.f) (.slice vs J.s.length vc)) (KS6 _ (L0.below (LQ Bc14).1)) (fun hHeld14 => ?_)
      clear hK K Bc13 U13 Y13 FU13 FY13 iv13 iu13 fz r0 r1 r2 r3 r4 r5 r6 rz
      (try simp only [Act.put, List.getElem_toArray, List.getElem_cons_zero, List.getElem_cons_succ, List.setIfInBounds_toArray, List.set_cons_zero, List.set_cons_succ])
      generalize Go.Proofs.YtmapdpcfanecdaaGreat.put7 w13 b1 (.bool J.n) (.bool J.sp.n) (.int .i64 J.sp.lo) (.int .i64 J.sp.hi) (.bool J.t) (.bool J.f) (.slice vs J.s.length vc) = w14 at *
      obtain ⟨⟨r0, r1, r2, r3, r4, r5, r6⟩, rz⟩ := id Y14
      simp only [Nat.zero_add] at r0 r1 r2 r3 r4 r5 r6
      simp only [zeroG] at r0 r1 r2 r3 r4 r5 r6
      have fz := FY14.1
      refine wpAnyH_ready (rs := [10]) (by kernel_rfl) (by simp) ?_
      refine AllReadyH.cons rfl (fun K hK => ?_) AllReadyH.nil
      go_simp
      have Bc15 : Below b1 wc (Go.Proofs.YtmapdpcfanecdaaGreat.put7 w14 (b1 + 1) (.bool X.n) (.bool X.sp.n) (.int .i64 X.sp.lo) (.int .i64 X.sp.hi) (.bool X.t) (.bool X.f) (.slice us X.s.length uc)) := below_put7 Bc14 (by omega)
      have U15 : GuAt (Go.Proofs.YtmapdpcfanecdaaGreat.put7 w14 (b1 + 1) (.bool X.n) (.bool X.sp.n) (.int .i64 X.sp.lo) (.int .i64 X.sp.hi) (.bool X.t) (.bool X.f) (.slice us X.s.length uc)) b1 0 J vs vc := U14.put7 (by omega)
      have Y15 : GuAt (Go.Proofs.YtmapdpcfanecdaaGreat.put7 w14 (b1 + 1) (.bool X.n) (.bool X.sp.n) (.int .i64 X.sp.lo) (.int .i64 X.sp.hi) (.bool X.t) (.bool X.f) (.slice us X.s.length uc)) (b1 + 1) 0 X us uc := GuAt.store (g := X) (ss := us) (cap := uc) Y14
      have iv15 : IntsAt (Go.Proofs.YtmapdpcfanecdaaGreat.put7 w14 (b1 + 1) (.bool X.n) (.bool X.sp.n) (.int .i64 X.sp.lo) (.int .i64 X.sp.hi) (.bool X.t) (.bool X.f) (.slice us X.s.length uc)) vs J.s := iv14.past7 (fun a ha => by have := fv1 a ha; omega)
      have iu15 : IntsAt (Go.Proofs.YtmapdpcfanecdaaGreat.put7 w14 (b1 + 1) (.bool X.n) (.bool X.sp.n) (.int .i64 X.sp.lo) (.int .i64 X.sp.hi) (.bool X.t) (.bool X.f) (.slice us X.s.length uc)) us X.s := iu14.past7 (fun a ha => by have := fu1 a ha; omega)
      refine hK.out _ (Go.Proofs.YtmapdpcfanecdaaGreat.put7 w14 (b1 + 1) (.bool X.n) (.bool X.sp.n) (.int .i64 X.sp.lo) (.int .i64 X.sp.hi) (.bool X.t) (.bool X.f) (.slice us X.s.length uc)) (KS6 _ (L0.below (LQ Bc15).1)) (fun hHeld15 => ?_)
      clear hK K Bc14 U14 Y14 FY14 iv14 iu14 fz r0 r1 r2 r3 r4 r5 r6 rz
      (try simp only [Act.put, List.getElem_toArray, List.getElem_cons_zero, List.getElem_cons_succ, List.setIfInBounds_toArray, List.set_cons_zero, List.set_cons_succ])
      generalize Go.Proofs.YtmapdpcfanecdaaGreat.put7 w14 (b1 + 1) (.bool X.n) (.bool X.sp.n) (.int .i64 X.sp.lo) (.int .i64 X.sp.hi) (.bool X.t) (.bool X.f) (.slice us X.s.length uc) = w15 at *
      refine wpAnyH_take (i := 11) (v := ?_) rfl (by kernel_rfl) (by kernel_rfl) (by kernel_rfl) (fun _ _ _ h => h) (Or.inl ⟨?_, ?_⟩) (by assumption) ?_
      rotate_left
      · rfl
      · (intro w hSw; (try dsimp only at hSw); first | (go_simp; done) | (go_simp; with_reducible rfl))
      (try simp only [Act.put, List.getElem_toArray, List.getElem_cons_zero, List.getElem_cons_succ, List.setIfInBounds_toArray, List.set_cons_zero, List.set_cons_succ])
      refine wpAnyH_done (by kernel_rfl) ?_ _
      first | refine hK1 _ _ (Met.intro (hJ1 _ _ ?_)) | refine Met.intro (hJ1 _ _ ?_) | refine hJ1 _ _ ?_
      (repeat apply Exists.intro)
      refine ⟨?_, rfl⟩
      exact ⟨rfl, vs, vc, us, uc, LQ Bc15, U15, iv15, Y15, iu15⟩
    · have e1b : (wv == 0) = false := by simpa using e1
      have eJ := HJ.out
      have eX := HX.out
      rw [if_neg e1] at eJ eX HI
      subst eJ eX HI
      obtain ⟨rfl, rfl⟩ := nJ e1
      obtain ⟨rfl, rfl⟩ := nX e1
      go_wp2_with fail
      go_meet
      exact ⟨rfl, none, 0, none, 0, LQ Bc8, U8, .inl rfl, Y8, .inl rfl⟩
  obtain ⟨rfl, vs, vc, us, uc, LG10⟩ := hcut
  clear Bc8 U8 Y8 FU8 FY8 LF9 HI KS6
  obtain ⟨Pq, Gq, Hq, VVq, Cq, Iq, Tq⟩ := L0.below LG10.1.1
  obtain ⟨⟨p0, p1, p2⟩, pz⟩ := id Pq
  obtain ⟨⟨g0, g1, g2, g3, g4, g5, g6⟩, gz⟩ := id Gq
  obtain ⟨⟨k0, k1, k2, k3, k4, k5, k6⟩, kz⟩ := id Hq
  obtain ⟨v0, v1, vz⟩ := id VVq
  simp only [Nat.zero_add] at g0 g1 g2 g3 g4 g5 g6 k0 k1 k2 k3 k4 k5 k6
  go_upto_if 101 with fail
  go_cut [28] (fun t wy => t = .bool held ∧ LG W0 J js jc bAJ X xs xc bAX b1 vs vc us uc wy)
  case first =>
    by_cases e1 : k = 0
    · subst e1
      have ek : ¬ (vk < 0 ∨ 3 < vk) := by
        intro e
        have h6 : kindE u vk = 0 := HK
        unfold kindE at h6
        by_cases hu : u = 0
        · rw [if_pos hu, if_pos e] at h6
          omega
        · rw [if_neg hu] at h6
          exact hu h6
      rw [if_pos rfl] at HH
      have EH := hideH HH
      clear HH HK
      go_wp2_with (go_at_call 15; fail)
      have hc0 := heldU g ss gc vk vn site _ (LW (L0.below LG10.1.1)).2.1 hgm ek
      rw [EH.out] at hc0
      refine hc0.mono ?_
      clear hc0
      rintro e w11 ⟨rfl, hb11⟩
      go_wp2_with fail
      go_meet
      exact ⟨rfl, LG10.call hb11⟩
    · have e1b : (k == 0) = false := by simpa using e1
      rw [if_neg e1] at HH
      subst HH
      go_wp2_with fail
      go_meet
      exact ⟨rfl, LG10⟩
  obtain ⟨rfl, LG11⟩ := hcut
  clear LG10 HH HK p0 p1 p2 pz g0 g1 g2 g3 g4 g5 g6 gz k0 k1 k2 k3 k4 k5 k6 kz v0 v1 vz Pq Gq Hq VVq Cq Iq Tq
  obtain ⟨Pq, Gq, Hq, VVq, Cq, Iq, Tq⟩ := L0.below LG11.1.1
  obtain ⟨⟨p0, p1, p2⟩, pz⟩ := id Pq
  obtain ⟨⟨g0, g1, g2, g3, g4, g5, g6⟩, gz⟩ := id Gq
  obtain ⟨⟨k0, k1, k2, k3, k4, k5, k6⟩, kz⟩ := id Hq
  obtain ⟨v0, v1, vz⟩ := id VVq
  simp only [Nat.zero_add] at g0 g1 g2 g3 g4 g5 g6 k0 k1 k2 k3 k4 k5 k6
  go_upto_if 107 with fail
  go_cut [29, 30] (fun t t' wy => t = .bool yes ∧ t' = .bool no ∧ LG W0 J js jc bAJ X xs xc bAX b1 vs vc us uc wy)
  case first =>
    by_cases e1 : u = 0
    · subst e1
      rw [if_pos rfl] at HY HN
      have EY := hideH HY
      have EN := hideH HN
      clear HY HN
      go_wp2_with (go_at_call 16; fail)
      have hc0 := truthOf_any g ss gc wc
      rw [EY.out, EN.out] at hc0
      refine hc0.mono ?_
      clear hc0
      rintro e w11 ⟨rfl, hb11⟩
      go_wp2_with fail
      go_meet
      exact ⟨rfl, rfl, LG11.call hb11⟩
    · have e1b : (u == 0) = false := by simpa using e1
      rw [if_neg e1] at HY HN
      subst HY HN
      go_wp2_with fail
      go_meet
      exact ⟨rfl, rfl, LG11⟩
  obtain ⟨rfl, rfl, LG12⟩ := hcut
  clear LG11 HY HN p0 p1 p2 pz g0 g1 g2 g3 g4 g5 g6 gz k0 k1 k2 k3 k4 k5 k6 kz v0 v1 vz Pq Gq Hq VVq Cq Iq Tq
  go_wp2_with (go_at_call 17; fail)
  refine (guessBegun_any _).mono ?_
  rintro e w13 ⟨rfl, hb13⟩
  have LG13 := LG12.call hb13
  clear LG12 hb13
  obtain ⟨Pq, Gq, Hq, VVq, Cq, Iq, Tq⟩ := L0.below LG13.1.1
  obtain ⟨⟨p0, p1, p2⟩, pz⟩ := id Pq
  obtain ⟨⟨g0, g1, g2, g3, g4, g5, g6⟩, gz⟩ := id Gq
  obtain ⟨⟨k0, k1, k2, k3, k4, k5, k6⟩, kz⟩ := id Hq
  obtain ⟨v0, v1, vz⟩ := id VVq
  simp only [Nat.zero_add] at g0 g1 g2 g3 g4 g5 g6 k0 k1 k2 k3 k4 k5 k6
  go_wp2_with (go_at_call 18; fail)
  have hc0 := checkG_any V F s c cap g ss gc w13 (LW (L0.below LG13.1.1)).1 (LW (L0.below LG13.1.1)).2.1 h1 h2
  rw [HU] at hc0
  refine hc0.mono ?_
  clear hc0
  rintro e w14 ⟨rfl, hb14⟩
  have LG14 := LG13.call hb14
  clear LG13 hb14 HU p0 p1 p2 pz g0 g1 g2 g3 g4 g5 g6 gz k0 k1 k2 k3 k4 k5 k6 kz v0 v1 vz Pq Gq Hq VVq Cq Iq Tq
  obtain ⟨⟨r0, r1, r2, r3, r4, r5, r6⟩, rz⟩ := id LG14.1.2.2.2.1
  simp only [Nat.zero_add] at r0 r1 r2 r3 r4 r5 r6
  obtain ⟨⟨x0, x1, x2, x3, x4, x5, x6⟩, xz⟩ := id LG14.2.1
  simp only [Nat.zero_add] at x0 x1 x2 x3 x4 x5 x6
  go_wp2_with (go_at_call 19; fail)
  refine (guessIs_U J js jc wv vs vc w14 LG14.1.2.1 LG14.2.2.1 (Nat.le_trans lJ mJ) (fun e => ⟨(HJ.out.trans (if_neg e)), (nJ e).1, (nJ e).2⟩)).mono ?_
  rintro e w15 ⟨rfl, hb15⟩
  have LG15 := LG14.call hb15
  clear LG14 hb15 r0 r1 r2 r3 r4 r5 r6 rz x0 x1 x2 x3 x4 x5 x6 xz
  obtain ⟨⟨r0, r1, r2, r3, r4, r5, r6⟩, rz⟩ := id LG15.1.2.2.2.2
  simp only [Nat.zero_add] at r0 r1 r2 r3 r4 r5 r6
  obtain ⟨⟨x0, x1, x2, x3, x4, x5, x6⟩, xz⟩ := id LG15.2.2.2.1
  simp only [Nat.zero_add] at x0 x1 x2 x3 x4 x5 x6
  go_wp2_with (go_at_call 19; fail)
  refine (guessIs_U X xs xc wv us uc w15 LG15.1.2.2.1 LG15.2.2.2.2 (Nat.le_trans lX mX) (fun e => ⟨(HX.out.trans (if_neg e)), (nX e).1, (nX e).2⟩)).mono ?_
  rintro e w16 ⟨rfl, hb16⟩
  have LG16 := LG15.call hb16
  go_wp2
  go_ret
  exact ⟨rfl, B0.trans (LG16.1.1.mono B0.size)⟩
end Go.Proofs.YtmapdpcfanecdaaGreat
