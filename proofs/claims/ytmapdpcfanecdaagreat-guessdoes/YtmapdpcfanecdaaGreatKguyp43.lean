/- The document's DoGuess: what its last regions read. -/
import Derived.Test.YtmapdpcfanecdaaGreatKguyp41
import Derived.Test.YtmapdpcfanecdaaGreatKguyp42
import Derived.Test.YtmapdpcfanecdaaGreatKguyp32
import Derived.Test.YtmapdpcfanecdaaGreatKguyp30
namespace Go.Proofs.YtmapdpcfanecdaaGreat
set_option linter.unusedVariables false
set_option linter.unusedSimpArgs false
open Go.RowKit

theorem IntsAt.far7 {w : World} {ss : Option Addr} {l : List Int} {b : Nat} {v0 v1 v2 v3 v4 v5 v6 : Value} (h : IntsAt w ss l) (hf : ∀ a, ss = some a → b ≠ a.block) : IntsAt (Go.Proofs.YtmapdpcfanecdaaGreat.put7 w b v0 v1 v2 v3 v4 v5 v6) ss l := by
  rcases h with h | ⟨k, off, hs, hlt, hi⟩
  · exact .inl h
  · refine .inr ⟨k, off, hs, by rw [size_put7]; exact hlt, fun j hj => ?_⟩
    rw [cell_put7 _ _ _ _ _ _ _ _ _ _ _ (fun e => hf _ hs e.symm)]
    exact hi j hj
theorem Fr7.put7 {w : World} {b k : Nat} {v0 v1 v2 v3 v4 v5 v6 : Value} (h : Fr7 w k) : Fr7 (Go.Proofs.YtmapdpcfanecdaaGreat.put7 w b v0 v1 v2 v3 v4 v5 v6) k := by
  unfold Go.Proofs.YtmapdpcfanecdaaGreat.put7
  exact h.set.set.set.set.set.set.set

/-- The two guesses, the answer's variable, and the document's own 'out'; all else is as it was. -/
def DG (w : World) (g : Gs) (ss : Option Addr) (gc : Nat) (h : Gs) (st : Option Addr) (hc : Nat) (ob : Nat) (o : Gs) (wx : World) : Prop :=
  GuAt wx w.heap.size 0 g ss gc ∧ GuAt wx (w.heap.size + 1) 0 h st hc ∧ GuAt wx (w.heap.size + 1 + 1) 0 zeroG none 0 ∧ Fr7 wx (w.heap.size + 1 + 1) ∧ GuAt wx ob 0 o none 0 ∧ Fr7 wx ob ∧ Below w.heap.size w wx ∧ w.heap.size + 1 + 1 < ob
theorem DG.call {w : World} {g : Gs} {ss : Option Addr} {gc : Nat} {h : Gs} {st : Option Addr} {hc : Nat} {ob : Nat} {o : Gs} {wx wy : World} (d : DG w g ss gc h st hc ob o wx) (hb : Below wx.heap.size wx wy) : DG w g ss gc h st hc ob o wy :=
  ⟨d.1.call hb, d.2.1.call hb, d.2.2.1.call hb, d.2.2.2.1.call hb, d.2.2.2.2.1.call hb, d.2.2.2.2.2.1.call hb, d.2.2.2.2.2.2.1.trans (hb.mono d.2.2.2.2.2.2.1.size), d.2.2.2.2.2.2.2⟩
theorem DG.drew {w : World} {g : Gs} {ss : Option Addr} {gc : Nat} {h : Gs} {st : Option Addr} {hc : Nat} {ob : Nat} {o : Gs} {wx : World} (d : DG w g ss gc h st hc ob o wx) : DG w g ss gc h st hc ob o wx.drew := d.call (Below.refl _ _).drew

theorem doW_at (w : World) (g : Gs) (ss : Option Addr) (gc : Nat) (h : Gs) (st : Option Addr) (hc : Nat) : GuAt (((w.alloc (.cells #[.bool g.n, .bool g.sp.n, .int .i64 g.sp.lo, .int .i64 g.sp.hi, .bool g.t, .bool g.f, .slice ss g.s.length gc] 29)).alloc (.cells #[.bool h.n, .bool h.sp.n, .int .i64 h.sp.lo, .int .i64 h.sp.hi, .bool h.t, .bool h.f, .slice st h.s.length hc] 29)).alloc (.cells #[.bool false, .bool false, .int .i64 0, .int .i64 0, .bool false, .bool false, .slice none 0 0] 29)) w.heap.size 0 g ss gc ∧ GuAt (((w.alloc (.cells #[.bool g.n, .bool g.sp.n, .int .i64 g.sp.lo, .int .i64 g.sp.hi, .bool g.t, .bool g.f, .slice ss g.s.length gc] 29)).alloc (.cells #[.bool h.n, .bool h.sp.n, .int .i64 h.sp.lo, .int .i64 h.sp.hi, .bool h.t, .bool h.f, .slice st h.s.length hc] 29)).alloc (.cells #[.bool false, .bool false, .int .i64 0, .int .i64 0, .bool false, .bool false, .slice none 0 0] 29)) (w.heap.size + 1) 0 h st hc ∧ GuAt (((w.alloc (.cells #[.bool g.n, .bool g.sp.n, .int .i64 g.sp.lo, .int .i64 g.sp.hi, .bool g.t, .bool g.f, .slice ss g.s.length gc] 29)).alloc (.cells #[.bool h.n, .bool h.sp.n, .int .i64 h.sp.lo, .int .i64 h.sp.hi, .bool h.t, .bool h.f, .slice st h.s.length hc] 29)).alloc (.cells #[.bool false, .bool false, .int .i64 0, .int .i64 0, .bool false, .bool false, .slice none 0 0] 29)) (w.heap.size + 1 + 1) 0 zeroG none 0 ∧ Fr7 (((w.alloc (.cells #[.bool g.n, .bool g.sp.n, .int .i64 g.sp.lo, .int .i64 g.sp.hi, .bool g.t, .bool g.f, .slice ss g.s.length gc] 29)).alloc (.cells #[.bool h.n, .bool h.sp.n, .int .i64 h.sp.lo, .int .i64 h.sp.hi, .bool h.t, .bool h.f, .slice st h.s.length hc] 29)).alloc (.cells #[.bool false, .bool false, .int .i64 0, .int .i64 0, .bool false, .bool false, .slice none 0 0] 29)) (w.heap.size + 1 + 1) ∧ Below w.heap.size w (((w.alloc (.cells #[.bool g.n, .bool g.sp.n, .int .i64 g.sp.lo, .int .i64 g.sp.hi, .bool g.t, .bool g.f, .slice ss g.s.length gc] 29)).alloc (.cells #[.bool h.n, .bool h.sp.n, .int .i64 h.sp.lo, .int .i64 h.sp.hi, .bool h.t, .bool h.f, .slice st h.s.length hc] 29)).alloc (.cells #[.bool false, .bool false, .int .i64 0, .int .i64 0, .bool false, .bool false, .slice none 0 0] 29)) := by
  obtain ⟨G0, H0, B0⟩ := two_at w g ss gc h st hc
  have R0 := GuAt.new ((w.alloc (.cells #[.bool g.n, .bool g.sp.n, .int .i64 g.sp.lo, .int .i64 g.sp.hi, .bool g.t, .bool g.f, .slice ss g.s.length gc] 29)).alloc (.cells #[.bool h.n, .bool h.sp.n, .int .i64 h.sp.lo, .int .i64 h.sp.hi, .bool h.t, .bool h.f, .slice st h.s.length hc] 29)) zeroG none 0
  rw [World.size_alloc, World.size_alloc] at R0
  exact ⟨G0.alloc _, H0.alloc _, R0, ⟨fun j => by simp [go_sem], by simp⟩, by go_grown⟩
/-- Behind the call of Nothing: the answer lies in a new block. -/
theorem doW_out {w : World} {g : Gs} {ss : Option Addr} {gc : Nat} {h : Gs} {st : Option Addr} {hc : Nat} {w1 : World} (hb : Below (((w.alloc (.cells #[.bool g.n, .bool g.sp.n, .int .i64 g.sp.lo, .int .i64 g.sp.hi, .bool g.t, .bool g.f, .slice ss g.s.length gc] 29)).alloc (.cells #[.bool h.n, .bool h.sp.n, .int .i64 h.sp.lo, .int .i64 h.sp.hi, .bool h.t, .bool h.f, .slice st h.s.length hc] 29)).alloc (.cells #[.bool false, .bool false, .int .i64 0, .int .i64 0, .bool false, .bool false, .slice none 0 0] 29)).heap.size (((w.alloc (.cells #[.bool g.n, .bool g.sp.n, .int .i64 g.sp.lo, .int .i64 g.sp.hi, .bool g.t, .bool g.f, .slice ss g.s.length gc] 29)).alloc (.cells #[.bool h.n, .bool h.sp.n, .int .i64 h.sp.lo, .int .i64 h.sp.hi, .bool h.t, .bool h.f, .slice st h.s.length hc] 29)).alloc (.cells #[.bool false, .bool false, .int .i64 0, .int .i64 0, .bool false, .bool false, .slice none 0 0] 29)) w1) : DG w g ss gc h st hc w1.heap.size noneG (w1.alloc (.cells #[.bool noneG.n, .bool noneG.sp.n, .int .i64 noneG.sp.lo, .int .i64 noneG.sp.hi, .bool noneG.t, .bool noneG.f, .slice none noneG.s.length 0] 29)) := by
  obtain ⟨G0, H0, R0, F0, B0⟩ := doW_at w g ss gc h st hc
  have G1 := (G0.call hb).alloc (.cells #[.bool noneG.n, .bool noneG.sp.n, .int .i64 noneG.sp.lo, .int .i64 noneG.sp.hi, .bool noneG.t, .bool noneG.f, .slice none noneG.s.length 0] 29)
  have H1 := (H0.call hb).alloc (.cells #[.bool noneG.n, .bool noneG.sp.n, .int .i64 noneG.sp.lo, .int .i64 noneG.sp.hi, .bool noneG.t, .bool noneG.f, .slice none noneG.s.length 0] 29)
  have z := (R0.call hb).2
  have R1 := (R0.call hb).alloc (.cells #[.bool noneG.n, .bool noneG.sp.n, .int .i64 noneG.sp.lo, .int .i64 noneG.sp.hi, .bool noneG.t, .bool noneG.f, .slice none noneG.s.length 0] 29)
  have F1 := (F0.call hb).alloc (.cells #[.bool noneG.n, .bool noneG.sp.n, .int .i64 noneG.sp.lo, .int .i64 noneG.sp.hi, .bool noneG.t, .bool noneG.f, .slice none noneG.s.length 0] 29)
  have B1 := B0.trans (hb.mono B0.size)
  exact ⟨G1, H1, R1, F1, GuAt.new w1 noneG none 0, ⟨fun j => by simp [go_sem], by simp⟩, B1.alloc B1.size _, z⟩
/-- .. and stores to it: .. -/
theorem DG.out {w : World} {g : Gs} {ss : Option Addr} {gc : Nat} {h : Gs} {st : Option Addr} {hc : Nat} {ob : Nat} {o o' : Gs} {wx wy : World} (d : DG w g ss gc h st hc ob o wx) (hb : ∀ k, k ≠ ob → wy.heap[k]? = wx.heap[k]?) (hz : wy.heap.size = wx.heap.size) (hf : Fr7 wy ob) (ho : GuAt wy ob 0 o' none 0) (hB : Below w.heap.size w wy) : DG w g ss gc h st hc ob o' wy := by
  have hg : ∀ {k : Nat} {x : Gs} {xs : Option Addr} {xc : Nat}, k ≠ ob → GuAt wx k 0 x xs xc → GuAt wy k 0 x xs xc := by
    intro k x xs xc hk hg
    obtain ⟨⟨h0, h1, h2, h3, h4, h5, h6⟩, hz'⟩ := hg
    have hc : ∀ j, wy.cell? ⟨k, j, none⟩ = wx.cell? ⟨k, j, none⟩ := fun j => World.cell?_of_block (a := ⟨k, j, none⟩) (hb k hk)
    exact ⟨⟨(hc _).trans h0, (hc _).trans h1, (hc _).trans h2, (hc _).trans h3, (hc _).trans h4, (hc _).trans h5, (hc _).trans h6⟩, by rw [hz]; exact hz'⟩
  have z := d.2.2.2.2.2.2.2
  refine ⟨hg (by omega) d.1, hg (by omega) d.2.1, hg (by omega) d.2.2.1, ⟨fun j => ?_, by rw [hz]; exact d.2.2.2.1.2⟩, ho, hf, hB, z⟩
  rw [World.frozen?_of_block (a := ⟨w.heap.size + 1 + 1, j, none⟩) (hb _ (by show w.heap.size + 1 + 1 ≠ ob; omega))]
  exact d.2.2.2.1.1 j
theorem DG.t {w : World} {g : Gs} {ss : Option Addr} {gc : Nat} {h : Gs} {st : Option Addr} {hc : Nat} {ob : Nat} {o : Gs} {wx : World} {y : Bool} (d : DG w g ss gc h st hc ob o wx) : DG w g ss gc h st hc ob ⟨o.n, o.sp, y, o.f, o.s⟩ (wx.setCell ⟨ob, 4, none⟩ (.bool y)) := by
  have z := d.2.2.2.2.2.2.2
  refine d.out (fun k hk => Below.heap_setCell _ _ _ _ hk) (by simp) d.2.2.2.2.2.1.set ?_ (d.2.2.2.2.2.2.1.setCell (by simp; omega) _)
  obtain ⟨⟨h0, h1, h2, h3, h4, h5, h6⟩, hz⟩ := d.2.2.2.2.1
  simp only [Nat.zero_add] at h0 h1 h2 h3 h4 h5 h6
  exact ⟨⟨by simp [go_sem, h0], by simp [go_sem, h1], by simp [go_sem, h2], by simp [go_sem, h3], by simp [go_sem, h4], by simp [go_sem, h5], by simp [go_sem, h6]⟩, by simpa using hz⟩
theorem DG.f {w : World} {g : Gs} {ss : Option Addr} {gc : Nat} {h : Gs} {st : Option Addr} {hc : Nat} {ob : Nat} {o : Gs} {wx : World} {y : Bool} (d : DG w g ss gc h st hc ob o wx) : DG w g ss gc h st hc ob ⟨o.n, o.sp, o.t, y, o.s⟩ (wx.setCell ⟨ob, 5, none⟩ (.bool y)) := by
  have z := d.2.2.2.2.2.2.2
  refine d.out (fun k hk => Below.heap_setCell _ _ _ _ hk) (by simp) d.2.2.2.2.2.1.set ?_ (d.2.2.2.2.2.2.1.setCell (by simp; omega) _)
  obtain ⟨⟨h0, h1, h2, h3, h4, h5, h6⟩, hz⟩ := d.2.2.2.2.1
  simp only [Nat.zero_add] at h0 h1 h2 h3 h4 h5 h6
  exact ⟨⟨by simp [go_sem, h0], by simp [go_sem, h1], by simp [go_sem, h2], by simp [go_sem, h3], by simp [go_sem, h4], by simp [go_sem, h5], by simp [go_sem, h6]⟩, by simpa using hz⟩
theorem DG.sp {w : World} {g : Gs} {ss : Option Addr} {gc : Nat} {h : Gs} {st : Option Addr} {hc : Nat} {ob : Nat} {o : Gs} {wx : World} {s : Sp} (d : DG w g ss gc h st hc ob o wx) : DG w g ss gc h st hc ob ⟨o.n, s, o.t, o.f, o.s⟩ (((wx.setCell ⟨ob, 1, none⟩ (.bool s.n)).setCell ⟨ob, 2, none⟩ (.int .i64 s.lo)).setCell ⟨ob, 3, none⟩ (.int .i64 s.hi)) := by
  have z := d.2.2.2.2.2.2.2
  refine d.out (fun k hk => by rw [Below.heap_setCell _ _ _ _ hk, Below.heap_setCell _ _ _ _ hk, Below.heap_setCell _ _ _ _ hk]) (by simp) d.2.2.2.2.2.1.set.set.set ?_ (((d.2.2.2.2.2.2.1.setCell (by simp; omega) _).setCell (by simp; omega) _).setCell (by simp; omega) _)
  obtain ⟨⟨h0, h1, h2, h3, h4, h5, h6⟩, hz⟩ := d.2.2.2.2.1
  simp only [Nat.zero_add] at h0 h1 h2 h3 h4 h5 h6
  exact ⟨⟨by simp [go_sem, h0], by simp [go_sem, h1], by simp [go_sem, h2], by simp [go_sem, h3], by simp [go_sem, h4], by simp [go_sem, h5], by simp [go_sem, h6]⟩, by simpa using hz⟩
end Go.Proofs.YtmapdpcfanecdaaGreat

namespace Go.Proofs.YtmapdpcfanecdaaGreat
set_option linter.unusedVariables false
set_option linter.unusedSimpArgs false
open Go.RowKit

set_option maxHeartbeats 4000000 in
set_option maxRecDepth 10000 in
theorem doR_4 (w : World) (g : Gs) (ss : Option Addr) (gc : Nat) (h : Gs) (st : Option Addr) (hc : Nat) :
    Calls Tryz.prog 21 #[.int .i64 4, gv g ss gc, gv h st hc] w fun e w' => e = .returned (if nothingGs g = true then .tuple #[gv noneG none 0, .bool false] else .tuple #[gv g ss gc, .bool false]) ∧ Below w.heap.size w w' := by
  generalize hnn : nothingGs g = nn
  have Hnn := hideH hnn
  clear hnn
  have HNg := hideH (fun w => isNothing_any g ss gc w)
  have HNh := hideH (fun w => isNothing_any h st hc w)
  generalize nothingGs g = ng at *
  generalize nothingGs h = nh at *
  go_enter Tryz.func21, Tryz.ntmps21
  go_upto_region 1 with fail
  go_cut [8] (fun t wy => ∃ ob, t = .pointer (some ⟨ob, 0, none⟩) ∧ DG w g ss gc h st hc ob noneG wy)
  case first =>
    go_wp2_with (go_at_call 60; fail)
    refine (nothingR_any _).mono ?_
    rintro e w1 ⟨rfl, hb1⟩
    have D1 := doW_out hb1
    go_wp2_with fail
    go_meet
    refine ⟨w1.heap.size, rfl, ?_⟩
    exact D1
  obtain ⟨ob, rfl, D1⟩ := hcut
  obtain ⟨⟨g0, g1, g2, g3, g4, g5, g6⟩, gz⟩ := id D1.1
  simp only [Nat.zero_add] at g0 g1 g2 g3 g4 g5 g6
  obtain ⟨⟨k0, k1, k2, k3, k4, k5, k6⟩, kz⟩ := id D1.2.1
  simp only [Nat.zero_add] at k0 k1 k2 k3 k4 k5 k6
  have fz := D1.2.2.2.1.1
  have fo := D1.2.2.2.2.2.1.1
  have zo := D1.2.2.2.2.2.2.2
  go_upto_region 2 with fail
  go_cut [27] (fun t wy => t = .bool nn ∧ DG w g ss gc h st hc ob noneG wy)
  case first =>
    go_wp2_with (go_at_call 61; fail)
    refine (HNg.out _).mono ?_
    rintro e w2 ⟨rfl, hb2⟩
    have D2 := D1.call hb2
    clear g0 g1 g2 g3 g4 g5 g6 gz k0 k1 k2 k3 k4 k5 k6 kz fz fo
    cases ng with
    | true =>
      go_wp2_with fail
      go_meet
      exact ⟨by rw [← Hnn.out]; first | done | rfl | simp, D2⟩
    | false =>
      go_wp2_with fail
      go_meet
      exact ⟨by rw [← Hnn.out]; first | done | rfl | simp, D2⟩
  obtain ⟨rfl, D2⟩ := hcut
  clear g0 g1 g2 g3 g4 g5 g6 gz k0 k1 k2 k3 k4 k5 k6 kz fz fo zo D1 HNg HNh Hnn
  cases nn with
  | true =>
    obtain ⟨⟨g0, g1, g2, g3, g4, g5, g6⟩, gz⟩ := id D2.1
    simp only [Nat.zero_add] at g0 g1 g2 g3 g4 g5 g6
    obtain ⟨⟨r0, r1, r2, r3, r4, r5, r6⟩, rz⟩ := id D2.2.2.1
    simp only [Nat.zero_add] at r0 r1 r2 r3 r4 r5 r6
    obtain ⟨⟨o0, o1, o2, o3, o4, o5, o6⟩, oz⟩ := id D2.2.2.2.2.1
    simp only [Nat.zero_add] at o0 o1 o2 o3 o4 o5 o6
    simp only [zeroG] at r0 r1 r2 r3 r4 r5 r6
    have fz := D2.2.2.2.1.1
    have fo := D2.2.2.2.2.2.1.1
    have zo := D2.2.2.2.2.2.2.2
    simp only [noneG] at o0 o1 o2 o3 o4 o5 o6
    go_wp2
    refine bodyPost_ret (v := .tuple #[gv noneG none 0, .bool false]) (by simp [results, Tryz.results21, go_sem, r0, r1, r2, r3, r4, r5, r6, noneG]) rfl ⟨?_, ?_⟩
    · rfl
    · exact below_put7 D2.2.2.2.2.2.2.1 (by omega)
  | false =>
    obtain ⟨⟨g0, g1, g2, g3, g4, g5, g6⟩, gz⟩ := id D2.1
    simp only [Nat.zero_add] at g0 g1 g2 g3 g4 g5 g6
    obtain ⟨⟨r0, r1, r2, r3, r4, r5, r6⟩, rz⟩ := id D2.2.2.1
    simp only [Nat.zero_add] at r0 r1 r2 r3 r4 r5 r6
    simp only [zeroG] at r0 r1 r2 r3 r4 r5 r6
    have fz := D2.2.2.2.1.1
    have fo := D2.2.2.2.2.2.1.1
    have zo := D2.2.2.2.2.2.2.2
    go_wp2
    refine bodyPost_ret (v := .tuple #[gv g ss gc, .bool false]) (by simp [results, Tryz.results21, go_sem, r0, r1, r2, r3, r4, r5, r6]) rfl ⟨?_, ?_⟩
    · rfl
    · exact below_put7 D2.2.2.2.2.2.2.1 (by omega)
end Go.Proofs.YtmapdpcfanecdaaGreat

namespace Go.Proofs.YtmapdpcfanecdaaGreat
set_option linter.unusedVariables false
set_option linter.unusedSimpArgs false
open Go.RowKit

/-- What the last region reads. -/
def regR (b ob : Nat) (g : Gs) (ss : Option Addr) (gc : Nat) (h : Gs) (st : Option Addr) (hc : Nat) (o : Gs) (w' : World) : Prop :=
  (w'.cell? ⟨b, 0, none⟩ = some (.bool g.n) ∧ w'.cell? ⟨b, 1, none⟩ = some (.bool g.sp.n) ∧ w'.cell? ⟨b, 2, none⟩ = some (.int .i64 g.sp.lo) ∧ w'.cell? ⟨b, 3, none⟩ = some (.int .i64 g.sp.hi) ∧ w'.cell? ⟨b, 4, none⟩ = some (.bool g.t) ∧ w'.cell? ⟨b, 5, none⟩ = some (.bool g.f) ∧ w'.cell? ⟨b, 6, none⟩ = some (.slice ss g.s.length gc)) ∧ (w'.cell? ⟨b + 1, 0, none⟩ = some (.bool h.n) ∧ w'.cell? ⟨b + 1, 1, none⟩ = some (.bool h.sp.n) ∧ w'.cell? ⟨b + 1, 2, none⟩ = some (.int .i64 h.sp.lo) ∧ w'.cell? ⟨b + 1, 3, none⟩ = some (.int .i64 h.sp.hi) ∧ w'.cell? ⟨b + 1, 4, none⟩ = some (.bool h.t) ∧ w'.cell? ⟨b + 1, 5, none⟩ = some (.bool h.f) ∧ w'.cell? ⟨b + 1, 6, none⟩ = some (.slice st h.s.length hc)) ∧ (w'.cell? ⟨ob, 0, none⟩ = some (.bool o.n) ∧ w'.cell? ⟨ob, 1, none⟩ = some (.bool o.sp.n) ∧ w'.cell? ⟨ob, 2, none⟩ = some (.int .i64 o.sp.lo) ∧ w'.cell? ⟨ob, 3, none⟩ = some (.int .i64 o.sp.hi) ∧ w'.cell? ⟨ob, 4, none⟩ = some (.bool o.t) ∧ w'.cell? ⟨ob, 5, none⟩ = some (.bool o.f) ∧ w'.cell? ⟨ob, 6, none⟩ = some (.slice none o.s.length 0))

theorem sp_same {a b : Sp} (h1 : (a.n == b.n) = true) (h2 : (a.lo == b.lo) = true) (h3 : (a.hi == b.hi) = true) : a = b := by
  obtain ⟨a1, a2, a3⟩ := a
  obtain ⟨b1, b2, b3⟩ := b
  simp only [beq_iff_eq] at h1 h2 h3
  rw [h1, h2, h3]
/-- What the region of the two singles reads. -/
def regT (b : Nat) (g : Gs) (ss : Option Addr) (gc : Nat) (h : Gs) (st : Option Addr) (hc : Nat) (w' : World) : Prop :=
  (w'.cell? ⟨b, 0, none⟩ = some (.bool g.n) ∧ w'.cell? ⟨b, 1, none⟩ = some (.bool g.sp.n) ∧ w'.cell? ⟨b, 2, none⟩ = some (.int .i64 g.sp.lo) ∧ w'.cell? ⟨b, 3, none⟩ = some (.int .i64 g.sp.hi) ∧ w'.cell? ⟨b, 4, none⟩ = some (.bool g.t) ∧ w'.cell? ⟨b, 5, none⟩ = some (.bool g.f) ∧ w'.cell? ⟨b, 6, none⟩ = some (.slice ss g.s.length gc)) ∧ (w'.cell? ⟨b + 1, 0, none⟩ = some (.bool h.n) ∧ w'.cell? ⟨b + 1, 1, none⟩ = some (.bool h.sp.n) ∧ w'.cell? ⟨b + 1, 2, none⟩ = some (.int .i64 h.sp.lo) ∧ w'.cell? ⟨b + 1, 3, none⟩ = some (.int .i64 h.sp.hi) ∧ w'.cell? ⟨b + 1, 4, none⟩ = some (.bool h.t) ∧ w'.cell? ⟨b + 1, 5, none⟩ = some (.bool h.f) ∧ w'.cell? ⟨b + 1, 6, none⟩ = some (.slice st h.s.length hc))
end Go.Proofs.YtmapdpcfanecdaaGreat
