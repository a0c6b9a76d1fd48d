/- Walks over the document's own answers: small functions on values. -/
import Derived.Test.YtmapdpcfanecdaaDoorKlawrrp27
import Derived.Test.YtmapdpcfanecdaaDoorKlawrrp03
namespace Go.Proofs.YtmapdpcfanecdaaDoor
set_option linter.unusedVariables false
set_option linter.unusedSimpArgs false
open Go.RowKit

theorem stPre (v f : Nat) (s : Option Addr) (c : List Ins) (cap : Nat) (r : St) (vs : Option Addr) (vc : Nat) (ts : Option Addr) (tc : Nat) (ls : Option Addr) (lc : Nat) (w : World) (hr : RunAt w r vs ts ls) (hp : ProgOk v f c) (hk : RunOk v f c r) (hln : (r.lines.length + 1) * 16 ≤ 140737488355328) :
    ∃ w3, Hid (w3 = (((w.alloc (.cells #[.int .i64 v, .int .i64 f, .slice s c.length cap] 24)).alloc (.cells #[.int .i64 r.at_, .slice vs r.vars.length vc, .slice ts r.things.length tc, .int .i64 r.taken, .slice ls r.lines.length lc, .int .i64 r.fin] 46)).alloc (.cells #[.int .i64 0, .slice none 0 0, .slice none 0 0, .int .i64 0, .slice none 0 0, .int .i64 0] 46))) ∧ Below w.heap.size w w3 ∧ P3 w3 w.heap.size v f s c.length cap ∧ R6 w3 (w.heap.size + 1) (.int .i64 r.at_) (.slice vs r.vars.length vc) (.slice ts r.things.length tc) (.int .i64 r.taken) (.slice ls r.lines.length lc) (.int .i64 r.fin) ∧ R6 w3 (w.heap.size + 1 + 1) (.int .i64 0) (.slice none 0 0) (.slice none 0 0) (.int .i64 0) (.slice none 0 0) (.int .i64 0) ∧ Hid (w3.heap.size = w.heap.size + 1 + 1 + 1) ∧ Hid (Calls Tryd.prog 50 #[.agg #[.int .i64 r.at_, .slice vs r.vars.length vc, .slice ts r.things.length tc, .int .i64 r.taken, .slice ls r.lines.length lc, .int .i64 r.fin]] w3 fun e w' => ∃ vv tv lv fv, e = .returned (.agg #[.int .i64 r.at_, vv, tv, .int .i64 r.taken, lv, .int .i64 r.fin]) ∧ OwnRows w' w3.heap.size r vv tv lv fv ∧ Below w3.heap.size w3 w') := by
  have hb0 : Below w.heap.size w (((w.alloc (.cells #[.int .i64 v, .int .i64 f, .slice s c.length cap] 24)).alloc (.cells #[.int .i64 r.at_, .slice vs r.vars.length vc, .slice ts r.things.length tc, .int .i64 r.taken, .slice ls r.lines.length lc, .int .i64 r.fin] 46)).alloc (.cells #[.int .i64 0, .slice none 0 0, .slice none 0 0, .int .i64 0, .slice none 0 0, .int .i64 0] 46)) := by go_grown
  have P0 := (P3.new w v f s c.length cap).call (w' := (((w.alloc (.cells #[.int .i64 v, .int .i64 f, .slice s c.length cap] 24)).alloc (.cells #[.int .i64 r.at_, .slice vs r.vars.length vc, .slice ts r.things.length tc, .int .i64 r.taken, .slice ls r.lines.length lc, .int .i64 r.fin] 46)).alloc (.cells #[.int .i64 0, .slice none 0 0, .slice none 0 0, .int .i64 0, .slice none 0 0, .int .i64 0] 46))) (by go_grown)
  have Q0 := (R6.new (w.alloc (.cells #[.int .i64 v, .int .i64 f, .slice s c.length cap] 24)) 46 (.int .i64 r.at_) (.slice vs r.vars.length vc) (.slice ts r.things.length tc) (.int .i64 r.taken) (.slice ls r.lines.length lc) (.int .i64 r.fin)).call (w' := (((w.alloc (.cells #[.int .i64 v, .int .i64 f, .slice s c.length cap] 24)).alloc (.cells #[.int .i64 r.at_, .slice vs r.vars.length vc, .slice ts r.things.length tc, .int .i64 r.taken, .slice ls r.lines.length lc, .int .i64 r.fin] 46)).alloc (.cells #[.int .i64 0, .slice none 0 0, .slice none 0 0, .int .i64 0, .slice none 0 0, .int .i64 0] 46))) (by go_grown)
  have Z0 := R6.new ((w.alloc (.cells #[.int .i64 v, .int .i64 f, .slice s c.length cap] 24)).alloc (.cells #[.int .i64 r.at_, .slice vs r.vars.length vc, .slice ts r.things.length tc, .int .i64 r.taken, .slice ls r.lines.length lc, .int .i64 r.fin] 46)) 46 (.int .i64 0) (.slice none 0 0) (.slice none 0 0) (.int .i64 0) (.slice none 0 0) (.int .i64 0)
  rw [World.size_alloc] at Q0
  rw [World.size_alloc, World.size_alloc] at Z0
  have hz3 : (((w.alloc (.cells #[.int .i64 v, .int .i64 f, .slice s c.length cap] 24)).alloc (.cells #[.int .i64 r.at_, .slice vs r.vars.length vc, .slice ts r.things.length tc, .int .i64 r.taken, .slice ls r.lines.length lc, .int .i64 r.fin] 46)).alloc (.cells #[.int .i64 0, .slice none 0 0, .slice none 0 0, .int .i64 0, .slice none 0 0, .int .i64 0] 46)).heap.size = w.heap.size + 1 + 1 + 1 := by simp
  have HCR := copyRunR_any r vs vc ts tc ls lc (((w.alloc (.cells #[.int .i64 v, .int .i64 f, .slice s c.length cap] 24)).alloc (.cells #[.int .i64 r.at_, .slice vs r.vars.length vc, .slice ts r.things.length tc, .int .i64 r.taken, .slice ls r.lines.length lc, .int .i64 r.fin] 46)).alloc (.cells #[.int .i64 0, .slice none 0 0, .slice none 0 0, .int .i64 0, .slice none 0 0, .int .i64 0] 46)) (hr.below hb0 (Nat.le_refl _)) (by have := hk.vars; have := hp.v8; omega) (fun t ht => by have := hk.fields t ht; have := hp.f3; omega) hk.things (by omega)
  exact ⟨_, rfl, hb0, P0, Q0, Z0, hz3, HCR⟩
theorem stPost {v f : Int} {s : Option Addr} {c : List Ins} {n cap : Nat} {r : St} {is : Option Addr} {ins : List Int} {w w3 w4 : World} {vs1 : Option Addr} {vc1 : Nat} {ts1 : Option Addr} {tc1 : Nat} {ls1 : Option Addr} {lc1 : Nat} {fv : List Value} {x0 x1 x2 x3 x4 x5 : Value}
    (hz3 : w3.heap.size = w.heap.size + 1 + 1 + 1) (OR : OwnRows w4 w3.heap.size r (.slice vs1 r.vars.length vc1) (.slice ts1 r.things.length tc1) (.slice ls1 r.lines.length lc1) fv) (P0 : P3 w3 w.heap.size v f s n cap) (Q0 : R6 w3 (w.heap.size + 1) x0 x1 x2 x3 x4 x5) (Z0 : R6 w3 (w.heap.size + 1 + 1) (.int .i64 0) (.slice none 0 0) (.slice none 0 0) (.int .i64 0) (.slice none 0 0) (.int .i64 0)) (hb0 : Below w.heap.size w w3) (hb4 : Below w3.heap.size w3 w4) (hc : CodeAt w s c) (hI : IntsAt w is ins) :
    ∃ w5, Hid (w5 = ((((((w4.setCell ⟨w.heap.size + 1, 0, none⟩ (.int .i64 r.at_)).setCell ⟨w.heap.size + 1, 1, none⟩ (.slice vs1 r.vars.length vc1)).setCell ⟨w.heap.size + 1, 2, none⟩ (.slice ts1 r.things.length tc1)).setCell ⟨w.heap.size + 1, 3, none⟩ (.int .i64 r.taken)).setCell ⟨w.heap.size + 1, 4, none⟩ (.slice ls1 r.lines.length lc1)).setCell ⟨w.heap.size + 1, 5, none⟩ (.int .i64 r.fin))) ∧ OwnRun w5 (w.heap.size + 1) (w.heap.size + 1) r (.slice vs1 r.vars.length vc1) (.slice ts1 r.things.length tc1) (.slice ls1 r.lines.length lc1) fv ∧ P3 w5 w.heap.size v f s n cap ∧ R6 w5 (w.heap.size + 1 + 1) (.int .i64 0) (.slice none 0 0) (.slice none 0 0) (.int .i64 0) (.slice none 0 0) (.int .i64 0) ∧ Below w.heap.size w w5 ∧ CodeAt w5 s c ∧ IntsAt w5 is ins ∧ w.heap.size + 1 + 1 + 1 ≤ w5.heap.size ∧ some (w.heap.size + 1 + 1) ∉ ownBlocks (w.heap.size + 1) (.slice vs1 r.vars.length vc1) (.slice ts1 r.things.length tc1) (.slice ls1 r.lines.length lc1) fv := by
  have P4 := P0.call hb4
  have Q4 := Q0.call hb4
  have Z4 := Z0.call hb4
  have H4 := hb0.trans (hb4.mono hb0.size)
  rw [hz3] at OR
  have hz4 : w.heap.size + 1 + 1 + 1 ≤ w4.heap.size := by have := hb4.size; omega
  have O5 : OwnRun (set6 w4 (w.heap.size + 1) (.int .i64 r.at_) (.slice vs1 r.vars.length vc1) (.slice ts1 r.things.length tc1) (.int .i64 r.taken) (.slice ls1 r.lines.length lc1) (.int .i64 r.fin)) (w.heap.size + 1) (w.heap.size + 1) r (.slice vs1 r.vars.length vc1) (.slice ts1 r.things.length tc1) (.slice ls1 r.lines.length lc1) fv := (OR.set6 (b := w.heap.size + 1) (by omega) (.int .i64 r.at_) (.slice vs1 r.vars.length vc1) (.slice ts1 r.things.length tc1) (.int .i64 r.taken) (.slice ls1 r.lines.length lc1) (.int .i64 r.fin)).run (Q4.put (.int .i64 r.at_) (.slice vs1 r.vars.length vc1) (.slice ts1 r.things.length tc1) (.int .i64 r.taken) (.slice ls1 r.lines.length lc1) (.int .i64 r.fin)).cells (by omega) (Nat.le_refl _) (by omega)
  have P5 : P3 (set6 w4 (w.heap.size + 1) (.int .i64 r.at_) (.slice vs1 r.vars.length vc1) (.slice ts1 r.things.length tc1) (.int .i64 r.taken) (.slice ls1 r.lines.length lc1) (.int .i64 r.fin)) w.heap.size v f s n cap := P4.below (B := w.heap.size + 1) (below_set6 (Below.refl _ _) (Nat.le_refl _) _ _ _ _ _ _) (by omega)
  have Z5 : R6 (set6 w4 (w.heap.size + 1) (.int .i64 r.at_) (.slice vs1 r.vars.length vc1) (.slice ts1 r.things.length tc1) (.int .i64 r.taken) (.slice ls1 r.lines.length lc1) (.int .i64 r.fin)) (w.heap.size + 1 + 1) (.int .i64 0) (.slice none 0 0) (.slice none 0 0) (.int .i64 0) (.slice none 0 0) (.int .i64 0) := Z4.same (set6_far _ _ _ _ _ _ _ _ _ (by omega)) (by rw [set6_size]; exact Nat.le_refl _)
  have H5 : Below w.heap.size w (set6 w4 (w.heap.size + 1) (.int .i64 r.at_) (.slice vs1 r.vars.length vc1) (.slice ts1 r.things.length tc1) (.int .i64 r.taken) (.slice ls1 r.lines.length lc1) (.int .i64 r.fin)) := below_set6 H4 (by omega) _ _ _ _ _ _
  have C5 := hc.below H5 (Nat.le_refl _)
  have I5 := hI.below H5 (Nat.le_refl _)
  have hz5 : w.heap.size + 1 + 1 + 1 ≤ (set6 w4 (w.heap.size + 1) (.int .i64 r.at_) (.slice vs1 r.vars.length vc1) (.slice ts1 r.things.length tc1) (.int .i64 r.taken) (.slice ls1 r.lines.length lc1) (.int .i64 r.fin)).heap.size := by rw [set6_size]; exact hz4
  have NRES : some (w.heap.size + 1 + 1) ∉ ownBlocks (w.heap.size + 1) (.slice vs1 r.vars.length vc1) (.slice ts1 r.things.length tc1) (.slice ls1 r.lines.length lc1) fv := fun hm => by
    rcases List.mem_cons.1 hm with e | e
    · have := Option.some.inj e; omega
    · have := (OR.lt (k := w.heap.size + 1 + 1) e).2; omega
  exact ⟨_, rfl, O5, P5, Z5, H5, C5, I5, hz5, NRES⟩
theorem SInv.all {w wx : World} {r : St} {v f : Int} {s : Option Addr} {n cap bi : Nat} {i : Ins} {A C : Val} {vv tv lv : Value} {fv : List Value} (S : SInv w wx r v f s n cap bi i A C vv tv lv fv) :
    wx.cell? ⟨bi, 0, none⟩ = some (.int .i64 i.k) ∧ wx.cell? ⟨bi, 1, none⟩ = some (.int .i64 i.to) ∧ wx.cell? ⟨bi, 2, none⟩ = some (.int .i64 i.a) ∧ wx.cell? ⟨bi, 3, none⟩ = some (.int .i64 i.b) ∧ wx.cell? ⟨bi, 4, none⟩ = some (.int .i64 i.n) ∧ wx.cell? ⟨bi, 5, none⟩ = some (.int .i64 i.g) ∧ bi < wx.heap.size ∧
    wx.cell? ⟨w.heap.size, 0, none⟩ = some (.int .i64 v) ∧ wx.cell? ⟨w.heap.size, 1, none⟩ = some (.int .i64 f) ∧ wx.cell? ⟨w.heap.size, 2, none⟩ = some (.slice s n cap) ∧ w.heap.size < wx.heap.size ∧
    wx.cell? ⟨w.heap.size + 1, 0, none⟩ = some (.int .i64 r.at_) ∧ wx.cell? ⟨w.heap.size + 1, 1, none⟩ = some vv ∧ wx.cell? ⟨w.heap.size + 1, 2, none⟩ = some tv ∧ wx.cell? ⟨w.heap.size + 1, 3, none⟩ = some (.int .i64 r.taken) ∧ wx.cell? ⟨w.heap.size + 1, 4, none⟩ = some lv ∧ wx.cell? ⟨w.heap.size + 1, 5, none⟩ = some (.int .i64 r.fin) ∧ w.heap.size + 1 < wx.heap.size ∧
    wx.frozen? ⟨w.heap.size + 1, 2, none⟩ = false ∧ wx.frozen? ⟨w.heap.size + 1, 3, none⟩ = false ∧ wx.frozen? ⟨w.heap.size + 1, 4, none⟩ = false ∧ wx.frozen? ⟨w.heap.size + 1, 5, none⟩ = false ∧
    wx.cell? ⟨bi + 1, 0, none⟩ = some (.int .i64 A.k) ∧ wx.cell? ⟨bi + 1, 1, none⟩ = some (.int .i64 A.n) ∧ bi + 1 < wx.heap.size ∧ wx.frozen? ⟨bi + 1, 0, none⟩ = false ∧ wx.frozen? ⟨bi + 1, 1, none⟩ = false ∧
    wx.cell? ⟨bi + 1 + 1, 0, none⟩ = some (.int .i64 C.k) ∧ wx.cell? ⟨bi + 1 + 1, 1, none⟩ = some (.int .i64 C.n) ∧ bi + 1 + 1 < wx.heap.size ∧ wx.frozen? ⟨bi + 1 + 1, 0, none⟩ = false ∧ wx.frozen? ⟨bi + 1 + 1, 1, none⟩ = false := by
  obtain ⟨⟨j0, j1, j2, j3, j4, j5⟩, jz, -⟩ := id S.ins
  obtain ⟨⟨p0, p1, p2⟩, pz⟩ := id S.prg
  obtain ⟨⟨m0, m1, m2, m3, m4, m5⟩, mz, mf⟩ := id S.own.r6
  obtain ⟨⟨a0, a1⟩, az, af⟩ := id S.va
  obtain ⟨⟨b0, b1⟩, bz, bf⟩ := id S.vb
  exact ⟨j0, j1, j2, j3, j4, j5, jz, p0, p1, p2, pz, m0, m1, m2, m3, m4, m5, mz, mf 2, mf 3, mf 4, mf 5, a0, a1, az, af 0, af 1, b0, b1, bz, bf 0, bf 1⟩
end Go.Proofs.YtmapdpcfanecdaaDoor

namespace Go.Proofs.YtmapdpcfanecdaaDoor
set_option linter.unusedVariables false
set_option linter.unusedSimpArgs false
open Go.RowKit

set_option maxHeartbeats 1000000 in
theorem countsOf_any (v : Val) (w : World) :
    Calls Tryd.prog 53 #[.agg #[.int .i64 v.k, .int .i64 v.n]] w fun e w' => e = .returned (.bool (cnt v)) ∧ Below w.heap.size w w' := by
  obtain ⟨k, n⟩ := v
  by_cases h3 : k = 3
  · subst h3
    go_enter Tryd.func53, Tryd.ntmps53
    go_wp2
    go_ret
    exact ⟨rfl, by go_grown⟩
  by_cases h1 : k = 1
  · subst h1
    go_enter Tryd.func53, Tryd.ntmps53
    go_wp2
    go_ret
    exact ⟨ret_bool (by simp [cnt, bne]; rfl), by go_grown⟩
  by_cases h2 : k = 2
  · subst h2
    go_enter Tryd.func53, Tryd.ntmps53
    go_wp2
    go_ret
    exact ⟨ret_bool (by simp [cnt, bne]; rfl), by go_grown⟩
  · have e3 : (k == 3) = false := by simpa using h3
    have e1 : (k == 1) = false := by simpa using h1
    have e2 : (k == 2) = false := by simpa using h2
    go_enter Tryd.func53, Tryd.ntmps53
    go_wp2
    go_ret
    exact ⟨ret_bool (by simp [cnt, h1, h2, h3]), by go_grown⟩

set_option maxHeartbeats 1000000 in
theorem wrap_any (n : Int) (w : World) :
    Calls Tryd.prog 55 #[.int .i64 n] w fun e w' => e = .returned (.int .i64 (wr n)) ∧ w' = w := by
  have hq : Hid (4294967296 * n.tdiv 4294967296 + n.tmod 4294967296 = n) := Int.mul_tdiv_add_tmod n 4294967296
  have hlo : -4294967296 < n.tmod 4294967296 := Int.lt_tmod_of_pos n (by decide)
  have hhi : n.tmod 4294967296 < 4294967296 := Int.tmod_lt_of_pos n (by decide)
  go_enter Tryd.func55, Tryd.ntmps55
  go_wp2
  all_goals go_ret
  all_goals exact ⟨ret_int (by have := hq.out; unfold wr; first | omega | (simp only [wrap64] at *; omega)), rfl⟩

/-- A value's line. -/
def showV (v : Val) : ByteArray := if v.k = 0 then ⟨#[110, 117, 108, 108]⟩ else if v.k = 1 then ⟨(Lib.itoa v.n).toArray⟩ else if v.k = 2 then (if v.n = 1 then ⟨#[116, 114, 117, 101]⟩ else ⟨#[102, 97, 108, 115, 101]⟩) else ⟨#[116, 104, 105, 110, 103]⟩

set_option maxHeartbeats 1000000 in
theorem showValue_any (v : Val) (w : World) (h0 : -9223372036854775808 ≤ v.n) (h1 : v.n ≤ 9223372036854775807) :
    Calls Tryd.prog 56 #[.agg #[.int .i64 v.k, .int .i64 v.n]] w fun e w' => e = .returned (.string (showV v)) ∧ Below w.heap.size w w' := by
  obtain ⟨k, n⟩ := v
  simp only at h0 h1
  have walk : ∀ s : ByteArray, showV ⟨k, n⟩ = s → Calls Tryd.prog 56 #[.agg #[.int .i64 k, .int .i64 n]] w (fun e w' => e = .returned (.string s) ∧ Below w.heap.size w w') := by
    intro s hs
    by_cases e0 : k = 0
    · subst e0
      have hs : s = ⟨#[110, 117, 108, 108]⟩ := by rw [← hs]; rfl
      subst hs
      go_enter Tryd.func56, Tryd.ntmps56
      go_wp2
      go_ret
      exact ⟨rfl, by go_grown⟩
    by_cases e1 : k = 1
    · subst e1
      have hs : s = ⟨(Lib.itoa n).toArray⟩ := by rw [← hs]; rfl
      subst hs
      go_enter Tryd.func56, Tryd.ntmps56
      go_wp2_with (go_at_call 38; refine (digits_any _ _ h0 h1).mono ?_; rintro e w1 ⟨rfl, hb1⟩)
      go_ret
      exact ⟨rfl, Below.trans (by go_grown) (hb1.mono (by go_size))⟩
    by_cases e2 : k = 2
    · subst e2
      by_cases en : n = 1
      · subst en
        have hs : s = ⟨#[116, 114, 117, 101]⟩ := by rw [← hs]; rfl
        subst hs
        go_enter Tryd.func56, Tryd.ntmps56
        go_wp2
        go_ret
        exact ⟨rfl, by go_grown⟩
      · have hs : s = ⟨#[102, 97, 108, 115, 101]⟩ := by rw [← hs]; simp [showV, en]
        subst hs
        have en' : (n == 1) = false := by simpa using en
        go_enter Tryd.func56, Tryd.ntmps56
        go_wp2
        go_ret
        exact ⟨rfl, by go_grown⟩
    · have hs : s = ⟨#[116, 104, 105, 110, 103]⟩ := by rw [← hs]; simp [showV, e0, e1, e2]
      subst hs
      have e0' : (k == 0) = false := by simpa using e0
      have e1' : (k == 1) = false := by simpa using e1
      have e2' : (k == 2) = false := by simpa using e2
      go_enter Tryd.func56, Tryd.ntmps56
      go_wp2
      go_ret
      exact ⟨rfl, by go_grown⟩
  exact walk _ rfl
end Go.Proofs.YtmapdpcfanecdaaDoor
