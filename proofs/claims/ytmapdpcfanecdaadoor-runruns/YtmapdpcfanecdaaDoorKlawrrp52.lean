/- A row of cells stored one behind the other. -/
import Derived.Test.YtmapdpcfanecdaaDoorKlawrrp51
import Derived.Deep.DeepCutAuto
import Derived.Lib.SmallJoins
import Derived.Deep.Slices
import Derived.ProofKit
import Derived.SizedLaws
import Derived.Test.YtmapdpcfanecdaaDoorKlawrrp10
import Derived.Test.YtmapdpcfanecdaaDoorKlawrrp03
import Derived.Test.YtmapdpcfanecdaaDoorKlawrrp09
import Derived.Test.YtmapdpcfanecdaaDoorKlawrrp17
namespace Go.Proofs.YtmapdpcfanecdaaDoor
set_option linter.unusedVariables false
set_option linter.unusedSimpArgs false
open Go.RowKit
attribute [local go_sem ↓] Go.wp_at_zero Go.wp_at_succ

theorem lenSt_of {v f : Nat} {c : List Ins} {st : St} (hp : ProgOk v f c) (h : RunOk v f c st) (hl : st.lines.length ≤ 5000) : LenSt st := by
  have h1 := h.vars
  have h2 := hp.v8
  have h3 := h.things
  refine ⟨by unfold maxLen; omega, by unfold maxLen; omega, by unfold maxLen; omega, fun t ht => ?_⟩
  have := h.fields t ht
  have := hp.f3
  unfold maxLen
  omega
set_option maxHeartbeats 2000000 in
set_option maxRecDepth 20000 in
theorem runRuns_ok (v f : Nat) (s : Option Addr) (c : List Ins) (cap : Nat) (is : Option Addr) (ic : Nat) (ins : List Int) (fuel : Nat) (w : World) (hc : CodeAt w s c) (hI : IntsAt w is ins) (hT : Tab w) (h0 : ckProg v f c = 0) (hf5 : fuel ≤ 5000) (hbg : ∀ wx, Tab wx → Calls Tryd.prog 24 #[] wx fun e w' => e = .returned (.bool true) ∧ Below wx.heap.size wx w') :
    Calls Tryd.prog 7 #[.agg #[.int .i64 (v : Int), .int .i64 (f : Int), .slice s c.length cap], .slice is ins.length ic, .int .i64 (fuel : Int)] w fun e w' => e = .returned (.bool true) ∧ Below w.heap.size w w' := by
  have hb0 : Below w.heap.size w (w.alloc (.cells #[.int .i64 (v : Int), .int .i64 (f : Int), .slice s c.length cap] 24)) := by go_grown
  have P0 := P3.new w v f s c.length cap
  have hc0 := hc.below hb0 (Nat.le_refl _)
  have hI0 := hI.below hb0 (Nat.le_refl _)
  have hp := progOk_of h0
  have HR := hideK (runM_ok v f s c cap is ic ins fuel (w.alloc (.cells #[.int .i64 (v : Int), .int .i64 (f : Int), .slice s c.length cap] 24)) hc0 hI0 (hT.below hb0) h0 hf5)
  have HRO := hideK (fun wx hx hy => runOf_any v f s c cap is ic ins fuel wx hx hy hp hf5)
  have HBG := hideK hbg
  have HCK := hideK (fun wx hx => checkProgram_any (v : Int) (f : Int) s cap c wx hx)
  rw [h0] at HCK
  have HP := hideK hp
  have nf0 : ¬ ((fuel : Int) < 0) := by omega
  have nf5 : ¬ (5000 < (fuel : Int)) := by omega
  clear hbg h0 hp hc hI
  generalize runSt v f c ins fuel = rs at *
  obtain ⟨st, nn⟩ := rs
  simp only at HR HRO
  go_enter Tryd.func7, Tryd.ntmps7
  go_wp2_with (go_at_call 27; fail)
  generalize (w.alloc (.cells #[.int .i64 (v : Int), .int .i64 (f : Int), .slice s c.length cap] 24)) = w0 at *
  refine HR.out.mono ?_
  rintro e w1 ⟨vv, tv, lv, fv, rfl, OR, hok, hl5, hb1⟩
  clear HR
  have hlen := hideK (lenSt_of HP.out hok hl5)
  obtain ⟨vs, vc, ts, tc, ls, lc, rfl, rfl, rfl, A1⟩ := OR.at
  have hba : Below w1.heap.size w1 (w1.alloc (.cells #[.int .i64 st.at_, .slice vs st.vars.length vc, .slice ts st.things.length tc, .int .i64 st.taken, .slice ls st.lines.length lc, .int .i64 st.fin] 46)) := by go_grown
  have hb2 : Below w0.heap.size w0 (w1.alloc (.cells #[.int .i64 st.at_, .slice vs st.vars.length vc, .slice ts st.things.length tc, .int .i64 st.taken, .slice ls st.lines.length lc, .int .i64 st.fin] 46)) := hb1.alloc hb1.size _
  have A2 := A1.below hba (Nat.le_refl _)
  have P2 := P0.call hb2
  have Q2 := R6.new w1 46 (.int .i64 st.at_) (.slice vs st.vars.length vc) (.slice ts st.things.length tc) (.int .i64 st.taken) (.slice ls st.lines.length lc) (.int .i64 st.fin)
  have hc2 := hc0.below hb2 (Nat.le_refl _)
  have hI2 := hI0.below hb2 (Nat.le_refl _)
  have H2 := hb0.trans (hb2.mono hb0.size)
  clear OR A1 hb1 hba hok hl5
  go_upto_region 2 with fail
  generalize (w1.alloc (.cells #[.int .i64 st.at_, .slice vs st.vars.length vc, .slice ts st.things.length tc, .int .i64 st.taken, .slice ls st.lines.length lc, .int .i64 st.fin] 46)) = w2 at *
  obtain ⟨⟨p0, p1, p2⟩, pz⟩ := id P2
  go_wp2_with (go_at_call 10; fail)
  refine (HCK.out _ hc2).mono ?_
  rintro e w3 ⟨rfl, hb3⟩
  clear p0 p1 p2 pz
  have hbz : Below w3.heap.size w3 (w3.alloc (.cells #[.int .i64 0, .slice none 0 0, .slice none 0 0, .int .i64 0, .slice none 0 0, .int .i64 0] 46)) := by go_grown
  have hb4 := hb3.trans (hb3.size |> fun h => hbz.mono h)
  have H4 := H2.trans (hb4.mono H2.size)
  have P4 := P2.call hb4
  have Q4 := Q2.call hb4
  have A4 := A2.below hb4 (Nat.le_refl _)
  have hc4 := hc2.below hb4 (Nat.le_refl _)
  have hI4 := hI2.below hb4 (Nat.le_refl _)
  have Y4 := R6.new w3 46 (.int .i64 0) (.slice none 0 0) (.slice none 0 0) (.int .i64 0) (.slice none 0 0) (.int .i64 0)
  have z13 : w1.heap.size < w3.heap.size := Nat.lt_of_lt_of_le Q2.2.1 hb3.size
  have z03 : w.heap.size ≤ w3.heap.size := by have := H2.size; have := hb3.size; omega
  have z23 : w2.heap.size ≤ w3.heap.size := hb3.size
  have A2' := A2
  clear hb3 hbz P2 Q2 A2 hc2 hI2 H2
  go_upto_region 8 with fail
  generalize (w3.alloc (.cells #[.int .i64 0, .slice none 0 0, .slice none 0 0, .int .i64 0, .slice none 0 0, .int .i64 0] 46)) = w4 at *
  obtain ⟨⟨p0, p1, p2⟩, pz⟩ := id P4
  go_wp2_with (go_at_call 28; fail)
  refine (HRO.out _ hc4 hI4).mono ?_
  rintro e w5 ⟨vv, tv, lv, fv, rfl, OR, -, -, hb5⟩
  obtain ⟨vs2, vc2, ts2, tc2, ls2, lc2, rfl, rfl, rfl, -⟩ := OR.at
  have H5 := H4.trans (hb5.mono H4.size)
  have Y5 := Y4.call hb5
  have Q5 := Q4.call hb5
  have Y6 := Y5.put (.int .i64 st.at_) (.slice vs2 st.vars.length vc2) (.slice ts2 st.things.length tc2) (.int .i64 st.taken) (.slice ls2 st.lines.length lc2) (.int .i64 st.fin)
  have Q6 : R6 (set6 w5 w3.heap.size (.int .i64 st.at_) (.slice vs2 st.vars.length vc2) (.slice ts2 st.things.length tc2) (.int .i64 st.taken) (.slice ls2 st.lines.length lc2) (.int .i64 st.fin)) w1.heap.size (.int .i64 st.at_) (.slice vs st.vars.length vc) (.slice ts st.things.length tc) (.int .i64 st.taken) (.slice ls st.lines.length lc) (.int .i64 st.fin) := Q5.same (set6_far _ _ _ _ _ _ _ _ _ (by omega)) (by rw [set6_size]; exact Nat.le_refl _)
  have O6 := OR.set6 (b := w3.heap.size) Y4.2.1 (.int .i64 st.at_) (.slice vs2 st.vars.length vc2) (.slice ts2 st.things.length tc2) (.int .i64 st.taken) (.slice ls2 st.lines.length lc2) (.int .i64 st.fin)
  obtain ⟨_, _, _, _, _, _, e1, e2, e3, B6⟩ := O6.at
  cases e1
  cases e2
  cases e3
  have hb6 : Below w2.heap.size w2 (set6 w5 w3.heap.size (.int .i64 st.at_) (.slice vs2 st.vars.length vc2) (.slice ts2 st.things.length tc2) (.int .i64 st.taken) (.slice ls2 st.lines.length lc2) (.int .i64 st.fin)) := below_set6 (hb4.trans (hb5.mono hb4.size)) z23 _ _ _ _ _ _
  have A6 := A2'.below hb6 (Nat.le_refl _)
  have H6 : Below w.heap.size w (set6 w5 w3.heap.size (.int .i64 st.at_) (.slice vs2 st.vars.length vc2) (.slice ts2 st.things.length tc2) (.int .i64 st.taken) (.slice ls2 st.lines.length lc2) (.int .i64 st.fin)) := below_set6 H5 z03 _ _ _ _ _ _
  obtain ⟨⟨y0, y1, y2, y3, y4, y5⟩, yz, yf⟩ := id Y5
  have g0 := yf 0
  have g1 := yf 1
  have g2 := yf 2
  have g3 := yf 3
  have g4 := yf 4
  have g5 := yf 5
  clear yf p0 p1 p2 pz P4 Q4 Y4 A4 hc4 hI4 H4 H5 OR O6 Q5 Y5 hb5 hb4 hb6
  unfold set6 at Y6 Q6 B6 A6 H6
  go_upto_region 9 with fail
  clear y0 y1 y2 y3 y4 y5 yz g0 g1 g2 g3 g4 g5
  generalize ((((((w5.setCell ⟨w3.heap.size, 0, none⟩ (.int .i64 st.at_)).setCell ⟨w3.heap.size, 1, none⟩ (.slice vs2 st.vars.length vc2)).setCell ⟨w3.heap.size, 2, none⟩ (.slice ts2 st.things.length tc2)).setCell ⟨w3.heap.size, 3, none⟩ (.int .i64 st.taken)).setCell ⟨w3.heap.size, 4, none⟩ (.slice ls2 st.lines.length lc2)).setCell ⟨w3.heap.size, 5, none⟩ (.int .i64 st.fin)) = w6 at *
  go_wp2_with (go_at_call 24; fail)
  refine (HBG.out _ (hT.below H6)).mono ?_
  rintro e w7 ⟨rfl, hb7⟩
  have H7 := H6.trans (hb7.mono H6.size)
  obtain ⟨⟨r0, r1, r2, r3, r4, r5⟩, rz, -⟩ := id (Q6.call hb7)
  obtain ⟨⟨y0, y1, y2, y3, y4, y5⟩, yz, -⟩ := id (Y6.call hb7)
  have HI := hideK (runIs_ok st vs vc ts tc ls lc vs2 vc2 ts2 tc2 ls2 lc2 w7 hlen.out (A6.below hb7 (Nat.le_refl _)) (B6.below hb7 (Nat.le_refl _)))
  unfold runV at HI
  clear Q6 Y6 A6 B6 H6 hb7
  go_wp2_with (go_at_call 26; fail)
  refine HI.out.mono ?_
  rintro e w8 ⟨rfl, hb8⟩
  go_wp2
  go_ret
  exact ⟨rfl, H7.trans (hb8.mono H7.size)⟩

theorem runRuns_any (V F : Int) (s : Option Addr) (c : List Ins) (cap : Nat) (is : Option Addr) (ic : Nat) (ins : List Int) (fuel : Int) (w : World) (hc : CodeAt w s c) (hI : IntsAt w is ins) (hT : Tab w) (hbg : ∀ wx, Tab wx → Calls Tryd.prog 24 #[] wx fun e w' => e = .returned (.bool true) ∧ Below wx.heap.size wx w') :
    Calls Tryd.prog 7 #[.agg #[.int .i64 V, .int .i64 F, .slice s c.length cap], .slice is ins.length ic, .int .i64 fuel] w fun e w' => e = .returned (.bool true) ∧ Below w.heap.size w w' := by
  by_cases h0 : ckProg V F c = 0
  · have hp := progOk_of h0
    obtain ⟨v, rfl⟩ := Int.eq_ofNat_of_zero_le (show 0 ≤ V by have := hp.v1; omega)
    obtain ⟨f, rfl⟩ := Int.eq_ofNat_of_zero_le hp.f0
    by_cases h1 : fuel < 0
    · exact runRuns_low v f s c cap is ic ins fuel w hc hT h0 h1 hbg
    by_cases h2 : 5000 < fuel
    · exact runRuns_high v f s c cap is ic ins fuel w hc hT h0 h2 hbg
    obtain ⟨n, rfl⟩ := Int.eq_ofNat_of_zero_le (show 0 ≤ fuel by omega)
    exact runRuns_ok v f s c cap is ic ins n w hc hI hT h0 (by omega) hbg
  · exact runRuns_err V F s c cap is ic ins fuel w hc hT h0 hbg
end Go.Proofs.YtmapdpcfanecdaaDoor

namespace Go.Proofs.YtmapdpcfanecdaaDoor
set_option linter.unusedVariables false
set_option linter.unusedSimpArgs false
open Go.RowKit Go.ChangeShapes Go.WideShapes Go.Joins Go.Deep

section
variable {H : Type} {enc : TypeId × Value → H} {P : Program} {w : World} {base : Nat} {spare : Nat → Bool} {held : Bool}

theorem choose_to {α : Type} (inh : Nonempty α) {len : Nat} {R : Nat → α → Prop} (h : ∀ i, i < len → ∃ q, R i q) : ∃ f : Nat → α, ∀ i, i < len → R i (f i) := by
  refine ⟨fun i => if hi : i < len then Classical.choose (h i hi) else Classical.choice inh, fun i hi => ?_⟩
  simp only [dif_pos hi]
  exact Classical.choose_spec (h i hi)

/-- A slice of elements, each of them read by its own law. -/
theorem read_list {α : Type} {t e : TypeId} {n : Nat} (hn : 0 < n) (ht : P.underlying t = some (.slice e)) (hcn : P.cellsOf e = n) (Q : α → List Value → Prop) (inh : Nonempty α)
    (each : ∀ fuel cs x, DataW.trod enc P w base spare held fuel e cs = some x → ∃ q, Q q cs) {fuel : Nat} {v : Value} {x : DataW H × List MemPlace} (h : DataW.trod enc P w base spare held fuel t [v] = some x) :
    ∃ (s : Option Addr) (cap : Nat) (l : List α), v = .slice s l.length cap ∧ l.length ≤ cap ∧ cap ≤ maxLen ∧ (l = [] ∨ ∃ b off, s = some ⟨b, off, none⟩ ∧ b < w.heap.size ∧ ∀ k (hk : k < l.length), ∃ cs, (∀ j, j < n → w.cell? ⟨b, off + k * n + j, none⟩ = cs[j]?) ∧ Q l[k] cs) ∧
      (l ≠ [] → ∃ m, l.length ≤ m ∧ m * P.bytesOf e ∈ x.1.weights P t) := by
  rcases open_slice ht h with ⟨hv, _⟩ | ⟨a, len, cap, m, n', D, Pl, hv, hb, hl, hm, hmm, hx, hi⟩
  · simp at hv
    subst hv
    exact ⟨none, 0, [], rfl, Nat.le_refl _, by unfold maxLen; omega, .inl rfl, fun h => absurd rfl h⟩
  · simp at hv
    subst hv
    have hlm : len ≤ m := by rw [hmm]; split <;> omega
    have ea : ∀ i, i < len → ∃ q : α, ∃ cs, (∀ j, j < n → w.cell? (a.add (i * n + j)) = cs[j]?) ∧ cs.length = n ∧ Q q cs := by
      intro i hil
      obtain ⟨cs', h1, h2⟩ := hi i (by omega)
      rw [hcn] at h1
      obtain ⟨_, hlen, hcell⟩ := World.cells?_some h1
      obtain ⟨q, hq⟩ := each _ _ _ h2
      refine ⟨q, cs', fun j hj => ?_, hlen, hq⟩
      rw [← Deep.add_add]
      exact hcell j hj
    obtain ⟨f, hf⟩ := choose_to inh ea
    refine ⟨some a, cap, (List.range len).map f, by simp, by simpa using hl, hm, ?_, fun _ => ⟨m, by simpa using hlm, ?_⟩⟩
    · by_cases h0 : len = 0
      · left; subst h0; rfl
      · right
        obtain ⟨cs0, hc0, hn0, -⟩ := hf 0 (by omega)
        have ha := hc0 0 hn
        rw [List.getElem?_eq_getElem (by omega)] at ha
        simp [Addr.add] at ha
        obtain ⟨b, off, sp⟩ := a
        have hsp : sp = none := by
          cases sp with
          | none => rfl
          | some z => simp [World.cell?] at ha; split at ha <;> simp_all
        subst hsp
        refine ⟨b, off, rfl, World.block_lt_of_cell? w _ ha, fun k hk => ?_⟩
        have hkl : k < len := by simpa using hk
        obtain ⟨cs, hc, hn, hq⟩ := hf k hkl
        have pl : ∀ n, (⟨b, off, none⟩ : Addr).add n = ⟨b, off + n, none⟩ := fun n => by unfold Addr.add; split <;> simp_all
        refine ⟨cs, fun j hj => ?_, by simpa using hq⟩
        have := hc j hj
        rw [pl] at this
        rw [Nat.add_assoc]
        exact this
    · subst hx
      simp only [DataW.weights, ht, List.length_map, List.length_range]
      have : len + (m - len) = m := by omega
      rw [this]
      exact List.mem_cons_self
end
end Go.Proofs.YtmapdpcfanecdaaDoor

namespace Go.Proofs.YtmapdpcfanecdaaDoor
set_option linter.unusedVariables false
set_option linter.unusedSimpArgs false
open Go.RowKit Go.ChangeShapes Go.WideShapes Go.Joins Go.Deep

theorem cellsR_int : Tryd.prog.cellsOf 3 = 1 := by kernel_rfl
section
variable {H : Type} {enc : TypeId × Value → H} {w : World} {base : Nat} {spare : Nat → Bool} {held : Bool}

theorem read_intsR {fuel : Nat} {v : Value} {x : DataW H × List MemPlace} (h : DataW.trod enc Tryd.prog w base spare held fuel 28 [v] = some x) :
    ∃ (s : Option Addr) (cap : Nat) (c : List Int), v = .slice s c.length cap ∧ c.length ≤ cap ∧ cap ≤ maxLen ∧ IntsAt w s c := by
  obtain ⟨s, cap, l, rfl, h1, h2, h3, -⟩ := read_list (n := 1) (by omega) Tryd.underlying28 cellsR_int (fun (q : Int) cs => cs = [.int .i64 q]) ⟨0⟩ (fun fuel cs x h => by
    obtain ⟨q, e, _, _⟩ := DataW.trod_int Tryd.underlying3 h
    exact ⟨q, e⟩) h
  refine ⟨s, cap, l, rfl, h1, h2, ?_⟩
  rcases h3 with h3 | ⟨b, off, rfl, hb, hc⟩
  · exact .inl h3
  · refine .inr ⟨b, off, rfl, hb, fun k hk => ?_⟩
    obtain ⟨cs, hc1, rfl⟩ := hc k hk
    simpa using hc1 0 (by omega)

set_option maxRecDepth 100000 in
theorem open_ints {r : Reach} {b0 : Nat} {v : Value} {d : DataW H} {p : List MemPlace} (hv : Value.okWide Tryd.prog w r b0 28 v) (h : DataW.Trod enc Tryd.prog w base spare held 28 v d p) :
    ∃ (s : Option Addr) (cap : Nat) (c : List Int), v = .slice s c.length cap ∧ c.length ≤ cap ∧ cap ≤ maxLen ∧ IntsAt w s c := by
  obtain ⟨s, len, cap, rfl⟩ := okWide_slice Tryd.underlying28 hv
  obtain ⟨fuel, hf⟩ := h
  exact read_intsR (by simpa [Value.cells] using hf)

end
end Go.Proofs.YtmapdpcfanecdaaDoor

namespace Go.Proofs.YtmapdpcfanecdaaDoor
set_option linter.unusedVariables false
set_option linter.unusedSimpArgs false
open Go.RowKit

def smallC : List Ins := [⟨1, 0, 0, 0, 5, 0⟩, ⟨18, 0, 0, 0, 0, 0⟩]

set_option maxHeartbeats 1000000 in
set_option maxRecDepth 20000 in
theorem small_any (w : World) :
    Calls Tryd.prog 41 #[] w fun e w' => ∃ b, e = .returned (.agg #[.int .i64 1, .int .i64 0, .slice (some ⟨b, 0, none⟩) 2 2]) ∧ CodeAt w' (some ⟨b, 0, none⟩) smallC ∧ Below w.heap.size w w' := by
  go_enter Tryd.func41, Tryd.ntmps41
  go_wp2
  refine bodyPost_ret (v := .agg #[.int .i64 1, .int .i64 0, .slice (some ⟨w.heap.size + 1, 0, none⟩) 2 2]) (by simp [results, Tryd.results41, go_sem]) rfl ⟨w.heap.size + 1, rfl, .inr ⟨_, _, rfl, by simp, ?_⟩, by go_grown⟩
  intro k hk
  match k, hk with
  | 0, _ => refine ⟨?_, ?_, ?_, ?_, ?_, ?_⟩ <;> simp [go_sem, smallC]
  | 1, _ => refine ⟨?_, ?_, ?_, ?_, ?_, ?_⟩ <;> simp [go_sem, smallC]
  | k + 2, h => simp [smallC] at h; omega
end Go.Proofs.YtmapdpcfanecdaaDoor

namespace Go.Proofs.YtmapdpcfanecdaaDoor
set_option linter.unusedVariables false
set_option linter.unusedSimpArgs false
open Go.RowKit
attribute [local go_sem ↓] Go.wp_at_zero Go.wp_at_succ

set_option maxHeartbeats 8000000 in
set_option maxRecDepth 20000 in
theorem copyRun_any (r : St) (vs : Option Addr) (vc : Nat) (ts : Option Addr) (tc : Nat) (ls : Option Addr) (lc : Nat) (w : World) (hr : RunAt w r vs ts ls) (hv8 : r.vars.length ≤ 100) (hf3 : ∀ t ∈ r.things, t.fs.length ≤ 100) (ht : r.things.length ≤ 100) (hls : r.lines.length * 16 ≤ 140737488355328) :
    Calls Tryd.prog 47 #[runV r vs vc ts tc ls lc] w fun e w' => ∃ vv tv lv fv, e = .returned (.agg #[.int .i64 r.at_, vv, tv, .int .i64 r.taken, lv, .int .i64 r.fin]) ∧ OwnRows w' w.heap.size r vv tv lv fv ∧ Below w.heap.size w w' := by
  unfold runV
  have hb0 : Below w.heap.size w ((w.alloc (.cells #[.int .i64 r.at_, .slice vs r.vars.length vc, .slice ts r.things.length tc, .int .i64 r.taken, .slice ls r.lines.length lc, .int .i64 r.fin] 46)).alloc (.cells #[.int .i64 0, .slice none 0 0, .slice none 0 0, .int .i64 0, .slice none 0 0, .int .i64 0] 46)) := by go_grown
  have Q0 := (R6.new w 46 (.int .i64 r.at_) (.slice vs r.vars.length vc) (.slice ts r.things.length tc) (.int .i64 r.taken) (.slice ls r.lines.length lc) (.int .i64 r.fin)).call (w' := ((w.alloc (.cells #[.int .i64 r.at_, .slice vs r.vars.length vc, .slice ts r.things.length tc, .int .i64 r.taken, .slice ls r.lines.length lc, .int .i64 r.fin] 46)).alloc (.cells #[.int .i64 0, .slice none 0 0, .slice none 0 0, .int .i64 0, .slice none 0 0, .int .i64 0] 46))) (by go_grown)
  have Z0 := R6.new (w.alloc (.cells #[.int .i64 r.at_, .slice vs r.vars.length vc, .slice ts r.things.length tc, .int .i64 r.taken, .slice ls r.lines.length lc, .int .i64 r.fin] 46)) 46 (.int .i64 0) (.slice none 0 0) (.slice none 0 0) (.int .i64 0) (.slice none 0 0) (.int .i64 0)
  rw [World.size_alloc] at Z0
  obtain ⟨fo, hfo1, hfo2, hfo3⟩ := hr.2.1.list
  have hz2 : ((w.alloc (.cells #[.int .i64 r.at_, .slice vs r.vars.length vc, .slice ts r.things.length tc, .int .i64 r.taken, .slice ls r.lines.length lc, .int .i64 r.fin] 46)).alloc (.cells #[.int .i64 0, .slice none 0 0, .slice none 0 0, .int .i64 0, .slice none 0 0, .int .i64 0] 46)).heap.size = w.heap.size + 1 + 1 := by simp
  have H1 := hideK (clone_vals vs vc r.vars ((w.alloc (.cells #[.int .i64 r.at_, .slice vs r.vars.length vc, .slice ts r.things.length tc, .int .i64 r.taken, .slice ls r.lines.length lc, .int .i64 r.fin] 46)).alloc (.cells #[.int .i64 0, .slice none 0 0, .slice none 0 0, .int .i64 0, .slice none 0 0, .int .i64 0] 46)) (hr.1.below hb0 (Nat.le_refl _)) (by omega))
  have H2 := hideK (fun (wx : World) (hx : Below w.heap.size w wx) => clone_strs ls lc r.lines wx (hr.2.2.below hx (Nat.le_refl _)) hls)
  have H3 := hideK (fun (wx : World) (hx : Below w.heap.size w wx) => clone_thgs ts tc (r.things.map (·.site)) fo wx (by simpa using hfo1) (fun e => by simpa using hr.2.1.nil e) (fun ad e j u hu => by
    obtain ⟨k, h1, h2, hk⟩ := thgCells_get _ _ (by simpa using hfo1) j u hu
    rcases hfo3 with hfo3 | ⟨b, off, es, hbz, hi⟩
    · rw [hfo3] at h1; simp at h1
    · rw [es] at e
      cases e
      have hkl : k < r.things.length := by simpa using h1
      have q := hi k hkl h2
      rcases hk with ⟨rfl, rfl⟩ | ⟨rfl, rfl⟩
      · have e : (⟨b, off, none⟩ : Addr).add (k * 2) = ⟨b, off + k * 2, none⟩ := by unfold Addr.add; split <;> simp_all
        rw [e, hx.cell (by simpa using hbz)]
        simpa using q.1
      · have e : (⟨b, off, none⟩ : Addr).add (k * 2 + 1) = ⟨b, off + k * 2 + 1, none⟩ := by unfold Addr.add; split <;> simp_all [Nat.add_assoc]
        rw [e, hx.cell (by simpa using hbz)]
        exact q.2) (fun v hv => by
    obtain ⟨i, hi, rfl⟩ := List.getElem_of_mem hv
    obtain ⟨f, fc, e, -⟩ := hfo2 i (by omega) hi
    rw [e]
    rfl) (by simp; omega))
  have H4 := hideK (fun (wx : World) (hx : Below w.heap.size w wx) (k : Nat) (hk : k < r.things.length) (f : Option Addr) (fc : Nat) (hf : ValsAt w f r.things[k].fs) => clone_vals f fc r.things[k].fs wx (hf.below hx (Nat.le_refl _)) (by have := hf3 _ (List.getElem_mem hk); omega))
  have HF := hideK hfo2
  clear hr hfo2 hfo3 hf3
  obtain ⟨⟨r0, r1, r2, r3, r4, r5⟩, rz, rf⟩ := id Q0
  have g1 := rf 1
  clear rf
  go_enter Tryd.func47, Tryd.ntmps47
  go_wp2_with (go_at_call 72; fail)
  generalize ((w.alloc (.cells #[.int .i64 r.at_, .slice vs r.vars.length vc, .slice ts r.things.length tc, .int .i64 r.taken, .slice ls r.lines.length lc, .int .i64 r.fin] 46)).alloc (.cells #[.int .i64 0, .slice none 0 0, .slice none 0 0, .int .i64 0, .slice none 0 0, .int .i64 0] 46)) = w2 at *
  refine H1.out.mono ?_
  rintro e w3 ⟨vv, rfl, ov, hb3⟩
  clear H1 r0 r1 r2 r3 r4 r5 rz g1
  obtain ⟨vs1, vc1, rfl, -⟩ := ValRow.at ov
  rw [hz2] at ov
  have QA := (Q0.call hb3).put1 (.slice vs1 r.vars.length vc1)
  have ZA := (Z0.call hb3).far (a := ⟨w.heap.size, 1, none⟩) (by simp) (.slice vs1 r.vars.length vc1)
  have BA : Below w.heap.size w (w3.setCell ⟨w.heap.size, 1, none⟩ (.slice vs1 r.vars.length vc1)) := (hb0.trans (hb3.mono hb0.size)).setCell (by simp) _
  have OA : ValRow (w3.setCell ⟨w.heap.size, 1, none⟩ (.slice vs1 r.vars.length vc1)) (w.heap.size + 1 + 1) (.slice vs1 r.vars.length vc1) r.vars := ownsRow_far ov (ownsRow_ge ov (by simp only; omega)) _
  have q1 := (Q0.call hb3).1.2.1
  have g1 := (Q0.call hb3).2.2 1
  have q4 := (Q0.call hb3).1.2.2.2.2.1
  have zA : w.heap.size + 1 + 1 ≤ (w3.setCell ⟨w.heap.size, 1, none⟩ (.slice vs1 r.vars.length vc1)).heap.size := by have := hb3.size; simp [World.setCell]; omega
  clear Q0 Z0 ov hb3
  go_wp2_with (go_at_call 73; fail)
  generalize w3.setCell ⟨w.heap.size, 1, none⟩ (.slice vs1 r.vars.length vc1) = w4 at *
  refine (H2.out w4 BA).mono ?_
  rintro e w5 ⟨lv, rfl, ol, hb5⟩
  clear H2 q1 g1 q4
  obtain ⟨ls1, lc1, rfl, -⟩ := StrRow.at ol
  have q4 := (QA.call hb5).1.2.2.2.2.1
  have g4 := (QA.call hb5).2.2 4
  have q2 := (QA.call hb5).1.2.2.1
  have QB := (QA.call hb5).put4 (.slice ls1 r.lines.length lc1)
  have ZB := (ZA.call hb5).far (a := ⟨w.heap.size, 4, none⟩) (by simp) (.slice ls1 r.lines.length lc1)
  have BB : Below w.heap.size w (w5.setCell ⟨w.heap.size, 4, none⟩ (.slice ls1 r.lines.length lc1)) := (BA.trans (hb5.mono BA.size)).setCell (by simp) _
  have OB := ownsRow_far (a := ⟨w.heap.size, 4, none⟩) (ownsRow_call OA hb5) (ownsRow_ge OA (by simp only; omega)) (.slice ls1 r.lines.length lc1)
  have LB := ownsRow_far (a := ⟨w.heap.size, 4, none⟩) ol (ownsRow_ge ol (by simp only; omega)) (.slice ls1 r.lines.length lc1)
  have apB : ∀ x, (Value.slice vs1 r.vars.length vc1).ownBlock = some x → (Value.slice ls1 r.lines.length lc1).ownBlock ≠ some x := fun x hx => ownsRow_ge ol (ownsRow_block_lt OA hx).1
  have zB : w.heap.size + 1 + 1 ≤ (w5.setCell ⟨w.heap.size, 4, none⟩ (.slice ls1 r.lines.length lc1)).heap.size := by have := hb5.size; simp [World.setCell]; omega
  have LB' := ownsRow_down LB zA
  clear QA ZA BA OA ol hb5 LB
  go_wp2_with (go_at_call 74; fail)
  generalize w5.setCell ⟨w.heap.size, 4, none⟩ (.slice ls1 r.lines.length lc1) = w6 at *
  have H3' := H3.out w6 BB
  simp only [List.length_map] at H3'
  refine H3'.mono ?_
  rintro e w7 ⟨tv, rfl, ot, hb7⟩
  clear H3 H3' q4 g4 q2
  have etv : ∃ ts1 tc1, tv = .slice ts1 r.things.length tc1 := by
    rcases ot.2 with ⟨hv, hn⟩ | ⟨g, cap, cur, hv, _⟩
    · exact ⟨none, 0, by rw [hv, hn]⟩
    · exact ⟨_, _, hv⟩
  obtain ⟨ts1, tc1, rfl⟩ := etv
  have q2 := (QB.call hb7).1.2.2.1
  have g2 := (QB.call hb7).2.2 2
  have IV : CpInv w (w7.setCell ⟨w.heap.size, 2, none⟩ (.slice ts1 r.things.length tc1)) r fo [] (.slice vs1 r.vars.length vc1) (.slice ts1 r.things.length tc1) (.slice ls1 r.lines.length lc1) := by
    refine ⟨(BB.trans (hb7.mono BB.size)).setCell (by simp) _, (QB.call hb7).put2 _, (ZB.call hb7).far (by simp) _, ownsRow_far (ownsRow_call OB hb7) (ownsRow_ge OB (by simp only; omega)) _, ownsRow_far (ownsRow_call LB' hb7) (ownsRow_ge LB' (by simp only; omega)) _, ?_, Nat.zero_le _, hfo1, fun j hj => by simp at hj, ?_⟩
    · simp only [List.nil_append, List.length_nil, List.drop_zero]
      exact ownsRow_far (ownsRow_down ot zB) (ownsRow_ge ot (by simp only; omega)) _
    · have n1 : ∀ x, (Value.slice vs1 r.vars.length vc1).ownBlock = some x → (Value.slice ts1 r.things.length tc1).ownBlock ≠ some x := fun x hx => ownsRow_ge ot (ownsRow_block_lt OB hx).1
      have n2 : ∀ x, (Value.slice ls1 r.lines.length lc1).ownBlock = some x → (Value.slice ts1 r.things.length tc1).ownBlock ≠ some x := fun x hx => ownsRow_ge ot (ownsRow_block_lt LB' hx).1
      refine List.pairwise_cons.2 ⟨fun b hb x hx e => ?_, List.pairwise_cons.2 ⟨fun b hb x hx e => ?_, List.pairwise_cons.2 ⟨fun b hb => (by cases hb), List.Pairwise.nil⟩⟩⟩
      · rcases List.mem_cons.1 hb with rfl | hb
        · exact n1 x hx e
        · rcases List.mem_cons.1 hb with rfl | hb
          · exact apB x hx e
          · cases hb
      · rcases List.mem_cons.1 hb with rfl | hb
        · exact n2 x e hx
        · cases hb
  have HIV := hideK IV
  clear QB ZB BB OB LB' apB ot hb7 IV zA zB
  go_upto_region 4 with fail
  generalize w7.setCell ⟨w.heap.size, 2, none⟩ (.slice ts1 r.things.length tc1) = w8 at *
  obtain ⟨⟨-, -, p2, -, -, -⟩, -, -⟩ := HIV.out.run
  clear q2 g2
  have hlen : (r.things.length : Int) ≤ 9223372036854775807 := by omega
  go_wp2
  go_loopw [19] (fun i wr => ∃ fn : List Value, fn.length ≤ r.things.length ∧ i = .int .i64 fn.length ∧ CpInv w wr r fo fn (.slice vs1 r.vars.length vc1) (.slice ts1 r.things.length tc1) (.slice ls1 r.lines.length lc1)) (fun i _ => r.things.length - (intOf i).toNat)
  case atStart => exact ⟨[], Nat.zero_le _, rfl, HIV.out⟩
  case round =>
    obtain ⟨fn, hle, rfl, hI⟩ := hrel
    by_cases hlt : fn.length < r.things.length
    · obtain ⟨gt, cg, egt, hgB, hgz⟩ := hI.things.form (by omega)
      cases egt
      have n0 : (0 : Int) ≤ (fn.length : Int) := by omega
      have n1 : (fn.length : Int) < (r.things.length : Int) := by omega
      obtain ⟨f, fc, efo, hff⟩ := HF.out fn.length hlt (by omega)
      have ct : wr.cell? ⟨gt, fn.length * 2 + 1, none⟩ = some (.slice f r.things[fn.length].fs.length fc) := by
        rw [hI.things.cellAt (fn.length * 2 + 1) (by omega)]
        have hfl : (fn ++ fo.drop fn.length).length = (r.things.map (·.site)).length := by have := hI.old; simp; omega
        rw [thgCells_field _ _ hfl fn.length (by rw [hfl]; simpa using hlt), ← efo]
        congr 1
        rw [List.getElem_append_right (Nat.le_refl _)]
        simp
      have fz := hI.things.frozenAt (fn.length * 2 + 1)
      have cr := hI.run.1.2.2.1
      have hrz := hI.run.2.1
      have hne : w.heap.size ≠ gt := by omega
      have KZ : ∀ wx, Below wr.heap.size wr wx → wx.cell? ⟨w.heap.size, 2, none⟩ = some (.slice (some ⟨gt, 0, none⟩) r.things.length tc1) ∧ wx.cell? ⟨gt, fn.length * 2 + 1, none⟩ = some (.slice f r.things[fn.length].fs.length fc) := fun wx hx => ⟨by rw [hx.cell (by simpa using hrz)]; exact cr, by rw [hx.cell (by simpa using hgz)]; exact ct⟩
      have HC := hideK (H4.out wr.drew hI.low.drew fn.length hlt f fc hff)
      have HN := hideK (fun (w1 : World) (v' : Value) (hb : Below wr.heap.size wr w1) (hv : ValRow w1 wr.heap.size v' r.things[fn.length].fs) => hI.step hlt hb hv)
      clear hI hff efo
      generalize hkk : fn.length = k at *
      go_wp2
      refine wp_region_z (S := (fun wx => wx.cell? ⟨w.heap.size, 2, none⟩ = some (.slice (some ⟨gt, 0, none⟩) r.things.length tc1) ∧ wx.cell? ⟨gt, k * 2 + 1, none⟩ = some (.slice f r.things[k].fs.length fc))) [12] (by kernel_rfl) (KZ _ (Below.refl _ _).drew) (fun hHeld => ?_)
      refine tkZ 0 ?_ ?_ ?_
      rotate_left
      · exact rn
      (try simp only [Act.put, List.getElem_toArray, List.getElem_cons_zero, List.getElem_cons_succ, List.setIfInBounds_toArray, List.set_cons_zero, List.set_cons_succ])
      refine tkZ 1 ?_ ?_ ?_
      rotate_left
      · exact rn
      (try simp only [Act.put, List.getElem_toArray, List.getElem_cons_zero, List.getElem_cons_succ, List.setIfInBounds_toArray, List.set_cons_zero, List.set_cons_succ])
      refine tkZ 2 ?_ ?_ ?_
      rotate_left
      · exact rn
      (try simp only [Act.put, List.getElem_toArray, List.getElem_cons_zero, List.getElem_cons_succ, List.setIfInBounds_toArray, List.set_cons_zero, List.set_cons_succ])
      refine tkZ 3 ?_ ?_ ?_
      rotate_left
      · exact rn
      (try simp only [Act.put, List.getElem_toArray, List.getElem_cons_zero, List.getElem_cons_succ, List.setIfInBounds_toArray, List.set_cons_zero, List.set_cons_succ])
      refine tkZ 4 ?_ ?_ ?_
      rotate_left
      · exact rn
      (try simp only [Act.put, List.getElem_toArray, List.getElem_cons_zero, List.getElem_cons_succ, List.setIfInBounds_toArray, List.set_cons_zero, List.set_cons_succ])
      refine tkZ 5 ?_ ?_ ?_
      rotate_left
      · exact rn
      (try simp only [Act.put, List.getElem_toArray, List.getElem_cons_zero, List.getElem_cons_succ, List.setIfInBounds_toArray, List.set_cons_zero, List.set_cons_succ])
      refine tkZ 6 ?_ ?_ ?_
      rotate_left
      · exact rn
      (try simp only [Act.put, List.getElem_toArray, List.getElem_cons_zero, List.getElem_cons_succ, List.setIfInBounds_toArray, List.set_cons_zero, List.set_cons_succ])
      refine tkZ 7 ?_ ?_ ?_
      rotate_left
      · exact rn
      (try simp only [Act.put, List.getElem_toArray, List.getElem_cons_zero, List.getElem_cons_succ, List.setIfInBounds_toArray, List.set_cons_zero, List.set_cons_succ])
      refine tkZ 8 ?_ ?_ ?_
      rotate_left
      · exact rn
      (try simp only [Act.put, List.getElem_toArray, List.getElem_cons_zero, List.getElem_cons_succ, List.setIfInBounds_toArray, List.set_cons_zero, List.set_cons_succ])
      refine wpAnyZ_one (i := 9) rfl (by kernel_rfl) (fun K hK => ?_)
      go_simp
      go_at_call 72
      refine HC.out.mono ?_
      rintro e w9 ⟨v', rfl, ov, hb9⟩
      have HB9 : Below wr.heap.size wr w9 := Below.trans (Below.refl _ _).drew hb9
      have evv : ∃ a b, v' = .slice a r.things[k].fs.length b := by
        obtain ⟨a, b, e, -⟩ := ValRow.at (w := w9) (B := wr.heap.size) ov
        exact ⟨a, b, e⟩
      obtain ⟨va, vb, rfl⟩ := evv
      go_wp2_with fail
      refine hK.out _ _ (KZ _ HB9) (fun hHeld => ?_)
      clear hK K HC
      (try simp only [Act.put, List.getElem_toArray, List.getElem_cons_zero, List.getElem_cons_succ, List.setIfInBounds_toArray, List.set_cons_zero, List.set_cons_succ])
      refine tkZ 10 ?_ ?_ ?_
      rotate_left
      · exact rn
      (try simp only [Act.put, List.getElem_toArray, List.getElem_cons_zero, List.getElem_cons_succ, List.setIfInBounds_toArray, List.set_cons_zero, List.set_cons_succ])
      refine tkZ 11 ?_ ?_ ?_
      rotate_left
      · exact rn
      (try simp only [Act.put, List.getElem_toArray, List.getElem_cons_zero, List.getElem_cons_succ, List.setIfInBounds_toArray, List.set_cons_zero, List.set_cons_succ])
      refine wpAnyZ_last (i := 12) rfl (by kernel_rfl) (by kernel_rfl) (fun K hK => ?_)
      have c9 : w9.cell? ⟨gt, k * 2 + 1, none⟩ = some (.slice f r.things[k].fs.length fc) := (KZ _ HB9).2
      have d9 : w9.frozen? ⟨gt, k * 2 + 1, none⟩ = false := by rw [HB9.frozen (by simpa using hgz)]; exact fz
      go_simp
      refine hK.out _ _ ?_
      clear hK K
      (try simp only [Act.put, List.getElem_toArray, List.getElem_cons_zero, List.getElem_cons_succ, List.setIfInBounds_toArray, List.set_cons_zero, List.set_cons_succ])
      refine wpAnyZ_done (by kernel_rfl) ?_ _
      have HI9 := hideK (HN.out w9 _ HB9 ov)
      clear HN
      go_wp2
      go_roundw
      case rel => exact ⟨fn ++ [.slice va r.things[k].fs.length vb], by simp; omega, by simp [hkk], HI9.out⟩
      case measure => simp [intOf]; omega
    · have hn : fn.length = r.things.length := by omega
      have OR := hI.rows hn
      have HL := hI.low
      obtain ⟨⟨r0, r1, r2, r3, r4, r5⟩, rz, rf⟩ := id hI.run
      obtain ⟨⟨z0, z1, z2, z3, z4, z5⟩, zz, zf⟩ := id hI.res
      have g0 := zf 0
      have g1 := zf 1
      have g2 := zf 2
      have g3 := zf 3
      have g4 := zf 4
      have g5 := zf 5
      have HY := hideK (And.intro ((OR.set6 (b := w.heap.size + 1) (by omega) (.int .i64 r.at_) (.slice vs1 r.vars.length vc1) (.slice ts1 r.things.length tc1) (.int .i64 r.taken) (.slice ls1 r.lines.length lc1) (.int .i64 r.fin)).down (show w.heap.size ≤ w.heap.size + 1 + 1 by omega)) (below_set6 HL (show w.heap.size ≤ w.heap.size + 1 by omega) (.int .i64 r.at_) (.slice vs1 r.vars.length vc1) (.slice ts1 r.things.length tc1) (.int .i64 r.taken) (.slice ls1 r.lines.length lc1) (.int .i64 r.fin)))
      clear hI OR HL rf zf HF H4 HIV
      go_wp2
      refine bodyPost_ret (v := .agg #[.int .i64 r.at_, .slice vs1 r.vars.length vc1, .slice ts1 r.things.length tc1, .int .i64 r.taken, .slice ls1 r.lines.length lc1, .int .i64 r.fin]) (by simp [results, Tryd.results47, go_sem, z0, z1, z2, z3, z4, z5]) rfl ?_
      exact ⟨_, _, _, fn, rfl, HY.out.1, HY.out.2⟩
end Go.Proofs.YtmapdpcfanecdaaDoor

namespace Go.Proofs.YtmapdpcfanecdaaDoor
set_option linter.unusedVariables false
set_option linter.unusedSimpArgs false
open Go.RowKit

def setL (w : World) (b : Nat) : Nat → List Value → World
  | _, [] => w
  | i, y :: ys => setL (w.setCell ⟨b, i, none⟩ y) b (i + 1) ys
theorem setL_far (b k : Nat) (hk : k ≠ b) : ∀ (ys : List Value) (i : Nat) (w : World), (setL w b i ys).heap[k]? = w.heap[k]?
  | [], _, _ => rfl
  | y :: ys, i, w => by
    show (setL (w.setCell ⟨b, i, none⟩ y) b (i + 1) ys).heap[k]? = _
    rw [setL_far b k hk ys (i + 1) _, Below.heap_setCell _ _ _ _ hk]
theorem setL_frozen (b j : Nat) : ∀ (ys : List Value) (i : Nat) (w : World), (setL w b i ys).frozen? ⟨b, j, none⟩ = w.frozen? ⟨b, j, none⟩
  | [], _, _ => rfl
  | y :: ys, i, w => by
    show (setL (w.setCell ⟨b, i, none⟩ y) b (i + 1) ys).frozen? _ = _
    rw [setL_frozen b j ys (i + 1) _, World.frozen?_setCell]
theorem setL_below {B : Nat} {a : World} (b : Nat) (hB : B ≤ b) : ∀ (ys : List Value) (i : Nat) (w : World), Below B a w → Below B a (setL w b i ys)
  | [], _, _, h => h
  | y :: ys, i, w, h => setL_below b hB ys (i + 1) _ (h.setCell (p := ⟨b, i, none⟩) hB y)
theorem setL_old (b j : Nat) : ∀ (ys : List Value) (i : Nat) (w : World), j < i → (setL w b i ys).cell? ⟨b, j, none⟩ = w.cell? ⟨b, j, none⟩
  | [], _, _, _ => rfl
  | y :: ys, i, w, h => by
    show (setL (w.setCell ⟨b, i, none⟩ y) b (i + 1) ys).cell? _ = _
    rw [setL_old b j ys (i + 1) _ (by omega), cell_off (by omega)]
theorem setL_cell (b : Nat) : ∀ (ys : List Value) (i : Nat) (w : World) (_ : ∀ j, j < i + ys.length → (w.cell? ⟨b, j, none⟩).isSome = true) (j : Nat) (hj : j < ys.length), (setL w b i ys).cell? ⟨b, i + j, none⟩ = some ys[j]
  | [], _, _, _, _, hj => by simp at hj
  | y :: ys, i, w, h, j, hj => by
    show (setL (w.setCell ⟨b, i, none⟩ y) b (i + 1) ys).cell? _ = _
    have hs : ∀ j, j < i + 1 + ys.length → ((w.setCell ⟨b, i, none⟩ y).cell? ⟨b, j, none⟩).isSome = true := fun j hj => by
      have hw := h j (by simp; omega)
      by_cases e : i = j
      · subst e
        obtain ⟨u, hu⟩ := Option.isSome_iff_exists.1 hw
        rw [cell_on hu]
        rfl
      · rw [cell_off e]
        exact hw
    cases j with
    | zero =>
      show (setL (w.setCell ⟨b, i, none⟩ y) b (i + 1) ys).cell? ⟨b, i, none⟩ = _
      rw [setL_old b i ys (i + 1) _ (by omega)]
      obtain ⟨u, hu⟩ := Option.isSome_iff_exists.1 (h i (by simp))
      rw [cell_on hu]
      rfl
    | succ j =>
      have := setL_cell b ys (i + 1) (w.setCell ⟨b, i, none⟩ y) hs j (by simpa using hj)
      rw [show i + 1 + j = i + (j + 1) by omega] at this
      exact this
end Go.Proofs.YtmapdpcfanecdaaDoor
