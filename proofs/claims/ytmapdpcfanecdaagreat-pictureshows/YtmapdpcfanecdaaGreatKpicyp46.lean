/- Walks over package run: what the machine does, kind by kind. -/
import Derived.Test.YtmapdpcfanecdaaGreatKpicyp45
import Derived.Laws.EntriesVeiled
import Derived.Test.YtmapdpcfanecdaaGreatKpicyp19
namespace Go.Proofs.YtmapdpcfanecdaaGreat
set_option linter.unusedVariables false
set_option linter.unusedSimpArgs false
open Go.RowKit
attribute [local go_sem ↓] Go.wp_at_zero Go.wp_at_succ

set_option maxHeartbeats 4000000 in
set_option maxRecDepth 20000 in
theorem checkThings_any (V F : Int) (s : Option Addr) (c : List Ins) (cap : Nat) (r : St) (vs : Option Addr) (vc : Nat) (ts : Option Addr) (tc : Nat) (ls : Option Addr) (lc : Nat) (w : World) (hc : CodeAt w s c) (hl60 : c.length ≤ 60) (hl : LenSt r) (hr : RunAt w r vs ts ls) :
    Calls Tryz.prog 119 #[.agg #[.int .i64 V, .int .i64 F, .slice s c.length cap], runV r vs vc ts tc ls lc] w fun e w' => e = .returned (.int .i64 (ckThings F c r)) ∧ Below w.heap.size w w' := by
  unfold runV
  obtain ⟨hl1, hl2, hl3, hl4⟩ := hl
  have hm : maxLen ≤ 9223372036854775807 := by decide
  have hmf : ∀ (fn : Fn) (first cp : Array Value) (w : World), (Instr.makeFunc fn first cp).run Tryz.prog w = .ok (.func fn first cp) w := fun _ _ _ _ => rfl
  have hb0 : Below w.heap.size w ((w.alloc (.cells #[.int .i64 V, .int .i64 F, .slice s c.length cap] 24)).alloc (.cells #[.int .i64 r.at_, .slice vs r.vars.length vc, .slice ts r.things.length tc, .int .i64 r.taken, .slice ls r.lines.length lc, .int .i64 r.fin] 76)) := by go_grown
  have P0 := (P3.new w V F s c.length cap).call (w' := ((w.alloc (.cells #[.int .i64 V, .int .i64 F, .slice s c.length cap] 24)).alloc (.cells #[.int .i64 r.at_, .slice vs r.vars.length vc, .slice ts r.things.length tc, .int .i64 r.taken, .slice ls r.lines.length lc, .int .i64 r.fin] 76))) (by go_grown)
  have Q0 := R6.new (w.alloc (.cells #[.int .i64 V, .int .i64 F, .slice s c.length cap] 24)) 76 (.int .i64 r.at_) (.slice vs r.vars.length vc) (.slice ts r.things.length tc) (.int .i64 r.taken) (.slice ls r.lines.length lc) (.int .i64 r.fin)
  rw [World.size_alloc] at Q0
  have C0 := hc.below hb0 (Nat.le_refl _)
  have A0 := hr.below hb0 (Nat.le_refl _)
  have hz0 : ((w.alloc (.cells #[.int .i64 V, .int .i64 F, .slice s c.length cap] 24)).alloc (.cells #[.int .i64 r.at_, .slice vs r.vars.length vc, .slice ts r.things.length tc, .int .i64 r.taken, .slice ls r.lines.length lc, .int .i64 r.fin] 76)).heap.size = w.heap.size + 1 + 1 := by simp
  have HR : Hid (ckThings F c r = bif (r.things.any fun t => !isNew c t.site) then 5 else bif (r.things.any fun t => !decide ((t.fs.length : Int) = F)) then 1 else bif ((r.vars.any fun v => !okValB r.things.length v) || (r.things.any fun t => t.fs.any fun v => !okValB r.things.length v)) then 4 else 0) := by
    show _ = _
    rw [any_not_allG, any_not_allG, any_not_allG, any_any_all]
    unfold ckThings
    cases r.things.all (fun t => isNew c t.site) <;> cases r.things.all (fun t => decide ((t.fs.length : Int) = F)) <;> cases r.vars.all (okValB r.things.length) <;> cases r.things.all (fun t => t.fs.all (okValB r.things.length)) <;> rfl
  have HB3 : Below ((w.alloc (.cells #[.int .i64 V, .int .i64 F, .slice s c.length cap] 24)).alloc (.cells #[.int .i64 r.at_, .slice vs r.vars.length vc, .slice ts r.things.length tc, .int .i64 r.taken, .slice ls r.lines.length lc, .int .i64 r.fin] 76)).heap.size ((w.alloc (.cells #[.int .i64 V, .int .i64 F, .slice s c.length cap] 24)).alloc (.cells #[.int .i64 r.at_, .slice vs r.vars.length vc, .slice ts r.things.length tc, .int .i64 r.taken, .slice ls r.lines.length lc, .int .i64 r.fin] 76)) (((w.alloc (.cells #[.int .i64 V, .int .i64 F, .slice s c.length cap] 24)).alloc (.cells #[.int .i64 r.at_, .slice vs r.vars.length vc, .slice ts r.things.length tc, .int .i64 r.taken, .slice ls r.lines.length lc, .int .i64 r.fin] 76)).alloc (.cells #[(.func (.func 141) #[] #[.pointer (some ⟨w.heap.size + 1, 0, none⟩)])] 161)) := by go_grown
  have b3 : Below w.heap.size w (((w.alloc (.cells #[.int .i64 V, .int .i64 F, .slice s c.length cap] 24)).alloc (.cells #[.int .i64 r.at_, .slice vs r.vars.length vc, .slice ts r.things.length tc, .int .i64 r.taken, .slice ls r.lines.length lc, .int .i64 r.fin] 76)).alloc (.cells #[(.func (.func 141) #[] #[.pointer (some ⟨w.heap.size + 1, 0, none⟩)])] 161)) := hb0.alloc hb0.size _
  have F3 : (((w.alloc (.cells #[.int .i64 V, .int .i64 F, .slice s c.length cap] 24)).alloc (.cells #[.int .i64 r.at_, .slice vs r.vars.length vc, .slice ts r.things.length tc, .int .i64 r.taken, .slice ls r.lines.length lc, .int .i64 r.fin] 76)).alloc (.cells #[(.func (.func 141) #[] #[.pointer (some ⟨w.heap.size + 1, 0, none⟩)])] 161)).cell? ⟨w.heap.size + 1 + 1, 0, none⟩ = some (.func (.func 141) #[] #[.pointer (some ⟨w.heap.size + 1, 0, none⟩)]) := by rw [← hz0]; simp [go_sem]
  have hz3 : w.heap.size + 1 + 1 < (((w.alloc (.cells #[.int .i64 V, .int .i64 F, .slice s c.length cap] 24)).alloc (.cells #[.int .i64 r.at_, .slice vs r.vars.length vc, .slice ts r.things.length tc, .int .i64 r.taken, .slice ls r.lines.length lc, .int .i64 r.fin] 76)).alloc (.cells #[(.func (.func 141) #[] #[.pointer (some ⟨w.heap.size + 1, 0, none⟩)])] 161)).heap.size := by simp
  have P3' := P0.call HB3
  have Q3 := Q0.call HB3
  have C3 := C0.below HB3 (Nat.le_refl _)
  have A3 := A0.below HB3 (Nat.le_refl _)
  have H1 := hideK (fun (wx : World) (hx : Below (((w.alloc (.cells #[.int .i64 V, .int .i64 F, .slice s c.length cap] 24)).alloc (.cells #[.int .i64 r.at_, .slice vs r.vars.length vc, .slice ts r.things.length tc, .int .i64 r.taken, .slice ls r.lines.length lc, .int .i64 r.fin] 76)).alloc (.cells #[(.func (.func 141) #[] #[.pointer (some ⟨w.heap.size + 1, 0, none⟩)])] 161)).heap.size (((w.alloc (.cells #[.int .i64 V, .int .i64 F, .slice s c.length cap] 24)).alloc (.cells #[.int .i64 r.at_, .slice vs r.vars.length vc, .slice ts r.things.length tc, .int .i64 r.taken, .slice ls r.lines.length lc, .int .i64 r.fin] 76)).alloc (.cells #[(.func (.func 141) #[] #[.pointer (some ⟨w.heap.size + 1, 0, none⟩)])] 161)) wx) => containsFunc_homeless w.heap.size (fun t => !isNew c t.site) ts tc r.things wx (by omega) (A3.below hx (Nat.le_refl _)).2.1 (fun x f fc wy _ hy _ => homelessR_any x f fc w.heap.size V F s c cap wy ((P3'.call hx).call hy) ((C3.below hx (Nat.le_refl _)).below hy (Nat.le_refl _)) hl60))
  have H2 := hideK (fun (wx : World) (hx : Below (((w.alloc (.cells #[.int .i64 V, .int .i64 F, .slice s c.length cap] 24)).alloc (.cells #[.int .i64 r.at_, .slice vs r.vars.length vc, .slice ts r.things.length tc, .int .i64 r.taken, .slice ls r.lines.length lc, .int .i64 r.fin] 76)).alloc (.cells #[(.func (.func 141) #[] #[.pointer (some ⟨w.heap.size + 1, 0, none⟩)])] 161)).heap.size (((w.alloc (.cells #[.int .i64 V, .int .i64 F, .slice s c.length cap] 24)).alloc (.cells #[.int .i64 r.at_, .slice vs r.vars.length vc, .slice ts r.things.length tc, .int .i64 r.taken, .slice ls r.lines.length lc, .int .i64 r.fin] 76)).alloc (.cells #[(.func (.func 141) #[] #[.pointer (some ⟨w.heap.size + 1, 0, none⟩)])] 161)) wx) => containsFunc_misshapen w.heap.size (fun t => !decide ((t.fs.length : Int) = F)) ts tc r.things wx (by omega) (A3.below hx (Nat.le_refl _)).2.1 (fun x f fc wy _ hy _ => misshapen_any x f fc w.heap.size V F s c.length cap wy ((P3'.call hx).call hy)))
  have H3 := hideK (fun (wx : World) (hx : Below (((w.alloc (.cells #[.int .i64 V, .int .i64 F, .slice s c.length cap] 24)).alloc (.cells #[.int .i64 r.at_, .slice vs r.vars.length vc, .slice ts r.things.length tc, .int .i64 r.taken, .slice ls r.lines.length lc, .int .i64 r.fin] 76)).alloc (.cells #[(.func (.func 141) #[] #[.pointer (some ⟨w.heap.size + 1, 0, none⟩)])] 161)).heap.size (((w.alloc (.cells #[.int .i64 V, .int .i64 F, .slice s c.length cap] 24)).alloc (.cells #[.int .i64 r.at_, .slice vs r.vars.length vc, .slice ts r.things.length tc, .int .i64 r.taken, .slice ls r.lines.length lc, .int .i64 r.fin] 76)).alloc (.cells #[(.func (.func 141) #[] #[.pointer (some ⟨w.heap.size + 1, 0, none⟩)])] 161)) wx) => containsFunc_bad (w.heap.size + 1) (fun v => !okValB r.things.length v) vs vc r.vars wx (by omega) (A3.below hx (Nat.le_refl _)).1 (fun x wy hy => bad_any x (w.heap.size + 1) r.things.length _ _ _ _ _ ts tc wy ((Q3.call hx).call hy)))
  have H4 := hideK (fun (wx : World) (hx : Below (((w.alloc (.cells #[.int .i64 V, .int .i64 F, .slice s c.length cap] 24)).alloc (.cells #[.int .i64 r.at_, .slice vs r.vars.length vc, .slice ts r.things.length tc, .int .i64 r.taken, .slice ls r.lines.length lc, .int .i64 r.fin] 76)).alloc (.cells #[(.func (.func 141) #[] #[.pointer (some ⟨w.heap.size + 1, 0, none⟩)])] 161)).heap.size (((w.alloc (.cells #[.int .i64 V, .int .i64 F, .slice s c.length cap] 24)).alloc (.cells #[.int .i64 r.at_, .slice vs r.vars.length vc, .slice ts r.things.length tc, .int .i64 r.taken, .slice ls r.lines.length lc, .int .i64 r.fin] 76)).alloc (.cells #[(.func (.func 141) #[] #[.pointer (some ⟨w.heap.size + 1, 0, none⟩)])] 161)) wx) => containsFunc_holdsBad (w.heap.size + 1 + 1) (fun t => t.fs.any fun v => !okValB r.things.length v) ts tc r.things wx (by omega) (A3.below hx (Nat.le_refl _)).2.1 (fun x f fc wy hmem hy hv => holdsBad_any x f fc (w.heap.size + 1 + 1) (w.heap.size + 1) r.things.length _ _ _ _ _ ts tc wy hv (by have := hl4 x hmem; omega) (by rw [hy.cell (by have := hx.size; simp only; omega), hx.cell (by simp)]; exact F3) (by have := hy.size; have := hx.size; omega) ((Q3.call hx).call hy)))
  have HQ := hideK (fun (wx : World) (hx : Below (((w.alloc (.cells #[.int .i64 V, .int .i64 F, .slice s c.length cap] 24)).alloc (.cells #[.int .i64 r.at_, .slice vs r.vars.length vc, .slice ts r.things.length tc, .int .i64 r.taken, .slice ls r.lines.length lc, .int .i64 r.fin] 76)).alloc (.cells #[(.func (.func 141) #[] #[.pointer (some ⟨w.heap.size + 1, 0, none⟩)])] 161)).heap.size (((w.alloc (.cells #[.int .i64 V, .int .i64 F, .slice s c.length cap] 24)).alloc (.cells #[.int .i64 r.at_, .slice vs r.vars.length vc, .slice ts r.things.length tc, .int .i64 r.taken, .slice ls r.lines.length lc, .int .i64 r.fin] 76)).alloc (.cells #[(.func (.func 141) #[] #[.pointer (some ⟨w.heap.size + 1, 0, none⟩)])] 161)) wx) => And.intro (Q3.call hx).1.2.1 (And.intro (Q3.call hx).1.2.2.1 (show wx.cell? ⟨w.heap.size + 1 + 1, 0, none⟩ = some (.func (.func 141) #[] #[.pointer (some ⟨w.heap.size + 1, 0, none⟩)]) by rw [hx.cell (by simp)]; exact F3)))
  generalize (r.things.any fun t => !isNew c t.site) = d1 at *
  generalize (r.things.any fun t => !decide ((t.fs.length : Int) = F)) = d2 at *
  generalize (r.vars.any fun v => !okValB r.things.length v) = d3 at *
  generalize (r.things.any fun t => t.fs.any fun v => !okValB r.things.length v) = d4 at *
  clear hb0 P0 Q0 C0 A0 HB3 F3 P3' Q3 C3 A3 hc hr hl1 hl2 hl3 hl4 hz0
  go_enter Tryz.func119, Tryz.ntmps119
  go_wp2_with (go_at_call 145; fail)
  generalize ((w.alloc (.cells #[.int .i64 V, .int .i64 F, .slice s c.length cap] 24)).alloc (.cells #[.int .i64 r.at_, .slice vs r.vars.length vc, .slice ts r.things.length tc, .int .i64 r.taken, .slice ls r.lines.length lc, .int .i64 r.fin] 76)).alloc (.cells #[(.func (.func 141) #[] #[.pointer (some ⟨w.heap.size + 1, 0, none⟩)])] 161) = w3 at *
  refine (H1.out w3 (Below.refl _ _)).mono ?_
  rintro e w4 ⟨rfl, hb4⟩
  clear H1
  have b4 := b3.trans (hb4.mono b3.size)
  cases d1 with
  | true =>
    clear H2 H3 H4 HQ
    go_wp2
    go_ret
    exact ⟨ret_int (by rw [HR.out]; rfl), b4⟩
  | false =>
    obtain ⟨v4, t4, g4⟩ := HQ.out w4 hb4
    go_wp2_with (go_at_call 145; fail)
    refine (H2.out w4 hb4).mono ?_
    rintro e w5 ⟨rfl, hb5⟩
    clear H2 v4 t4 g4
    have c5 := hb4.trans (hb5.mono hb4.size)
    have b5 := b3.trans (c5.mono b3.size)
    cases d2 with
    | true =>
      clear H3 H4 HQ
      go_wp2
      go_ret
      exact ⟨ret_int (by rw [HR.out]; rfl), b5⟩
    | false =>
      obtain ⟨v5, t5, g5⟩ := HQ.out w5 c5
      go_wp2_with (go_at_call 144; fail)
      refine (H3.out w5 c5).mono ?_
      rintro e w6 ⟨rfl, hb6⟩
      clear H3 v5 t5 g5
      have c6 := c5.trans (hb6.mono c5.size)
      have b6 := b3.trans (c6.mono b3.size)
      cases d3 with
      | true =>
        clear H4 HQ
        go_wp2
        go_ret
        exact ⟨ret_int (by rw [HR.out]; rfl), b6⟩
      | false =>
        obtain ⟨v6, t6, g6⟩ := HQ.out w6 c6
        go_wp2_with (go_at_call 145; fail)
        refine (H4.out w6 c6).mono ?_
        rintro e w7 ⟨rfl, hb7⟩
        clear H4 v6 t6 g6 HQ
        have c7 := c6.trans (hb7.mono c6.size)
        have b7 := b3.trans (c7.mono b3.size)
        cases d4 with
        | true =>
          go_wp2
          go_ret
          exact ⟨ret_int (by rw [HR.out]; rfl), b7⟩
        | false =>
          go_wp2
          go_ret
          exact ⟨ret_int (by rw [HR.out]; rfl), b7⟩
end Go.Proofs.YtmapdpcfanecdaaGreat

namespace Go.Proofs.YtmapdpcfanecdaaGreat
set_option linter.unusedVariables false
set_option linter.unusedSimpArgs false
open Go.RowKit
attribute [local go_sem ↓] Go.wp_at_zero Go.wp_at_succ

/-- What is told of a program and a run. -/
def ckBoth (V F : Int) (c : List Ins) (r : St) : Int := if ckProg V F c = 0 then ckRun V F c r else ckProg V F c
theorem ckRun_range {V F : Int} {c : List Ins} {r : St} (h : r.at_ < 0 ∨ (c.length : Int) < r.at_ ∨ r.taken < 0 ∨ r.fin < 0 ∨ 5 < r.fin) : ckRun V F c r = 3 := by
  unfold ckRun
  rw [if_pos (by simp [btw]; omega)]
theorem ckRun_rest {V F : Int} {c : List Ins} {r : St} (h : ¬ (r.at_ < 0 ∨ (c.length : Int) < r.at_ ∨ r.taken < 0 ∨ r.fin < 0 ∨ 5 < r.fin)) : ckRun V F c r = if (r.vars.length : Int) ≠ V then 1 else if 100 < r.things.length then 2 else ckThings F c r := by
  unfold ckRun
  rw [if_neg (by simp [btw]; omega)]
  rfl
set_option maxHeartbeats 4000000 in
set_option maxRecDepth 20000 in
theorem runCheck_any (V F : Int) (s : Option Addr) (c : List Ins) (cap : Nat) (r : St) (vs : Option Addr) (vc : Nat) (ts : Option Addr) (tc : Nat) (ls : Option Addr) (lc : Nat) (w : World) (hc : CodeAt w s c) (hl : LenSt r) (hr : RunAt w r vs ts ls) :
    Calls Tryz.prog 78 #[.agg #[.int .i64 V, .int .i64 F, .slice s c.length cap], runV r vs vc ts tc ls lc] w fun e w' => e = .returned (.int .i64 (ckBoth V F c r)) ∧ Below w.heap.size w w' := by
  have hb0 : Below w.heap.size w ((w.alloc (.cells #[.int .i64 V, .int .i64 F, .slice s c.length cap] 24)).alloc (.cells #[.int .i64 r.at_, .slice vs r.vars.length vc, .slice ts r.things.length tc, .int .i64 r.taken, .slice ls r.lines.length lc, .int .i64 r.fin] 76)) := by go_grown
  have P0 := (P3.new w V F s c.length cap).call (w' := ((w.alloc (.cells #[.int .i64 V, .int .i64 F, .slice s c.length cap] 24)).alloc (.cells #[.int .i64 r.at_, .slice vs r.vars.length vc, .slice ts r.things.length tc, .int .i64 r.taken, .slice ls r.lines.length lc, .int .i64 r.fin] 76))) (by go_grown)
  have Q0 := R6.new (w.alloc (.cells #[.int .i64 V, .int .i64 F, .slice s c.length cap] 24)) 76 (.int .i64 r.at_) (.slice vs r.vars.length vc) (.slice ts r.things.length tc) (.int .i64 r.taken) (.slice ls r.lines.length lc) (.int .i64 r.fin)
  rw [World.size_alloc] at Q0
  have C0 := hc.below hb0 (Nat.le_refl _)
  have A0 := hr.below hb0 (Nat.le_refl _)
  have HC := hideK (codeCheck_any V F s cap c ((w.alloc (.cells #[.int .i64 V, .int .i64 F, .slice s c.length cap] 24)).alloc (.cells #[.int .i64 r.at_, .slice vs r.vars.length vc, .slice ts r.things.length tc, .int .i64 r.taken, .slice ls r.lines.length lc, .int .i64 r.fin] 76)) C0)
  have HT := hideK (fun (wx : World) (hx : Below ((w.alloc (.cells #[.int .i64 V, .int .i64 F, .slice s c.length cap] 24)).alloc (.cells #[.int .i64 r.at_, .slice vs r.vars.length vc, .slice ts r.things.length tc, .int .i64 r.taken, .slice ls r.lines.length lc, .int .i64 r.fin] 76)).heap.size ((w.alloc (.cells #[.int .i64 V, .int .i64 F, .slice s c.length cap] 24)).alloc (.cells #[.int .i64 r.at_, .slice vs r.vars.length vc, .slice ts r.things.length tc, .int .i64 r.taken, .slice ls r.lines.length lc, .int .i64 r.fin] 76)) wx) (h60 : c.length ≤ 60) => checkThings_any V F s c cap r vs vc ts tc ls lc wx (C0.below hx (Nat.le_refl _)) h60 hl (A0.below hx (Nat.le_refl _)))
  have HP := hideK (fun (wx : World) (hx : Below ((w.alloc (.cells #[.int .i64 V, .int .i64 F, .slice s c.length cap] 24)).alloc (.cells #[.int .i64 r.at_, .slice vs r.vars.length vc, .slice ts r.things.length tc, .int .i64 r.taken, .slice ls r.lines.length lc, .int .i64 r.fin] 76)).heap.size ((w.alloc (.cells #[.int .i64 V, .int .i64 F, .slice s c.length cap] 24)).alloc (.cells #[.int .i64 r.at_, .slice vs r.vars.length vc, .slice ts r.things.length tc, .int .i64 r.taken, .slice ls r.lines.length lc, .int .i64 r.fin] 76)) wx) => And.intro (P0.call hx) (Q0.call hx))
  have HK := hideK (@progOk_of V F c)
  have HB : Hid (ckBoth V F c r = if ckProg V F c = 0 then ckRun V F c r else ckProg V F c) := rfl
  have hl2 : r.things.length ≤ 9223372036854775807 := by have := hl.2.1; unfold maxLen at this; omega
  unfold runV at HT ⊢
  generalize ckProg V F c = ck at *
  clear P0 Q0 C0 A0 hc hr hl
  go_enter Tryz.func78, Tryz.ntmps78
  go_wp2_with (go_at_call 66; fail)
  generalize ((w.alloc (.cells #[.int .i64 V, .int .i64 F, .slice s c.length cap] 24)).alloc (.cells #[.int .i64 r.at_, .slice vs r.vars.length vc, .slice ts r.things.length tc, .int .i64 r.taken, .slice ls r.lines.length lc, .int .i64 r.fin] 76)) = w2 at *
  refine HC.out.mono ?_
  rintro e w3 ⟨rfl, hb3⟩
  clear HC
  have b3 := hb0.trans (hb3.mono hb0.size)
  obtain ⟨⟨⟨p0, p1, p2⟩, pz⟩, ⟨r0, r1, r2, r3, r4, r5⟩, rz, rf⟩ := HP.out w3 hb3
  clear HP rf
  by_cases hk : ck = 0
  · subst hk
    have h60 := (HK.out rfl).len
    clear HK
    by_cases a1 : r.at_ < 0
    · have HR : Hid (ckBoth V F c r = 3) := by show _ = _; rw [HB.out, if_pos rfl, ckRun_range (.inl a1)]
      clear HT HB
      go_wp2
      go_ret
      exact ⟨ret_int (by rw [HR.out]), b3⟩
    by_cases a2 : (c.length : Int) < r.at_
    · have HR : Hid (ckBoth V F c r = 3) := by show _ = _; rw [HB.out, if_pos rfl, ckRun_range (.inr (.inl a2))]
      clear HT HB
      go_wp2
      go_ret
      exact ⟨ret_int (by rw [HR.out]), b3⟩
    by_cases a3 : r.taken < 0
    · have HR : Hid (ckBoth V F c r = 3) := by show _ = _; rw [HB.out, if_pos rfl, ckRun_range (.inr (.inr (.inl a3)))]
      clear HT HB
      go_wp2
      go_ret
      exact ⟨ret_int (by rw [HR.out]), b3⟩
    by_cases a4 : r.fin < 0
    · have HR : Hid (ckBoth V F c r = 3) := by show _ = _; rw [HB.out, if_pos rfl, ckRun_range (.inr (.inr (.inr (.inl a4))))]
      clear HT HB
      go_wp2
      go_ret
      exact ⟨ret_int (by rw [HR.out]), b3⟩
    by_cases a5 : 5 < r.fin
    · have HR : Hid (ckBoth V F c r = 3) := by show _ = _; rw [HB.out, if_pos rfl, ckRun_range (.inr (.inr (.inr (.inr a5))))]
      clear HT HB
      go_wp2
      go_ret
      exact ⟨ret_int (by rw [HR.out]), b3⟩
    have HX : Hid (ckBoth V F c r = if (r.vars.length : Int) ≠ V then 1 else if 100 < r.things.length then 2 else ckThings F c r) := by show _ = _; rw [HB.out, if_pos rfl, ckRun_rest (by omega)]
    clear HB
    by_cases a6 : (r.vars.length : Int) = V
    · by_cases a7 : 100 < r.things.length
      · have HR : Hid (ckBoth V F c r = 2) := by show _ = _; rw [HX.out, if_neg (by simpa using a6), if_pos a7]
        have n7 : (100 : Int) < (r.things.length : Int) := by omega
        subst a6
        clear HT HX
        go_wp2
        go_ret
        exact ⟨ret_int (by rw [HR.out]), b3⟩
      · have HR : Hid (ckBoth V F c r = ckThings F c r) := by show _ = _; rw [HX.out, if_neg (by simpa using a6), if_neg a7]
        have n7 : ¬ (100 : Int) < (r.things.length : Int) := by omega
        subst a6
        clear HX
        go_wp2_with (go_at_call 119; fail)
        refine (HT.out w3 hb3 h60).mono ?_
        rintro e w4 ⟨rfl, hb4⟩
        clear HT
        go_wp2
        go_ret
        exact ⟨ret_int (by rw [HR.out]), b3.trans (hb4.mono b3.size)⟩
    · have HR : Hid (ckBoth V F c r = 1) := by show _ = _; rw [HX.out, if_pos a6]
      have n6 : ((r.vars.length : Int) != V) = true := by simpa using a6
      clear HT HX
      go_wp2
      go_ret
      exact ⟨ret_int (by rw [HR.out]), b3⟩
  · have hkb : (ck != 0) = true := by simpa using hk
    have HR : Hid (ckBoth V F c r = ck) := by show _ = _; rw [HB.out, if_neg hk]
    clear HT HK HB
    go_wp2
    go_ret
    exact ⟨ret_int (by rw [HR.out]), b3⟩
end Go.Proofs.YtmapdpcfanecdaaGreat
