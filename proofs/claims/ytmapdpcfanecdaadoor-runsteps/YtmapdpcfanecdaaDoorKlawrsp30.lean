/- Walks over package run: what the machine does, kind by kind. -/
import Derived.Test.YtmapdpcfanecdaaDoorKlawrsp08
import Derived.Test.YtmapdpcfanecdaaDoorKlawrsp29
import Derived.Test.YtmapdpcfanecdaaDoorKlawrsp28
import Derived.Deep.DeepCutAuto
namespace Go.Proofs.YtmapdpcfanecdaaDoor
set_option linter.unusedVariables false
set_option linter.unusedSimpArgs false
open Go.RowKit
attribute [local go_sem ↓] Go.wp_at_zero Go.wp_at_succ

set_option maxHeartbeats 8000000 in
set_option maxRecDepth 20000 in
theorem copyRunR_any (r : St) (vs : Option Addr) (vc : Nat) (ts : Option Addr) (tc : Nat) (ls : Option Addr) (lc : Nat) (w : World) (hr : RunAt w r vs ts ls) (hv8 : r.vars.length ≤ 100) (hf3 : ∀ t ∈ r.things, t.fs.length ≤ 100) (ht : r.things.length ≤ 100) (hls : r.lines.length * 16 ≤ 140737488355328) :
    Calls Tryd.prog 50 #[runV r vs vc ts tc ls lc] w fun e w' => ∃ vv tv lv fv, e = .returned (.agg #[.int .i64 r.at_, vv, tv, .int .i64 r.taken, lv, .int .i64 r.fin]) ∧ OwnRows w' w.heap.size r vv tv lv fv ∧ Below w.heap.size w w' := by
  unfold runV
  obtain ⟨ti, hi, hz0, hz1, hz2⟩ := info_parts info_val
  obtain ⟨tj, hj, hy0, hy1, hy2⟩ := info_parts info_thg
  obtain ⟨tk, hk, hx0, hx1, hx2⟩ := info_parts info_str
  have hb0 : Below w.heap.size w ((w.alloc (.cells #[.int .i64 r.at_, .slice vs r.vars.length vc, .slice ts r.things.length tc, .int .i64 r.taken, .slice ls r.lines.length lc, .int .i64 r.fin] 46)).alloc (.cells #[.int .i64 0, .slice none 0 0, .slice none 0 0, .int .i64 0, .slice none 0 0, .int .i64 0] 46)) := by go_grown
  have Q0 := (R6.new w 46 (.int .i64 r.at_) (.slice vs r.vars.length vc) (.slice ts r.things.length tc) (.int .i64 r.taken) (.slice ls r.lines.length lc) (.int .i64 r.fin)).call (w' := ((w.alloc (.cells #[.int .i64 r.at_, .slice vs r.vars.length vc, .slice ts r.things.length tc, .int .i64 r.taken, .slice ls r.lines.length lc, .int .i64 r.fin] 46)).alloc (.cells #[.int .i64 0, .slice none 0 0, .slice none 0 0, .int .i64 0, .slice none 0 0, .int .i64 0] 46))) (by go_grown)
  have Z0 := R6.new (w.alloc (.cells #[.int .i64 r.at_, .slice vs r.vars.length vc, .slice ts r.things.length tc, .int .i64 r.taken, .slice ls r.lines.length lc, .int .i64 r.fin] 46)) 46 (.int .i64 0) (.slice none 0 0) (.slice none 0 0) (.int .i64 0) (.slice none 0 0) (.int .i64 0)
  rw [World.size_alloc] at Z0
  have hzw : ((w.alloc (.cells #[.int .i64 r.at_, .slice vs r.vars.length vc, .slice ts r.things.length tc, .int .i64 r.taken, .slice ls r.lines.length lc, .int .i64 r.fin] 46)).alloc (.cells #[.int .i64 0, .slice none 0 0, .slice none 0 0, .int .i64 0, .slice none 0 0, .int .i64 0] 46)).heap.size = w.heap.size + 1 + 1 := by simp
  have HA := hideK (fun (wx : World) (hx : Below w.heap.size w wx) => hr.below hx (Nat.le_refl _))
  have HF3 := hideK hf3
  clear hr hf3
  go_enter Tryd.func50, Tryd.ntmps50
  go_upto_region 1 with fail
  generalize ((w.alloc (.cells #[.int .i64 r.at_, .slice vs r.vars.length vc, .slice ts r.things.length tc, .int .i64 r.taken, .slice ls r.lines.length lc, .int .i64 r.fin] 46)).alloc (.cells #[.int .i64 0, .slice none 0 0, .slice none 0 0, .int .i64 0, .slice none 0 0, .int .i64 0] 46)) = w2 at *
  have HZW := hideK hzw
  clear hzw
  obtain ⟨⟨r0, r1, r2, r3, r4, r5⟩, rz, rf⟩ := id Q0
  have g1 := rf 1
  clear rf
  have hv2 := (HA.out w2 hb0).1
  have HV2 := hideK (And.intro hv2.news hv2.nil)
  clear hv2
  go_wp2_with (at_builtin; refine wpList_append_any _ rfl _ _ 42 rfl w2.heap.size 94 ti (.agg #[.int .i64 0, .int .i64 0]) 2 16 Tryd.underlying42 hi hz0 hz1 hz2 rfl (by decide) _ _ _ rfl (World.ownsRow_made w2 #[] 0 (Nat.le_refl _) (Nat.zero_le _) rfl) vs r.vars.length vc (valCells r.vars) rfl (valCells_length _) HV2.out.2 ?qc2 (one_vals _) ?qc4 ?qc5 ?qc6 ?_)
  case qc2 => exact fun ad e j u hj => Lib.cell?_alloc_some _ (HV2.out.1 ad e j u hj)
  case qc4 => unfold maxLen; omega
  case qc5 => omega
  case qc6 => simp
  intro vv w3 ov hgv hav
  have hb3 : Below w2.heap.size w2 w3 := ((Below.refl _ w2).alloc (Nat.le_refl _) _).grown hgv (by simp) (by intro k hk; simp [Value.ownBlock] at hk; omega)
  have hzw := HZW.out
  (try simp only [Nat.zero_add, List.nil_append] at ov)
  rw [hzw] at ov
  clear hgv hav HV2 r0 r1 r2 r3 r4 r5 rz g1
  obtain ⟨vs1, vc1, rfl⟩ := ownsRow_form ov
  obtain ⟨⟨q0, q1, q2, q3, q4, q5⟩, qz, qf⟩ := id (Q0.call hb3)
  have g1 := qf 1
  clear qf
  have QA := (Q0.call hb3).put1 (.slice vs1 r.vars.length vc1)
  have ZA := (Z0.call hb3).far (a := ⟨w.heap.size, 1, none⟩) (by simp) (.slice vs1 r.vars.length vc1)
  have BA : Below w.heap.size w (w3.setCell ⟨w.heap.size, 1, none⟩ (.slice vs1 r.vars.length vc1)) := (hb0.trans (hb3.mono hb0.size)).setCell (by simp) _
  have OA : ValRow (w3.setCell ⟨w.heap.size, 1, none⟩ (.slice vs1 r.vars.length vc1)) (w.heap.size + 1 + 1) (.slice vs1 r.vars.length vc1) r.vars := ownsRow_far ov (ownsRow_ge ov (by simp only; omega)) _
  have zA : w.heap.size + 1 + 1 ≤ (w3.setCell ⟨w.heap.size, 1, none⟩ (.slice vs1 r.vars.length vc1)).heap.size := by have := hb3.size; simp [World.setCell]; omega
  clear Q0 Z0 ov hb3 hzw
  go_upto_region 2 with fail
  generalize w3.setCell ⟨w.heap.size, 1, none⟩ (.slice vs1 r.vars.length vc1) = w4 at *
  clear q0 q1 q2 q3 q4 q5 qz g1
  obtain ⟨⟨q0, q1, q2, q3, q4, q5⟩, qz, qf⟩ := id QA
  have g4 := qf 4
  clear qf
  have hl2 := (HA.out w4 BA).2.2
  have HL2 := hideK (And.intro hl2.news hl2.nil)
  clear hl2
  go_wp2_with (at_builtin; refine wpList_append_any _ rfl _ _ 44 rfl w4.heap.size 9 tk (.string ⟨#[]⟩) 1 16 Tryd.underlying44 hk hx0 hx1 hx2 rfl (by decide) _ _ _ rfl (World.ownsRow_made w4 #[] 0 (Nat.le_refl _) (Nat.zero_le _) rfl) ls r.lines.length lc (r.lines.map .string) rfl (by simp) HL2.out.2 ?qd2 (one_strs _) ?qd4 ?qd5 ?qd6 ?_)
  case qd2 => exact fun ad e j u hj => Lib.cell?_alloc_some _ (HL2.out.1 ad e j u hj)
  case qd4 => unfold maxLen; omega
  case qd5 => omega
  case qd6 => simp
  intro lv w5 ol hgl hal
  have hb5 : Below w4.heap.size w4 w5 := ((Below.refl _ w4).alloc (Nat.le_refl _) _).grown hgl (by simp) (by intro k hk; simp [Value.ownBlock] at hk; omega)
  (try simp only [Nat.zero_add, List.nil_append] at ol)
  clear hgl hal HL2 q0 q1 q2 q3 q4 q5 qz g4
  obtain ⟨ls1, lc1, rfl⟩ := ownsRow_form ol
  obtain ⟨⟨q0, q1, q2, q3, q4, q5⟩, qz, qf⟩ := id (QA.call hb5)
  have g4 := qf 4
  clear qf
  have QB := (QA.call hb5).put4 (.slice ls1 r.lines.length lc1)
  have ZB := (ZA.call hb5).far (a := ⟨w.heap.size, 4, none⟩) (by simp) (.slice ls1 r.lines.length lc1)
  have BB : Below w.heap.size w (w5.setCell ⟨w.heap.size, 4, none⟩ (.slice ls1 r.lines.length lc1)) := (BA.trans (hb5.mono BA.size)).setCell (by simp) _
  have OB := ownsRow_far (a := ⟨w.heap.size, 4, none⟩) (ownsRow_call OA hb5) (ownsRow_ge OA (by simp only; omega)) (.slice ls1 r.lines.length lc1)
  have LB := ownsRow_far (a := ⟨w.heap.size, 4, none⟩) ol (ownsRow_ge ol (by simp only; omega)) (.slice ls1 r.lines.length lc1)
  have apB : ∀ x, (Value.slice vs1 r.vars.length vc1).ownBlock = some x → (Value.slice ls1 r.lines.length lc1).ownBlock ≠ some x := fun x hx => ownsRow_ge ol (ownsRow_block_lt OA hx).1
  have LB' := ownsRow_down LB zA
  have IV : CpR w (w5.setCell ⟨w.heap.size, 4, none⟩ (.slice ls1 r.lines.length lc1)) r ts tc 0 [] (.slice vs1 r.vars.length vc1) (.slice none 0 0) (.slice ls1 r.lines.length lc1) := by
    refine ⟨BB, QB, ZB, OB, LB', World.ownsRow_nil _ _ _ _, Nat.zero_le _, rfl, fun j hj => by simp at hj, ?_⟩
    refine List.pairwise_cons.2 ⟨fun b hb x hx e => ?_, List.pairwise_cons.2 ⟨fun b hb x hx e => ?_, List.pairwise_cons.2 ⟨fun b hb => (by cases hb), List.Pairwise.nil⟩⟩⟩
    · rcases List.mem_cons.1 hb with rfl | hb
      · cases e
      · rcases List.mem_cons.1 hb with rfl | hb
        · exact apB x hx e
        · cases hb
    · cases hx
  have HIV := hideK IV
  clear QA ZA BA OA ol hb5 LB QB ZB BB OB LB' apB IV zA
  go_upto_region 3 with fail
  generalize w5.setCell ⟨w.heap.size, 4, none⟩ (.slice ls1 r.lines.length lc1) = w6 at *
  clear q0 q1 q2 q3 q4 q5 qz g4
  have hlen : (r.things.length : Int) ≤ 9223372036854775807 := by omega
  go_wp2
  go_loopw [3, 4] (fun tv i wr => ∃ (k : Nat) (fn : List Value) (tv' : Value), tv = tv' ∧ i = .int .i64 k ∧ CpR w wr r ts tc k fn (.slice vs1 r.vars.length vc1) tv' (.slice ls1 r.lines.length lc1)) (fun _ i _ => r.things.length - (intOf i).toNat)
  case atStart => exact ⟨0, [], _, rfl, rfl, HIV.out⟩
  case round =>
    obtain ⟨k, fn, tv, rfl, rfl, hI⟩ := hrel
    obtain ⟨⟨q0, q1, q2, q3, q4, q5⟩, qz, qf⟩ := id hI.run
    have hkl := hI.le
    by_cases hlt : k < r.things.length
    · obtain ⟨ta, tb, rfl⟩ := ownsRow_form hI.things
      rcases (HA.out w (Below.refl _ _)).2.1 with hs | ⟨b, off, rfl, hb, hcl⟩
      · rw [hs] at hlt; simp at hlt
      obtain ⟨c0, f, fc, c1, hvf⟩ := hcl k hlt
      have n0 : (0 : Int) ≤ (k : Int) := by omega
      have n1 : (k : Int) < (r.things.length : Int) := by omega
      have hfk := HF3.out _ (List.getElem_mem hlt)
      have KS : ∀ wx, Below wr.heap.size wr wx → wx.cell? ⟨w.heap.size, 2, none⟩ = some (.slice (some ⟨b, off, none⟩) r.things.length tc) ∧ wx.cell? ⟨b, off + k * 2, none⟩ = some (.int .i64 r.things[k].site) ∧ wx.cell? ⟨b, off + k * 2 + 1, none⟩ = some (.slice f r.things[k].fs.length fc) := fun wx hx => ⟨by rw [hx.cell (by simpa using qz)]; exact q2, by rw [hx.cell (by simp only; have := hI.low.size; omega), hI.low.cell (by simpa using hb)]; exact c0, by rw [hx.cell (by simp only; have := hI.low.size; omega), hI.low.cell (by simpa using hb)]; exact c1⟩
      have HV := hideK hvf
      have HI := hideK hI
      have hO := hI.things
      have hzr : w.heap.size + 1 + 1 ≤ wr.heap.size := by have := hI.res.2.1; omega
      clear hcl hvf hI qf q0 q1 q3 q4 q5
      go_wp2
      refine wp_region_z (S := (fun wx => wx.cell? ⟨w.heap.size, 2, none⟩ = some (.slice (some ⟨b, off, none⟩) r.things.length tc) ∧ wx.cell? ⟨b, off + k * 2, none⟩ = some (.int .i64 r.things[k].site) ∧ wx.cell? ⟨b, off + k * 2 + 1, none⟩ = some (.slice f r.things[k].fs.length fc))) [] (by kernel_rfl) (KS _ (Below.refl _ _).drew) (fun hHeld => ?_)
      refine tkZ 0 ?_ ?_ ?_
      rotate_left
      · exact rn
      (try simp only [Act.put, List.getElem_toArray, List.getElem_cons_zero, List.getElem_cons_succ, List.setIfInBounds_toArray, List.set_cons_zero, List.set_cons_succ])
      refine tkZ 1 ?_ ?_ ?_
      rotate_left
      · exact rn
      (try simp only [Act.put, List.getElem_toArray, List.getElem_cons_zero, List.getElem_cons_succ, List.setIfInBounds_toArray, List.set_cons_zero, List.set_cons_succ])
      refine tkZ 2 ?_ ?_ ?_
      rotate_left
      · exact rn
      (try simp only [Act.put, List.getElem_toArray, List.getElem_cons_zero, List.getElem_cons_succ, List.setIfInBounds_toArray, List.set_cons_zero, List.set_cons_succ])
      refine tkZ 3 ?_ ?_ ?_
      rotate_left
      · exact rn
      (try simp only [Act.put, List.getElem_toArray, List.getElem_cons_zero, List.getElem_cons_succ, List.setIfInBounds_toArray, List.set_cons_zero, List.set_cons_succ])
      refine tkZ 4 ?_ ?_ ?_
      rotate_left
      · exact rn
      (try simp only [Act.put, List.getElem_toArray, List.getElem_cons_zero, List.getElem_cons_succ, List.setIfInBounds_toArray, List.set_cons_zero, List.set_cons_succ])
      refine tkZ 5 ?_ ?_ ?_
      rotate_left
      · exact rn
      (try simp only [Act.put, List.getElem_toArray, List.getElem_cons_zero, List.getElem_cons_succ, List.setIfInBounds_toArray, List.set_cons_zero, List.set_cons_succ])
      refine tkZ 6 ?_ ?_ ?_
      rotate_left
      · exact rn
      (try simp only [Act.put, List.getElem_toArray, List.getElem_cons_zero, List.getElem_cons_succ, List.setIfInBounds_toArray, List.set_cons_zero, List.set_cons_succ])
      refine tkZ 8 ?_ ?_ ?_
      rotate_left
      · exact rn
      (try simp only [Act.put, List.getElem_toArray, List.getElem_cons_zero, List.getElem_cons_succ, List.setIfInBounds_toArray, List.set_cons_zero, List.set_cons_succ])
      refine tkZ 9 ?_ ?_ ?_
      rotate_left
      · exact rn
      (try simp only [Act.put, List.getElem_toArray, List.getElem_cons_zero, List.getElem_cons_succ, List.setIfInBounds_toArray, List.set_cons_zero, List.set_cons_succ])
      refine tkZ 10 ?_ ?_ ?_
      rotate_left
      · exact rn
      (try simp only [Act.put, List.getElem_toArray, List.getElem_cons_zero, List.getElem_cons_succ, List.setIfInBounds_toArray, List.set_cons_zero, List.set_cons_succ])
      refine tkZ 11 ?_ ?_ ?_
      rotate_left
      · exact rn
      (try simp only [Act.put, List.getElem_toArray, List.getElem_cons_zero, List.getElem_cons_succ, List.setIfInBounds_toArray, List.set_cons_zero, List.set_cons_succ])
      refine tkZ 12 ?_ ?_ ?_
      rotate_left
      · exact rn
      (try simp only [Act.put, List.getElem_toArray, List.getElem_cons_zero, List.getElem_cons_succ, List.setIfInBounds_toArray, List.set_cons_zero, List.set_cons_succ])
      refine tkZ 13 ?_ ?_ ?_
      rotate_left
      · exact rn
      (try simp only [Act.put, List.getElem_toArray, List.getElem_cons_zero, List.getElem_cons_succ, List.setIfInBounds_toArray, List.set_cons_zero, List.set_cons_succ])
      refine wpAnyZ_one (i := 7) rfl (by kernel_rfl) (fun K hK => ?_)
      have HB0 : Below wr.heap.size wr wr.drew := (Below.refl _ _).drew
      have hzd0 : wr.drew.heap.size = wr.heap.size := rfl
      generalize wr.drew = wq at *
      have HZD := hideK hzd0
      clear hzd0
      go_simp
      have hzd := HZD.out
      have HB1 : Below wr.heap.size wr (wq.alloc (.cells #[] 94)) := HB0.alloc HB0.size _
      refine hK.out _ _ (KS _ HB1) (fun hHeld => ?_)
      clear hK K
      (try simp only [Act.put, List.getElem_toArray, List.getElem_cons_zero, List.getElem_cons_succ, List.setIfInBounds_toArray, List.set_cons_zero, List.set_cons_succ])
      refine wpAnyZ_one (i := 14) rfl (by kernel_rfl) (fun K hK => ?_)
      have hv3 := HV.out.below (HI.out.low.trans (HB1.mono HI.out.low.size)) (Nat.le_refl _)
      refine step_append_any _ rfl _ _ 42 rfl wr.heap.size 94 ti (.agg #[.int .i64 0, .int .i64 0]) 2 16 Tryd.underlying42 hi hz0 hz1 hz2 rfl (by decide) _ _ _ rfl (World.ownsRow_made wq #[] 0 (by rw [hzd]; exact Nat.le_refl _) (Nat.zero_le _) rfl) f r.things[k].fs.length fc (valCells r.things[k].fs) rfl (valCells_length _) hv3.nil hv3.news (one_vals _) (by unfold maxLen; omega) (by omega) (by simp; omega) ?_
      intro v' w7 ov7 hg7 ha7
      have HB7 : Below wr.heap.size wr w7 := HB1.grown hg7 (by simp; omega) (fun x hx => by have e : some wq.heap.size = some x := hx; have := Option.some.inj e; omega)
      (try simp only [Nat.zero_add, List.nil_append] at ov7)
      obtain ⟨va, vb, rfl⟩ := ownsRow_form ov7
      refine hK.out _ _ (KS _ HB7) (fun hHeld => ?_)
      clear hK K hg7 ha7
      (try simp only [Act.put, List.getElem_toArray, List.getElem_cons_zero, List.getElem_cons_succ, List.setIfInBounds_toArray, List.set_cons_zero, List.set_cons_succ])
      refine tkZ 15 ?_ ?_ ?_
      rotate_left
      · exact rn
      (try simp only [Act.put, List.getElem_toArray, List.getElem_cons_zero, List.getElem_cons_succ, List.setIfInBounds_toArray, List.set_cons_zero, List.set_cons_succ])
      refine wpAnyZ_one (i := 16) rfl (by kernel_rfl) (fun K hK => ?_)
      go_simp
      have HB8 : Below wr.heap.size wr (w7.alloc (.cells #[.int .i64 r.things[k].site, .slice va r.things[k].fs.length vb] 99)) := HB7.alloc HB7.size _
      refine hK.out _ _ (KS _ HB8) (fun hHeld => ?_)
      clear hK K
      (try simp only [Act.put, List.getElem_toArray, List.getElem_cons_zero, List.getElem_cons_succ, List.setIfInBounds_toArray, List.set_cons_zero, List.set_cons_succ])
      refine wpAnyZ_one (i := 17) rfl (by kernel_rfl) (fun K hK => ?_)
      have hO8 := ownsRow_call hO HB8
      have ov8 := ownsRow_call ov7 (w' := w7.alloc (.cells #[.int .i64 r.things[k].site, .slice va r.things[k].fs.length vb] 99)) (by go_grown)
      refine step_append_lies _ rfl _ _ 43 rfl (w.heap.size + 1 + 1) 99 tj (.agg #[.int .i64 0, .slice none 0 0]) 2 32 Tryd.underlying43 hj hy0 hy1 hy2 rfl (by decide) _ _ _ rfl hO8 ⟨w7.heap.size, 0, none⟩ 1 1 [.int .i64 r.things[k].site, .slice va r.things[k].fs.length vb] rfl rfl (fun j u hj => World.news_of_block (heap_alloc_new _ _) j u hj) (by simp [Value.oneCell']) (by omega) (by unfold maxLen; omega) (by omega) (by have := HB8.size; omega) _ rfl ?_
      intro gl cl w9 hown9 hgrow9 hat9 hlt9
      have HI9 := hideK (HI.out.step hlt HB8 ov8 hown9 hgrow9 hat9)
      have hS9 : w9.cell? ⟨w.heap.size, 2, none⟩ = some (.slice (some ⟨b, off, none⟩) r.things.length tc) ∧ w9.cell? ⟨b, off + k * 2, none⟩ = some (.int .i64 r.things[k].site) ∧ w9.cell? ⟨b, off + k * 2 + 1, none⟩ = some (.slice f r.things[k].fs.length fc) := ⟨HI9.out.run.1.2.2.1, by rw [HI9.out.low.cell (by simpa using hb)]; exact c0, by rw [HI9.out.low.cell (by simpa using hb)]; exact c1⟩
      refine hK.out _ _ hS9 (fun hHeld => ?_)
      clear hK K
      (try simp only [Act.put, List.getElem_toArray, List.getElem_cons_zero, List.getElem_cons_succ, List.setIfInBounds_toArray, List.set_cons_zero, List.set_cons_succ])
      refine tkZ 18 ?_ ?_ ?_
      rotate_left
      · exact rn
      (try simp only [Act.put, List.getElem_toArray, List.getElem_cons_zero, List.getElem_cons_succ, List.setIfInBounds_toArray, List.set_cons_zero, List.set_cons_succ])
      refine wpAnyZ_done (by kernel_rfl) ?_ _
      clear KS
      go_wp2
      go_roundw
      case rel => exact ⟨k + 1, _, _, rfl, by go_num, HI9.out⟩
      case measure => simp [intOf]; omega
    · have hkn : k = r.things.length := by omega
      obtain ⟨ta, tb, rfl⟩ := ownsRow_form hI.things
      have OR := hI.rows hkn
      subst hkn
      have HL := hI.low
      obtain ⟨⟨z0, z1, z2, z3, z4, z5⟩, zz, zf⟩ := id hI.res
      have g0 := zf 0
      have g1 := zf 1
      have g2 := zf 2
      have g3 := zf 3
      have g4 := zf 4
      have g5 := zf 5
      have gq := qf 2
      have HY := hideK (And.intro (((OR.set (a := ⟨w.heap.size, 2, none⟩) (by simp only; omega) (.slice ta r.things.length tb)).set6 (b := w.heap.size + 1) (by omega) (.int .i64 r.at_) (.slice vs1 r.vars.length vc1) (.slice ta r.things.length tb) (.int .i64 r.taken) (.slice ls1 r.lines.length lc1) (.int .i64 r.fin)).down (show w.heap.size ≤ w.heap.size + 1 + 1 by omega)) (below_set6 (HL.setCell (p := ⟨w.heap.size, 2, none⟩) (Nat.le_refl _) (.slice ta r.things.length tb)) (show w.heap.size ≤ w.heap.size + 1 by omega) (.int .i64 r.at_) (.slice vs1 r.vars.length vc1) (.slice ta r.things.length tb) (.int .i64 r.taken) (.slice ls1 r.lines.length lc1) (.int .i64 r.fin)))
      clear hI OR HL zf qf HA HF3 HIV
      go_wp2
      refine bodyPost_ret (v := .agg #[.int .i64 r.at_, .slice vs1 r.vars.length vc1, .slice ta r.things.length tb, .int .i64 r.taken, .slice ls1 r.lines.length lc1, .int .i64 r.fin]) (by simp [results, Tryd.results50, go_sem, z0, z1, z2, z3, z4, z5]) rfl ?_
      exact ⟨_, _, _, fn, rfl, HY.out.1, HY.out.2⟩
end Go.Proofs.YtmapdpcfanecdaaDoor
