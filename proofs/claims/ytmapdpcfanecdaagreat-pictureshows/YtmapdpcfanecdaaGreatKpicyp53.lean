/- Walks over package run: what the machine does, kind by kind. -/
import Derived.Test.YtmapdpcfanecdaaGreatKpicyp09
import Derived.Test.YtmapdpcfanecdaaGreatKpicyp46
import Derived.Test.YtmapdpcfanecdaaGreatKpicyp52
import Derived.Test.YtmapdpcfanecdaaGreatKpicyp48
import Derived.Test.YtmapdpcfanecdaaGreatKpicyp07
import Derived.Deep.DeepCutAuto
import Derived.Lib.SliceRun
import Derived.Deep.QuietTactic
import Derived.BigQuiet
namespace Go.Proofs.YtmapdpcfanecdaaGreat
set_option linter.unusedVariables false
set_option linter.unusedSimpArgs false
open Go.RowKit
attribute [local go_sem ↓] Go.wp_at_zero Go.wp_at_succ

/-- All values of a run, one behind the other. -/
def allVals (r : St) : List Val := r.vars ++ r.things.flatMap (·.fs)
theorem allVals_all (r : St) (p : Val → Bool) : (allVals r).all p = (r.vars.all p && r.things.all fun t => t.fs.all p) := by
  unfold allVals
  rw [List.all_append, List.all_flatMap]
theorem all_drop_stepG {α : Type} (l : List α) (p : α → Bool) (k : Nat) (h : k < l.length) : (l.drop k).all p = (p l[k] && (l.drop (k + 1)).all p) := by
  rw [List.drop_eq_getElem_cons h]
  rfl
theorem valCells_append (a b : List Val) : valCells (a ++ b) = valCells a ++ valCells b := by
  induction a with
  | nil => rfl
  | cons v r ih => simp only [List.cons_append, valCells, ih]
theorem flatA_take {l : List Thg} {k : Nat} (h : k < l.length) : (l.take (k + 1)).flatMap (·.fs) = (l.take k).flatMap (·.fs) ++ l[k].fs := by
  rw [List.take_succ_eq_append_getElem h, List.flatMap_append]
  simp
theorem flatA_len {l : List Thg} {n : Nat} (h : ∀ t ∈ l, t.fs.length ≤ n) : ∀ k, ((l.take k).flatMap (·.fs)).length ≤ k * n := by
  intro k
  induction k with
  | zero => simp
  | succ k ih =>
    by_cases hk : k < l.length
    · rw [flatA_take hk, List.length_append]
      have := h _ (List.getElem_mem hk)
      rw [Nat.succ_mul]
      omega
    · rw [List.take_of_length_le (by omega)]
      rw [List.take_of_length_le (by omega)] at ih
      rw [Nat.succ_mul]
      omega
def valsTo (r : St) (k : Nat) : List Val := r.vars ++ (r.things.take k).flatMap (·.fs)
theorem valsTo_zero (r : St) : valsTo r 0 = r.vars := by simp [valsTo]
theorem valsTo_succ {r : St} {k : Nat} (h : k < r.things.length) : valsTo r (k + 1) = valsTo r k ++ r.things[k].fs := by unfold valsTo; rw [flatA_take h, List.append_assoc]
theorem valsTo_all {r : St} {k : Nat} (h : r.things.length ≤ k) : valsTo r k = allVals r := by unfold valsTo allVals; rw [List.take_of_length_le h]
theorem valsTo_len {r : St} (h : ∀ t ∈ r.things, t.fs.length ≤ 3) (k : Nat) : (valsTo r k).length ≤ r.vars.length + k * 3 := by
  unfold valsTo
  rw [List.length_append]
  have := flatA_len h k
  omega
theorem ownsRow_form {w : World} {B : Nat} {e : TypeId} {z : Nat} {v : Value} {n : Nat} {xs : List Value} (h : w.ownsRow B e z v n xs) : ∃ a b, v = .slice a n b := by
  rcases h.2 with ⟨hv, hn⟩ | ⟨g, cap, cur, hv, _⟩
  · exact ⟨none, 0, by rw [hv, hn]⟩
  · exact ⟨_, _, hv⟩
set_option maxHeartbeats 8000000 in
set_option maxRecDepth 20000 in
theorem checkThingsR_any (V F : Int) (s : Option Addr) (c : List Ins) (cap : Nat) (r : St) (vs : Option Addr) (vc : Nat) (ts : Option Addr) (tc : Nat) (ls : Option Addr) (lc : Nat) (w : World) (hc : CodeAt w s c) (hp : ProgOk V F c) (hl : LenSt r) (hr : RunAt w r vs ts ls) (h0 : ¬ (r.at_ < 0 ∨ (c.length : Int) < r.at_ ∨ r.taken < 0 ∨ r.fin < 0 ∨ 5 < r.fin)) (hv : (r.vars.length : Int) = V) (hth : r.things.length ≤ 100) :
    Calls Tryz.prog 35 #[.agg #[.int .i64 V, .int .i64 F, .slice s c.length cap], runV r vs vc ts tc ls lc] w fun e w' => e = .returned (.int .i64 (ckThings F c r)) ∧ Below w.heap.size w w' := by
  unfold runV
  obtain ⟨ti, hi, hz0, hz1, hz2⟩ := info_parts info_val
  have hv8 := hp.v8
  have hf3 := hp.f3
  have h60 := hp.len
  have hb0 : Below w.heap.size w ((w.alloc (.cells #[.int .i64 V, .int .i64 F, .slice s c.length cap] 24)).alloc (.cells #[.int .i64 r.at_, .slice vs r.vars.length vc, .slice ts r.things.length tc, .int .i64 r.taken, .slice ls r.lines.length lc, .int .i64 r.fin] 76)) := by go_grown
  have P0 := (P3.new w V F s c.length cap).call (w' := ((w.alloc (.cells #[.int .i64 V, .int .i64 F, .slice s c.length cap] 24)).alloc (.cells #[.int .i64 r.at_, .slice vs r.vars.length vc, .slice ts r.things.length tc, .int .i64 r.taken, .slice ls r.lines.length lc, .int .i64 r.fin] 76))) (by go_grown)
  have Q0 := R6.new (w.alloc (.cells #[.int .i64 V, .int .i64 F, .slice s c.length cap] 24)) 76 (.int .i64 r.at_) (.slice vs r.vars.length vc) (.slice ts r.things.length tc) (.int .i64 r.taken) (.slice ls r.lines.length lc) (.int .i64 r.fin)
  rw [World.size_alloc] at Q0
  have C0 := hc.below hb0 (Nat.le_refl _)
  have A0 := hr.below hb0 (Nat.le_refl _)
  have hz2' : ((w.alloc (.cells #[.int .i64 V, .int .i64 F, .slice s c.length cap] 24)).alloc (.cells #[.int .i64 r.at_, .slice vs r.vars.length vc, .slice ts r.things.length tc, .int .i64 r.taken, .slice ls r.lines.length lc, .int .i64 r.fin] 76)).heap.size = w.heap.size + 1 + 1 := by simp
  have HCT : Hid (ckThings F c r = if r.things.all (fun t => isNew c t.site) = false then 5 else if r.things.all (fun t => decide ((t.fs.length : Int) = F)) = false then 1 else if (allVals r).all (okValB r.things.length) = false then 4 else 0) := by
    show _ = _
    rw [allVals_all]
    rfl
  have n1 : (0 : Int) ≤ r.at_ := by omega
  have n2 : r.at_ ≤ (c.length : Int) := by omega
  have n3 : ¬ r.taken < 0 := by omega
  have n4 : (0 : Int) ≤ r.fin := by omega
  have n5 : r.fin ≤ 5 := by omega
  have B1 := btw_true n1 n2
  have B2 := btw_true n4 n5
  have n7 : ¬ (100 : Int) < (r.things.length : Int) := by omega
  have HP := hideK hp
  have HLF := hideK hl.2.2.2
  have hvb : ((r.vars.length : Int) != V) = false := by simp [hv]
  clear hc hr hp hl h0
  obtain ⟨⟨p0, p1, p2⟩, pz⟩ := id P0
  obtain ⟨⟨r0, r1, r2, r3, r4, r5⟩, rz, rf⟩ := id Q0
  clear rf
  go_enter Tryz.func35, Tryz.ntmps35
  go_wp2_with (go_at_call 73; fail)
  generalize ((w.alloc (.cells #[.int .i64 V, .int .i64 F, .slice s c.length cap] 24)).alloc (.cells #[.int .i64 r.at_, .slice vs r.vars.length vc, .slice ts r.things.length tc, .int .i64 r.taken, .slice ls r.lines.length lc, .int .i64 r.fin] 76)) = w2 at *
  refine (between_any _ _ _ _).mono ?_
  rintro e w3 ⟨rfl, hw⟩
  rw [hw, B1]
  clear hw w3
  go_wp2_with (go_at_call 73; fail)
  refine (between_any _ _ _ _).mono ?_
  rintro e w3 ⟨rfl, hw⟩
  rw [hw, B2]
  clear hw w3 B1 B2 n1 n2 n4 n5 r0 r3 r4 r5
  have HT1 := hideK (fun (wx : World) (hx : Below w2.heap.size w2 wx) => And.intro (P0.call hx) (And.intro (Q0.call hx) (And.intro (C0.below hx (Nat.le_refl _)) (A0.below hx (Nat.le_refl _)))))
  clear P0 Q0 C0 A0
  go_wp2
  go_loopw [5] (fun i wr => ∃ k : Nat, k ≤ r.things.length ∧ i = .int .i64 k ∧ Below w2.heap.size w2 wr ∧ Hid (r.things.all (fun t => isNew c t.site) = (r.things.drop k).all fun t => isNew c t.site)) (fun i _ => r.things.length - (intOf i).toNat)
  case atStart => exact ⟨0, Nat.zero_le _, rfl, Below.refl _ _, rfl⟩
  case round =>
    obtain ⟨k, hk, rfl, hbr, HA⟩ := hrel
    obtain ⟨⟨⟨p0, p1, p2⟩, pz⟩, ⟨⟨-, -, r2, -, -, -⟩, rz, -⟩, Cr, Ar⟩ := HT1.out wr hbr
    by_cases hlt : k < r.things.length
    · rcases Ar.2.1 with hs | ⟨b, off, rfl, hb, hcl⟩
      · rw [hs] at hlt; simp at hlt
      obtain ⟨c0, -⟩ := hcl k hlt
      have m0 : (0 : Int) ≤ (k : Int) := by omega
      have m1 : (k : Int) < (r.things.length : Int) := by omega
      have HN : Hid ((r.things.drop k).all (fun t => isNew c t.site) = (isNew c r.things[k].site && (r.things.drop (k + 1)).all fun t => isNew c t.site)) := all_drop_stepG _ _ k hlt
      have KS : ∀ wx, Below wr.heap.size wr wx → wx.cell? ⟨w.heap.size, 0, none⟩ = some (.int .i64 V) ∧ wx.cell? ⟨w.heap.size, 1, none⟩ = some (.int .i64 F) ∧ wx.cell? ⟨w.heap.size, 2, none⟩ = some (.slice s c.length cap) ∧ wx.cell? ⟨w.heap.size + 1, 2, none⟩ = some (.slice (some ⟨b, off, none⟩) r.things.length tc) ∧ wx.cell? ⟨b, off + k * 2, none⟩ = some (.int .i64 r.things[k].site) := fun wx hx => ⟨by rw [hx.cell pz]; exact p0, by rw [hx.cell pz]; exact p1, by rw [hx.cell pz]; exact p2, by rw [hx.cell rz]; exact r2, by rw [hx.cell (by simpa using hb)]; exact c0⟩
      have HI := hideK (isNewR_any V F s c cap r.things[k].site wr.drew (Cr.below (Below.refl _ _).drew (Nat.le_refl _)) h60)
      generalize isNew c r.things[k].site = nv at *
      clear Ar Cr hcl c0
      go_wp2
      refine wp_region_z (S := (fun wx => wx.cell? ⟨w.heap.size, 0, none⟩ = some (.int .i64 V) ∧ wx.cell? ⟨w.heap.size, 1, none⟩ = some (.int .i64 F) ∧ wx.cell? ⟨w.heap.size, 2, none⟩ = some (.slice s c.length cap) ∧ wx.cell? ⟨w.heap.size + 1, 2, none⟩ = some (.slice (some ⟨b, off, none⟩) r.things.length tc) ∧ wx.cell? ⟨b, off + k * 2, none⟩ = some (.int .i64 r.things[k].site))) [] (by kernel_rfl) (KS _ (Below.refl _ _).drew) (fun hHeld => ?_)
      refine tkZ 0 ?_ ?_ ?_
      rotate_left
      · exact rn
      (try simp only [Act.put, List.getElem_toArray, List.getElem_cons_zero, List.getElem_cons_succ, List.setIfInBounds_toArray, List.set_cons_zero, List.set_cons_succ])
      refine tkZ 1 ?_ ?_ ?_
      rotate_left
      · exact rn
      (try simp only [Act.put, List.getElem_toArray, List.getElem_cons_zero, List.getElem_cons_succ, List.setIfInBounds_toArray, List.set_cons_zero, List.set_cons_succ])
      refine tkZ 2 ?_ ?_ ?_
      rotate_left
      · exact rn
      (try simp only [Act.put, List.getElem_toArray, List.getElem_cons_zero, List.getElem_cons_succ, List.setIfInBounds_toArray, List.set_cons_zero, List.set_cons_succ])
      refine tkZ 3 ?_ ?_ ?_
      rotate_left
      · exact rn
      (try simp only [Act.put, List.getElem_toArray, List.getElem_cons_zero, List.getElem_cons_succ, List.setIfInBounds_toArray, List.set_cons_zero, List.set_cons_succ])
      refine tkZ 4 ?_ ?_ ?_
      rotate_left
      · exact rn
      (try simp only [Act.put, List.getElem_toArray, List.getElem_cons_zero, List.getElem_cons_succ, List.setIfInBounds_toArray, List.set_cons_zero, List.set_cons_succ])
      refine tkZ 5 ?_ ?_ ?_
      rotate_left
      · exact rn
      (try simp only [Act.put, List.getElem_toArray, List.getElem_cons_zero, List.getElem_cons_succ, List.setIfInBounds_toArray, List.set_cons_zero, List.set_cons_succ])
      refine tkZ 6 ?_ ?_ ?_
      rotate_left
      · exact rn
      (try simp only [Act.put, List.getElem_toArray, List.getElem_cons_zero, List.getElem_cons_succ, List.setIfInBounds_toArray, List.set_cons_zero, List.set_cons_succ])
      refine wpAnyZ_one (i := 7) rfl (by kernel_rfl) (fun K hK => ?_)
      go_simp
      go_at_call 80
      refine HI.out.mono ?_
      rintro e w4 ⟨rfl, hb4⟩
      have HB4 : Below wr.heap.size wr w4 := Below.trans (Below.refl _ _).drew hb4
      go_wp2_with fail
      refine hK.out _ _ (KS _ HB4) (fun hHeld => ?_)
      clear hK K HI
      (try simp only [Act.put, List.getElem_toArray, List.getElem_cons_zero, List.getElem_cons_succ, List.setIfInBounds_toArray, List.set_cons_zero, List.set_cons_succ])
      refine tkZ 8 ?_ ?_ ?_
      rotate_left
      · exact rn
      (try simp only [Act.put, List.getElem_toArray, List.getElem_cons_zero, List.getElem_cons_succ, List.setIfInBounds_toArray, List.set_cons_zero, List.set_cons_succ])
      refine wpAnyZ_done (by kernel_rfl) ?_ _
      cases nv with
      | false =>
        have HT : Hid (ckThings F c r = 5) := by show _ = _; rw [HCT.out, HA.out, HN.out]; rfl
        clear HN HA KS
        go_wp2
        go_ret
        exact ⟨ret_int (by rw [HT.out]), hb0.trans ((hbr.trans (HB4.mono hbr.size)).mono hb0.size)⟩
      | true =>
        have HT : Hid (r.things.all (fun t => isNew c t.site) = (r.things.drop (k + 1)).all fun t => isNew c t.site) := by show _ = _; rw [HA.out, HN.out]; rfl
        clear HN HA KS
        go_wp2
        go_roundw
        case rel => exact ⟨k + 1, by omega, by go_num, hbr.trans (HB4.mono hbr.size), HT⟩
        case measure => simp [intOf]; omega
    · have HA1 : Hid (r.things.all (fun t => isNew c t.site) = true) := by show _ = _; rw [HA.out, List.drop_eq_nil_of_le (by omega)]; rfl
      clear HA Ar Cr
      go_wp2
      clear p0 p1 p2 pz r2 rz
      generalize wr = wA at *
      clear wr
      have HT2 := hideK (fun (wx : World) (hx : Below wA.heap.size wA wx) => HT1.out wx (hbr.trans (hx.mono hbr.size)))
      clear HT1
      go_loopw [6] (fun i wx => ∃ k : Nat, k ≤ r.things.length ∧ i = .int .i64 k ∧ Below wA.heap.size wA wx ∧ Hid (r.things.all (fun t => decide ((t.fs.length : Int) = F)) = (r.things.drop k).all fun t => decide ((t.fs.length : Int) = F))) (fun i _ => r.things.length - (intOf i).toNat)
      case atStart => exact ⟨0, Nat.zero_le _, rfl, Below.refl _ _, rfl⟩
      case round =>
        obtain ⟨k2, hk2, rfl, hb2, HA⟩ := hrel
        obtain ⟨⟨⟨p0, p1, p2⟩, pz⟩, ⟨⟨-, r1, r2, -, -, -⟩, rz, -⟩, Cr, Ar⟩ := HT2.out wr hb2
        by_cases hlt2 : k2 < r.things.length
        · rcases Ar.2.1 with hs | ⟨b, off, rfl, hb, hcl⟩
          · rw [hs] at hlt2; simp at hlt2
          obtain ⟨-, f, fc, c1, -⟩ := hcl k2 hlt2
          have m0 : (0 : Int) ≤ (k2 : Int) := by omega
          have m1 : (k2 : Int) < (r.things.length : Int) := by omega
          have HN : Hid ((r.things.drop k2).all (fun t => decide ((t.fs.length : Int) = F)) = (decide ((r.things[k2].fs.length : Int) = F) && (r.things.drop (k2 + 1)).all fun t => decide ((t.fs.length : Int) = F))) := all_drop_stepG _ _ k2 hlt2
          clear Ar Cr hcl
          by_cases hF : (r.things[k2].fs.length : Int) = F
          · have HT : Hid (r.things.all (fun t => decide ((t.fs.length : Int) = F)) = (r.things.drop (k2 + 1)).all fun t => decide ((t.fs.length : Int) = F)) := by show _ = _; rw [HA.out, HN.out, decide_eq_true hF]; rfl
            have hFb : ((r.things[k2].fs.length : Int) != F) = false := by simp [hF]
            clear HN HA hF
            go_wp2
            go_quiet (fail)
            go_wp2
            go_roundw
            case rel => exact ⟨k2 + 1, by omega, by go_num, below_drewN hb2 _, HT⟩
            case measure => simp [intOf]; omega
          · have HT : Hid (ckThings F c r = 1) := by show _ = _; rw [HCT.out, HA1.out, HA.out, HN.out, decide_eq_false hF]; rfl
            have hFb : ((r.things[k2].fs.length : Int) != F) = true := by simpa using hF
            clear HN HA hF
            go_wp2
            go_quiet (fail)
            go_wp2
            go_ret
            exact ⟨ret_int (by rw [HT.out]), hb0.trans ((hbr.trans ((below_drewN hb2 _).mono hbr.size)).mono hb0.size)⟩
        · have HA2 : Hid (r.things.all (fun t => decide ((t.fs.length : Int) = F)) = true) := by show _ = _; rw [HA.out, List.drop_eq_nil_of_le (by omega)]; rfl
          have HF3 : Hid (∀ t ∈ r.things, t.fs.length ≤ 3) := fun t ht => by
            have := List.all_eq_true.1 HA2.out t ht
            simp only [decide_eq_true_eq] at this
            omega
          have HCZ : Hid (ckThings F c r = if (allVals r).all (okValB r.things.length) = false then 4 else 0) := by show _ = _; rw [HCT.out, HA1.out, HA2.out, if_neg (by simp), if_neg (by simp)]
          clear HA HCT HA1 HA2
          generalize wr = wx at *
          clear wr
          have hb3 := hbr.trans (hb2.mono hbr.size)
          have b3 := hb0.trans (hb3.mono hb0.size)
          have HT3 := hideK (fun (wy : World) (hy : Below wx.heap.size wx wy) => HT2.out wy (hb2.trans (hy.mono hb2.size)))
          clear HT2 Cr
          have hvn := Ar.1.news
          have hvl := Ar.1.nil
          have hba : Below wx.heap.size wx (wx.alloc (.cells #[] 31)) := by go_grown
          have HVN := hideK (And.intro hvn hvl)
          clear hvn hvl Ar
          go_wp2_with (at_builtin; refine wpList_append_any _ rfl _ _ 72 rfl wx.heap.size 31 ti (.agg #[.int .i64 0, .int .i64 0]) 2 16 Tryz.underlying72 hi hz0 hz1 hz2 rfl (by decide) _ _ _ rfl (World.ownsRow_made wx #[] 0 (Nat.le_refl _) (Nat.zero_le _) rfl) vs r.vars.length vc (valCells r.vars) rfl (valCells_length _) HVN.out.2 ?qc2 (one_vals _) ?qc4 ?qc5 ?qc6 ?_)
          case qc2 => exact fun ad e j u hj => Lib.cell?_alloc_some _ (HVN.out.1 ad e j u hj)
          case qc4 => unfold maxLen; omega
          case qc5 => omega
          case qc6 => simp
          intro v0 w3 hown hgrow hat
          have hb4 : Below wx.heap.size wx w3 := ((Below.refl _ wx).alloc (Nat.le_refl _) _).grown hgrow (by simp) (by intro k hk; simp [Value.ownBlock] at hk; omega)
          clear hgrow hat hba HVN
          have HT4 := hideK (fun (wy : World) (hy : Below wx.heap.size wx wy) => And.intro (HT3.out wy hy).2.1 (HT3.out wy hy).2.2.2)
          clear HT3 p0 p1 p2 pz r1 r2 rz
          go_wp2
          go_loopw [7, 8] (fun v i wy => ∃ (k : Nat) (v' : Value), k ≤ r.things.length ∧ i = .int .i64 k ∧ v = v' ∧ Below wx.heap.size wx wy ∧ wy.ownsRow wx.heap.size 31 2 v' (valsTo r k).length (valCells (valsTo r k))) (fun _ i _ => r.things.length - (intOf i).toNat)
          case atStart => exact ⟨0, _, Nat.zero_le _, rfl, rfl, hb4, by rw [valsTo_zero]; simpa using hown⟩
          case round =>
            obtain ⟨k3, v, hk3, rfl, rfl, hby, hO⟩ := hrel
            generalize wr = wy at *
            clear wr
            obtain ⟨⟨⟨-, -, r2, -, -, -⟩, rz, -⟩, Ar⟩ := HT4.out wy hby
            by_cases hlt3 : k3 < r.things.length
            · rcases Ar.2.1 with hs | ⟨b, off, rfl, hb, hcl⟩
              · rw [hs] at hlt3; simp at hlt3
              obtain ⟨-, f, fc, c1, hvf⟩ := hcl k3 hlt3
              have m0 : (0 : Int) ≤ (k3 : Int) := by omega
              have m1 : (k3 : Int) < (r.things.length : Int) := by omega
              have hfl := valsTo_len HF3.out k3
              have hfk := HF3.out _ (List.getElem_mem hlt3)
              have HVN := hideK (And.intro hvf.news hvf.nil)
              have hln : (valsTo r k3).length + r.things[k3].fs.length ≤ 1000 := by omega
              clear Ar hcl hvf
              go_wp2_with (at_builtin; refine wpList_append_any _ rfl _ _ 72 rfl wx.heap.size 31 ti (.agg #[.int .i64 0, .int .i64 0]) 2 16 Tryz.underlying72 hi hz0 hz1 hz2 rfl (by decide) _ _ _ rfl hO f r.things[k3].fs.length fc (valCells r.things[k3].fs) rfl (valCells_length _) HVN.out.2 HVN.out.1 (one_vals _) ?qd4 ?qd5 ?qd6 ?_)
              case qd4 => unfold maxLen; omega
              case qd5 => omega
              case qd6 => exact hby.size
              intro v1 w5 hown5 hgrow5 hat5
              have hb5 : Below wx.heap.size wx w5 := hby.grown hgrow5 hby.size (fun k hk => (ownsRow_block_lt hO hk).2)
              have HO5 : Hid (w5.ownsRow wx.heap.size 31 2 v1 (valsTo r (k3 + 1)).length (valCells (valsTo r (k3 + 1)))) := by
                show World.ownsRow _ _ _ _ _ _ _
                rw [valsTo_succ hlt3, valCells_append, List.length_append]
                exact hown5
              clear hO hown5 hgrow5 hat5 HVN
              go_wp2
              go_roundw
              case rel => exact ⟨k3 + 1, _, by omega, by go_num, rfl, hb5, HO5.out⟩
              case measure => simp [intOf]; omega
            · have eA : valsTo r k3 = allVals r := valsTo_all (by omega)
              rw [eA] at hO
              have hal : (allVals r).length ≤ 1000 := by
                have h1 := valsTo_len HF3.out k3
                rw [← eA]
                omega
              obtain ⟨va, vb, rfl⟩ := ownsRow_form hO
              have HO := hideK hO
              clear hO eA Ar hown HF3
              go_wp2
              go_loopw [9] (fun i wz => ∃ k : Nat, k ≤ (allVals r).length ∧ i = .int .i64 k ∧ Below wy.heap.size wy wz ∧ Hid ((allVals r).all (okValB r.things.length) = ((allVals r).drop k).all (okValB r.things.length))) (fun i _ => (allVals r).length - (intOf i).toNat)
              case atStart => exact ⟨0, Nat.zero_le _, rfl, Below.refl _ _, rfl⟩
              case round =>
                obtain ⟨k, hk4, rfl, hbz, HA⟩ := hrel
                have hbw : Below w.heap.size w wr := b3.trans (((hby.trans (hbz.mono hby.size))).mono b3.size)
                by_cases hlt4 : k < (allVals r).length
                · obtain ⟨ga, ca, ega, hgB, hgz⟩ := HO.out.form (by omega)
                  cases ega
                  obtain ⟨⟨⟨-, -, r2, -, -, -⟩, rz, -⟩, -⟩ := HT4.out wr (hby.trans (hbz.mono hby.size))
                  have m0 : (0 : Int) ≤ (k : Int) := by omega
                  have m1 : (k : Int) < ((allVals r).length : Int) := by omega
                  have c0 : wr.cell? ⟨ga, k * 2, none⟩ = some (.int .i64 (allVals r)[k].k) := by rw [hbz.cell (by simpa using hgz), HO.out.cellAt (k * 2) (by omega)]; exact valCells_k _ k hlt4
                  have c1 : wr.cell? ⟨ga, k * 2 + 1, none⟩ = some (.int .i64 (allVals r)[k].n) := by rw [hbz.cell (by simpa using hgz), HO.out.cellAt (k * 2 + 1) (by omega)]; exact valCells_n _ k hlt4
                  have hgz' : ga < wr.heap.size := Nat.lt_of_lt_of_le hgz hbz.size
                  have HN : Hid (((allVals r).drop k).all (okValB r.things.length) = (okValB r.things.length (allVals r)[k] && ((allVals r).drop (k + 1)).all (okValB r.things.length))) := all_drop_stepG _ _ k hlt4
                  have KS : ∀ wx, Below wr.heap.size wr wx → wx.cell? ⟨w.heap.size + 1, 2, none⟩ = some (.slice ts r.things.length tc) ∧ wx.cell? ⟨ga, k * 2, none⟩ = some (.int .i64 (allVals r)[k].k) ∧ wx.cell? ⟨ga, k * 2 + 1, none⟩ = some (.int .i64 (allVals r)[k].n) := fun wx hx => ⟨by rw [hx.cell rz]; exact r2, by rw [hx.cell (by simpa using hgz')]; exact c0, by rw [hx.cell (by simpa using hgz')]; exact c1⟩
                  have HI := hideK (isValueR_any (allVals r)[k].k (allVals r)[k].n r.things.length wr.drew (by omega))
                  generalize okValB r.things.length (allVals r)[k] = nv at *
                  go_wp2
                  refine wp_region_z (S := (fun wx => wx.cell? ⟨w.heap.size + 1, 2, none⟩ = some (.slice ts r.things.length tc) ∧ wx.cell? ⟨ga, k * 2, none⟩ = some (.int .i64 (allVals r)[k].k) ∧ wx.cell? ⟨ga, k * 2 + 1, none⟩ = some (.int .i64 (allVals r)[k].n))) [] (by kernel_rfl) (KS _ (Below.refl _ _).drew) (fun hHeld => ?_)
                  refine tkZ 0 ?_ ?_ ?_
                  rotate_left
                  · exact rn
                  (try simp only [Act.put, List.getElem_toArray, List.getElem_cons_zero, List.getElem_cons_succ, List.setIfInBounds_toArray, List.set_cons_zero, List.set_cons_succ])
                  refine tkZ 1 ?_ ?_ ?_
                  rotate_left
                  · exact rn
                  (try simp only [Act.put, List.getElem_toArray, List.getElem_cons_zero, List.getElem_cons_succ, List.setIfInBounds_toArray, List.set_cons_zero, List.set_cons_succ])
                  refine tkZ 2 ?_ ?_ ?_
                  rotate_left
                  · exact rn
                  (try simp only [Act.put, List.getElem_toArray, List.getElem_cons_zero, List.getElem_cons_succ, List.setIfInBounds_toArray, List.set_cons_zero, List.set_cons_succ])
                  refine tkZ 3 ?_ ?_ ?_
                  rotate_left
                  · exact rn
                  (try simp only [Act.put, List.getElem_toArray, List.getElem_cons_zero, List.getElem_cons_succ, List.setIfInBounds_toArray, List.set_cons_zero, List.set_cons_succ])
                  refine tkZ 4 ?_ ?_ ?_
                  rotate_left
                  · exact rn
                  (try simp only [Act.put, List.getElem_toArray, List.getElem_cons_zero, List.getElem_cons_succ, List.setIfInBounds_toArray, List.set_cons_zero, List.set_cons_succ])
                  refine tkZ 5 ?_ ?_ ?_
                  rotate_left
                  · exact rn
                  (try simp only [Act.put, List.getElem_toArray, List.getElem_cons_zero, List.getElem_cons_succ, List.setIfInBounds_toArray, List.set_cons_zero, List.set_cons_succ])
                  refine tkZ 6 ?_ ?_ ?_
                  rotate_left
                  · exact rn
                  (try simp only [Act.put, List.getElem_toArray, List.getElem_cons_zero, List.getElem_cons_succ, List.setIfInBounds_toArray, List.set_cons_zero, List.set_cons_succ])
                  refine wpAnyZ_one (i := 7) rfl (by kernel_rfl) (fun K hK => ?_)
                  go_simp
                  go_at_call 81
                  refine HI.out.mono ?_
                  rintro e w4 ⟨rfl, hb4⟩
                  have HB4 : Below wr.heap.size wr w4 := Below.trans (Below.refl _ _).drew hb4
                  go_wp2_with fail
                  refine hK.out _ _ (KS _ HB4) (fun hHeld => ?_)
                  clear hK K HI
                  (try simp only [Act.put, List.getElem_toArray, List.getElem_cons_zero, List.getElem_cons_succ, List.setIfInBounds_toArray, List.set_cons_zero, List.set_cons_succ])
                  refine tkZ 8 ?_ ?_ ?_
                  rotate_left
                  · exact rn
                  (try simp only [Act.put, List.getElem_toArray, List.getElem_cons_zero, List.getElem_cons_succ, List.setIfInBounds_toArray, List.set_cons_zero, List.set_cons_succ])
                  refine wpAnyZ_done (by kernel_rfl) ?_ _
                  cases nv with
                  | false =>
                    have HT : Hid (ckThings F c r = 4) := by show _ = _; rw [HCZ.out, HA.out, HN.out]; rfl
                    clear HN HA KS
                    go_wp2
                    go_ret
                    exact ⟨ret_int (by rw [HT.out]), hbw.trans (HB4.mono hbw.size)⟩
                  | true =>
                    have HT : Hid ((allVals r).all (okValB r.things.length) = ((allVals r).drop (k + 1)).all (okValB r.things.length)) := by show _ = _; rw [HA.out, HN.out]; rfl
                    clear HN HA KS
                    go_wp2
                    go_roundw
                    case rel => exact ⟨k + 1, by omega, by go_num, hbz.trans (HB4.mono hbz.size), HT⟩
                    case measure => simp [intOf]; omega
                · have HT : Hid (ckThings F c r = 0) := by show _ = _; rw [HCZ.out, HA.out, List.drop_eq_nil_of_le (by omega)]; rfl
                  clear HA
                  go_wp2
                  go_ret
                  exact ⟨ret_int (by rw [HT.out]), hbw⟩
end Go.Proofs.YtmapdpcfanecdaaGreat
