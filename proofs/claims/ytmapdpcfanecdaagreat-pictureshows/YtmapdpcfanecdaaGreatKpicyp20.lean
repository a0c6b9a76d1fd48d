/- The document's own answer: what is told of a picture that is not of its form. -/
import Derived.Test.YtmapdpcfanecdaaGreatKpicyp19
import Derived.Test.YtmapdpcfanecdaaGreatKpicyp06
import Derived.Test.YtmapdpcfanecdaaGreatKpicyp09
import Derived.Deep.DeepCutAuto
namespace Go.Proofs.YtmapdpcfanecdaaGreat
set_option linter.unusedVariables false
set_option linter.unusedSimpArgs false
open Go.RowKit

set_option maxHeartbeats 4000000 in
set_option maxRecDepth 10000 in
theorem checkGuess_any (V F : Int) (s : Option Addr) (c : List Ins) (cap : Nat) (g : Gs) (ss : Option Addr) (gc : Nat) (w : World) (hc : CodeAt w s c) (hl : c.length ≤ 60) (hs : IntsAt w ss g.s) (hgl : g.s.length ≤ 9223372036854775807) :
    Calls Tryz.prog 47 #[pv V F s c cap, gv g ss gc] w fun e w' => e = .returned (.int .i64 (ckGs c g)) ∧ Below w.heap.size w w' := by
  have P0 : PrAt (pgW w V F s c cap g ss gc) w.heap.size V F s c cap := (PrAt.new w V F s c cap).alloc _
  have G0 : GuAt (pgW w V F s c cap g ss gc) (w.heap.size + 1) 0 g ss gc := by
    have := GuAt.new (w.alloc (.cells #[.int .i64 V, .int .i64 F, .slice s c.length cap] 24)) g ss gc
    simpa using this
  have C0 : CodeAt (pgW w V F s c cap g ss gc) s c := (hc.alloc _).alloc _
  have I0 : IntsAt (pgW w V F s c cap g ss gc) ss g.s := (hs.alloc _).alloc _
  have B0 : Below w.heap.size w (pgW w V F s c cap g ss gc) := by go_grown
  have HR : Hid (ckGs c g = if ckSp g.sp ≠ 0 then ckSp g.sp else if g.s.all (isSite c) = false then 5 else if rising g.s = false then 4 else 0) := rfl
  go_enter Tryz.func47, Tryz.ntmps47
  go_wp2_with (go_at_call 92; fail)
  refine (checkSpan_any g.sp _).mono ?_
  rintro e w1 ⟨rfl, hb1⟩
  have P1 := P0.call hb1
  have G1 := G0.call hb1
  have C1 := C0.call hb1
  have I1 := I0.call hb1
  have B1 : Below w.heap.size w w1 := B0.trans (hb1.mono (by simp; omega))
  clear hb1 P0 G0 C0 I0 B0 hc hs
  by_cases hsp : ckSp g.sp = 0
  · have HF0 : Hid (ckGs c g = if g.s.all (isSite c) = false then 5 else if rising g.s = false then 4 else 0) := by show _ = _; rw [HR.out, if_neg (by simpa using hsp)]
    rw [hsp]
    clear HR
    go_wp2
    go_loopw [6] (fun i wr => ∃ k : Nat, k ≤ g.s.length ∧ i = .int .i64 k ∧ PrAt wr w.heap.size V F s c cap ∧ GuAt wr (w.heap.size + 1) 0 g ss gc ∧ CodeAt wr s c ∧ IntsAt wr ss g.s ∧ Below w.heap.size w wr ∧ Hid (∀ j (h : j < g.s.length), j < k → isSite c g.s[j] = true)) (fun i _ => g.s.length - (intOf i).toNat)
    case atStart => exact ⟨0, Nat.zero_le _, rfl, P1, G1, C1, I1, B1, fun j h h' => by omega⟩
    case round =>
      obtain ⟨k, hk, rfl, PR, GR, CR, IR, BR, HK⟩ := hrel
      clear P1 G1 C1 I1 B1
      obtain ⟨⟨p0, p1, p2⟩, p3⟩ := id PR
      obtain ⟨⟨g0, g1, g2, g3, g4, g5, g6⟩, gz⟩ := id GR
      simp only [Nat.zero_add] at g0 g1 g2 g3 g4 g5 g6
      by_cases hlt : k < g.s.length
      · obtain ⟨b, off, rfl, hb, hcell⟩ := IR.get k hlt
        have c0 := hcell k hlt
        have n0 : (0 : Int) ≤ (k : Int) := by omega
        have n1 : (k : Int) < (g.s.length : Int) := by omega
        have KS : ∀ wx, Below wr.heap.size wr wx → (wx.cell? ⟨w.heap.size, 0, none⟩ = some (.int .i64 V) ∧ wx.cell? ⟨w.heap.size, 1, none⟩ = some (.int .i64 F) ∧ wx.cell? ⟨w.heap.size, 2, none⟩ = some (.slice s c.length cap)) ∧ wx.cell? ⟨w.heap.size + 1, 6, none⟩ = some (.slice (some ⟨b, off, none⟩) g.s.length gc) ∧ wx.cell? ⟨b, off + k, none⟩ = some (.int .i64 g.s[k]) := by
          intro wx hbx
          rw [hbx.cell (by simpa using p3), hbx.cell (by simpa using p3), hbx.cell (by simpa using p3), hbx.cell (by simpa using gz), hbx.cell (by simpa using hb)]
          exact ⟨⟨p0, p1, p2⟩, g6, c0⟩
        clear hcell
        go_wp2
        go_region_held3 (fun wx => (wx.cell? ⟨w.heap.size, 0, none⟩ = some (.int .i64 V) ∧ wx.cell? ⟨w.heap.size, 1, none⟩ = some (.int .i64 F) ∧ wx.cell? ⟨w.heap.size, 2, none⟩ = some (.slice s c.length cap)) ∧ wx.cell? ⟨w.heap.size + 1, 6, none⟩ = some (.slice (some ⟨b, off, none⟩) g.s.length gc) ∧ wx.cell? ⟨b, off + k, none⟩ = some (.int .i64 g.s[k]))
          (first | with_reducible exact KS _ (Below.refl _ _).drew | with_reducible exact KS _ HB)
          ((go_at_call 80; refine (isSite_any V F s c cap g.s[k] _ (CR.call (Below.refl _ _).drew) hl).mono ?_; rintro e w2 ⟨rfl, hb2⟩; have HB : Below wr.heap.size wr w2 := (Below.refl _ _).drew.trans (hb2.mono (Nat.le_refl _))))
        have P2 := PR.call HB
        have G2 := GR.call HB
        have C2 := CR.call HB
        have I2 := IR.call HB
        have B2 := BR.trans (HB.mono BR.size)
        clear hb2 PR GR CR IR BR HB KS p0 p1 p2 g0 g1 g2 g3 g4 g5 g6
        cases hS : isSite c g.s[k] with
        | true =>
          go_wp2
          go_roundw
          case rel =>
            refine ⟨k + 1, by omega, by go_num, P2, G2, C2, I2, B2, fun j h h' => ?_⟩
            by_cases e : j = k
            · subst e; exact hS
            · exact HK.out j h (by omega)
          case measure => simp [intOf]; omega
        | false =>
          have HF : Hid (ckGs c g = 5) := by
            show _ = _
            rw [HF0.out, if_pos]
            rw [Bool.eq_false_iff]
            intro hx
            have := List.all_eq_true.1 hx g.s[k] (List.getElem_mem _)
            rw [hS] at this
            cases this
          go_wp2
          go_ret
          exact ⟨ret_int HF.out.symm, B2⟩
      · have hall : g.s.all (isSite c) = true := by
          rw [List.all_eq_true]
          intro x hx
          obtain ⟨j, hj, rfl⟩ := List.getElem_of_mem hx
          exact HK.out j hj (by omega)
        have HF : Hid (ckGs c g = if rising g.s = false then 4 else 0) := by show _ = _; rw [HF0.out, if_neg (by simp [hall])]
        have HQ := hideH (rising_iff g.s)
        clear HF0 hall HK
        go_wp2
        go_loopw [7] (fun i wx => ∃ k : Nat, 1 ≤ k ∧ i = .int .i64 k ∧ k ≤ g.s.length + 1 ∧ wx.cell? ⟨w.heap.size + 1, 6, none⟩ = some (.slice ss g.s.length gc) ∧ w.heap.size + 1 < wx.heap.size ∧ IntsAt wx ss g.s ∧ Below w.heap.size w wx ∧ Hid (∀ j (h : j + 1 < g.s.length), j + 1 < k → g.s[j] < g.s[j + 1])) (fun i _ => g.s.length + 1 - (intOf i).toNat)
        case atStart => exact ⟨1, Nat.le_refl _, rfl, by omega, g6, gz, IR, BR, fun j h h' => by omega⟩
        case round =>
          obtain ⟨q, hk1, rfl, hk2, r6, rz, IX, BX, HX⟩ := hrel
          clear PR GR CR IR BR p0 p1 p2 g0 g1 g2 g3 g4 g5 g6
          by_cases hlq : q < g.s.length
          · obtain ⟨b, off, rfl, hb, hcell⟩ := IX.get q hlq
            have c0 := hcell (q - 1) (by omega)
            have c1 := hcell q hlq
            have t1 : ((q : Int) - 1).toNat = q - 1 := by omega
            have n0 : (0 : Int) ≤ (q : Int) - 1 := by omega
            have n1 : (q : Int) - 1 < (g.s.length : Int) := by omega
            have n2 : (0 : Int) ≤ (q : Int) := by omega
            have n3 : (q : Int) < (g.s.length : Int) := by omega
            clear hcell
            by_cases hr : g.s[q - 1] < g.s[q]
            · go_wp2
              go_quiet (fail)
              go_wp2
              go_roundw
              case rel =>
                refine ⟨q + 1, by omega, by go_num, by omega, ?_, ?_, IX.drewN _, below_drewN BX _, fun j h h' => ?_⟩
                · rw [← r6]; exact (below_drewN (Below.refl (w.heap.size + 2) _) _).cell (by simp)
                · exact Nat.lt_of_lt_of_le rz (below_drewN (Below.refl (w.heap.size + 2) _) _).size
                · by_cases e : j + 1 = q
                  · subst e; exact hr
                  · exact HX.out j h (by omega)
              case measure => simp [intOf]; omega
            · have HG : Hid (rising g.s = false) := by
                show _ = _
                rw [Bool.eq_false_iff]
                intro hx
                have := HQ.out.1 hx (q - 1) (by omega)
                have e : q - 1 + 1 = q := by omega
                simp only [e] at this
                exact hr this
              clear HQ
              go_wp2
              go_quiet (fail)
              go_wp2
              go_ret
              exact ⟨ret_int (by rw [HF.out, if_pos HG.out]), below_drewN BX _⟩
          · go_wp2
            go_ret
            refine ⟨ret_int ?_, BX⟩
            rw [HF.out, if_neg]
            have : rising g.s = true := HQ.out.2 fun j h => HX.out j h (by omega)
            simp [this]
  · have HF : Hid (ckGs c g = ckSp g.sp) := by show _ = _; rw [HR.out, if_pos hsp]
    have hne : (ckSp g.sp != 0) = true := by simpa using hsp
    clear HR
    go_wp2
    go_ret
    exact ⟨ret_int HF.out.symm, B1⟩

end Go.Proofs.YtmapdpcfanecdaaGreat

namespace Go.Proofs.YtmapdpcfanecdaaGreat
set_option linter.unusedVariables false
set_option linter.unusedSimpArgs false
open Go.RowKit
attribute [local go_sem ↓] Go.wp_at_zero Go.wp_at_succ

set_option maxHeartbeats 2000000 in
set_option maxRecDepth 10000 in
theorem checkPicture_none (V F : Int) (s : Option Addr) (c : List Ins) (cap : Nat) (vars : List Gs) (flds : List (List Gs)) (vs : Option Addr) (vc : Nat) (fs : Option Addr) (fc : Nat) (w : World) :
    Calls Tryz.prog 75 #[pv V F s c cap, xv ⟨true, vars, flds⟩ vs vc fs fc] w fun e w' => e = .returned (.int .i64 (ckPic V F c ⟨true, vars, flds⟩)) ∧ Below w.heap.size w w' := by
  have e1 : ckPic V F c ⟨true, vars, flds⟩ = if vars.length = 0 ∧ flds.length = 0 then 0 else 1 := by
    unfold ckPic formedPic
    simp only [if_true]
    by_cases h1 : vars.length = 0
    · by_cases h2 : flds.length = 0
      · have e1 : vars = [] := List.eq_nil_of_length_eq_zero h1
        have e2 : flds = [] := List.eq_nil_of_length_eq_zero h2
        subst e1 e2
        rfl
      · simp [h1, h2]
    · simp [h1]
  rw [e1]
  clear e1
  cases vars with
  | nil =>
    cases flds with
    | nil =>
      rw [if_pos ⟨rfl, rfl⟩]
      go_enter Tryz.func75, Tryz.ntmps75
      go_wp2
      go_ret
      exact ⟨rfl, by go_grown⟩
    | cons r flds =>
      rw [if_neg (fun h => by cases h.2)]
      go_enter Tryz.func75, Tryz.ntmps75
      go_wp2
      go_ret
      exact ⟨rfl, by go_grown⟩
  | cons g vars =>
    rw [if_neg (fun h => by cases h.1)]
    go_enter Tryz.func75, Tryz.ntmps75
    go_wp2
    go_ret
    exact ⟨rfl, by go_grown⟩

set_option maxHeartbeats 2000000 in
set_option maxRecDepth 10000 in
theorem checkPicture_vars (V F : Int) (s : Option Addr) (c : List Ins) (cap : Nat) (vars : List Gs) (flds : List (List Gs)) (vs : Option Addr) (vc : Nat) (fs : Option Addr) (fc : Nat) (w : World) (h : ¬ (vars.length : Int) = V) :
    Calls Tryz.prog 75 #[pv V F s c cap, xv ⟨false, vars, flds⟩ vs vc fs fc] w fun e w' => e = .returned (.int .i64 1) ∧ Below w.heap.size w w' := by
  have hb0 : Below w.heap.size w ((w.alloc (.cells #[.int .i64 V, .int .i64 F, .slice s c.length cap] 24)).alloc (.cells #[.bool false, .slice vs vars.length vc, .slice fs flds.length fc] 58)) := by go_grown
  have P0 := (PrAt.new w V F s c cap).call (w' := ((w.alloc (.cells #[.int .i64 V, .int .i64 F, .slice s c.length cap] 24)).alloc (.cells #[.bool false, .slice vs vars.length vc, .slice fs flds.length fc] 58))) (by go_grown)
  have X0 := XAt.new (w.alloc (.cells #[.int .i64 V, .int .i64 F, .slice s c.length cap] 24)) ⟨false, vars, flds⟩ vs vc fs fc
  rw [World.size_alloc] at X0
  simp only at X0
  have n1 : ((vars.length : Int) == V) = false := by simpa using h
  clear h
  go_enter Tryz.func75, Tryz.ntmps75
  go_wp2
  go_ret
  exact ⟨rfl, by go_grown⟩

set_option maxHeartbeats 2000000 in
set_option maxRecDepth 10000 in
theorem checkPicture_flds (V F : Int) (s : Option Addr) (c : List Ins) (cap : Nat) (vars : List Gs) (flds : List (List Gs)) (vs : Option Addr) (vc : Nat) (fs : Option Addr) (fc : Nat) (w : World) (h0 : (vars.length : Int) = V) (h : ¬ flds.length = c.length) :
    Calls Tryz.prog 75 #[pv V F s c cap, xv ⟨false, vars, flds⟩ vs vc fs fc] w fun e w' => e = .returned (.int .i64 1) ∧ Below w.heap.size w w' := by
  subst h0
  have hb0 : Below w.heap.size w ((w.alloc (.cells #[.int .i64 (vars.length : Int), .int .i64 F, .slice s c.length cap] 24)).alloc (.cells #[.bool false, .slice vs vars.length vc, .slice fs flds.length fc] 58)) := by go_grown
  have P0 := (PrAt.new w (vars.length : Int) F s c cap).call (w' := ((w.alloc (.cells #[.int .i64 (vars.length : Int), .int .i64 F, .slice s c.length cap] 24)).alloc (.cells #[.bool false, .slice vs vars.length vc, .slice fs flds.length fc] 58))) (by go_grown)
  have X0 := XAt.new (w.alloc (.cells #[.int .i64 (vars.length : Int), .int .i64 F, .slice s c.length cap] 24)) ⟨false, vars, flds⟩ vs vc fs fc
  rw [World.size_alloc] at X0
  simp only at X0
  have n1 : ((flds.length : Int) == (c.length : Int)) = false := by simp; omega
  clear h
  go_enter Tryz.func75, Tryz.ntmps75
  go_wp2
  go_ret
  exact ⟨rfl, by go_grown⟩

set_option maxHeartbeats 4000000 in
set_option maxRecDepth 10000 in
theorem checkPicture_row (F : Int) (s : Option Addr) (c : List Ins) (cap : Nat) (vars : List Gs) (flds : List (List Gs)) (vs : Option Addr) (vc : Nat) (fs : Option Addr) (fc : Nat) (w : World) (hP : PicAt w ⟨false, vars, flds⟩ vs fs) (h60 : c.length ≤ 60) (hfc : flds.length = c.length) (hb : ∃ r ∈ flds, ¬ (r.length : Int) = F) :
    Calls Tryz.prog 75 #[pv (vars.length : Int) F s c cap, xv ⟨false, vars, flds⟩ vs vc fs fc] w fun e w' => e = .returned (.int .i64 1) ∧ Below w.heap.size w w' := by
  have hb0 : Below w.heap.size w ((w.alloc (.cells #[.int .i64 (vars.length : Int), .int .i64 F, .slice s c.length cap] 24)).alloc (.cells #[.bool false, .slice vs vars.length vc, .slice fs flds.length fc] 58)) := by go_grown
  have P0 := (PrAt.new w (vars.length : Int) F s c cap).call (w' := ((w.alloc (.cells #[.int .i64 (vars.length : Int), .int .i64 F, .slice s c.length cap] 24)).alloc (.cells #[.bool false, .slice vs vars.length vc, .slice fs flds.length fc] 58))) (by go_grown)
  have X0 := XAt.new (w.alloc (.cells #[.int .i64 (vars.length : Int), .int .i64 F, .slice s c.length cap] 24)) ⟨false, vars, flds⟩ vs vc fs fc
  rw [World.size_alloc] at X0
  simp only at X0
  have hfl : ((flds.length : Int) != (c.length : Int)) = false := by simp; omega
  have hl60 : flds.length ≤ 60 := by omega
  have RW0 := hP.2.below hb0 (Nat.le_refl _)
  have HB := hideH hb
  clear hP hfc hb
  simp only at RW0
  go_enter Tryz.func75, Tryz.ntmps75
  go_upto_region 7 with fail
  generalize ((w.alloc (.cells #[.int .i64 (vars.length : Int), .int .i64 F, .slice s c.length cap] 24)).alloc (.cells #[.bool false, .slice vs vars.length vc, .slice fs flds.length fc] 58)) = w1 at *
  have P1 := P0
  have X1 := X0
  have RW := RW0
  clear P0 X0 RW0 hfl
  go_wp2
  go_loopw [5] (fun i wr => ∃ k : Nat, k ≤ flds.length ∧ i = .int .i64 k ∧ Below w1.heap.size w1 wr ∧ Hid (∀ j (h : j < flds.length), j < k → (flds[j].length : Int) = F)) (fun i _ => flds.length - (intOf i).toNat)
  case atStart => exact ⟨0, Nat.zero_le _, rfl, Below.refl _ _, fun j _ h => absurd h (by omega)⟩
  case round =>
    obtain ⟨k, hk, rfl, hbr, HJ⟩ := hrel
    obtain ⟨⟨p0, p1', p2⟩, pz⟩ := id (P1.call hbr)
    obtain ⟨⟨x0, x1, x2⟩, xz, -⟩ := id (X1.call hbr)
    by_cases hlt : k < flds.length
    · have n0 : (0 : Int) ≤ (k : Int) := by omega
      have n1 : (k : Int) < (flds.length : Int) := by omega
      obtain ⟨p1, q1, rfl, zp1, r1, rc1, C1, k1, m1, -⟩ := RW.below hbr (Nat.le_refl _) k hlt
      have HKZ : Hid (∀ wx, Below wr.heap.size wr wx → wx.cell? ⟨w.heap.size, 1, none⟩ = some (.int .i64 F) ∧ wx.cell? ⟨w.heap.size + 1, 2, none⟩ = some (.slice (some ⟨p1, q1, none⟩) flds.length fc) ∧ wx.cell? ⟨p1, q1 + k, none⟩ = some (.slice r1 flds[k].length rc1)) := fun wx hx => ⟨by rw [hx.cell (by simp only; exact pz)]; exact p1', by rw [hx.cell (by simp only; exact xz)]; exact x2, by rw [hx.cell (by simp only; exact zp1)]; exact C1⟩
      have HD : Below wr.heap.size wr wr.drew := (Below.refl _ _).drew
      go_wp2
      refine wp_region_z (S := (fun wx => wx.cell? ⟨w.heap.size, 1, none⟩ = some (.int .i64 F) ∧ wx.cell? ⟨w.heap.size + 1, 2, none⟩ = some (.slice (some ⟨p1, q1, none⟩) flds.length fc) ∧ wx.cell? ⟨p1, q1 + k, none⟩ = some (.slice r1 flds[k].length rc1))) [] (by kernel_rfl) (HKZ.out _ HD) (fun hHeld => ?_)
      refine tkZ 0 ?_ ?_ ?_
      rotate_left
      · exact rn
      (try simp only [Act.put, List.getElem_toArray, List.getElem_cons_zero, List.getElem_cons_succ, List.setIfInBounds_toArray, List.set_cons_zero, List.set_cons_succ])
      refine tkZ 1 ?_ ?_ ?_
      rotate_left
      · exact rn
      (try simp only [Act.put, List.getElem_toArray, List.getElem_cons_zero, List.getElem_cons_succ, List.setIfInBounds_toArray, List.set_cons_zero, List.set_cons_succ])
      refine tkZ 2 ?_ ?_ ?_
      rotate_left
      · exact rn
      (try simp only [Act.put, List.getElem_toArray, List.getElem_cons_zero, List.getElem_cons_succ, List.setIfInBounds_toArray, List.set_cons_zero, List.set_cons_succ])
      refine tkZ 3 ?_ ?_ ?_
      rotate_left
      · exact rn
      (try simp only [Act.put, List.getElem_toArray, List.getElem_cons_zero, List.getElem_cons_succ, List.setIfInBounds_toArray, List.set_cons_zero, List.set_cons_succ])
      refine tkZ 4 ?_ ?_ ?_
      rotate_left
      · exact rn
      (try simp only [Act.put, List.getElem_toArray, List.getElem_cons_zero, List.getElem_cons_succ, List.setIfInBounds_toArray, List.set_cons_zero, List.set_cons_succ])
      refine tkZ 5 ?_ ?_ ?_
      rotate_left
      · exact rn
      (try simp only [Act.put, List.getElem_toArray, List.getElem_cons_zero, List.getElem_cons_succ, List.setIfInBounds_toArray, List.set_cons_zero, List.set_cons_succ])
      refine tkZ 6 ?_ ?_ ?_
      rotate_left
      · exact rn
      (try simp only [Act.put, List.getElem_toArray, List.getElem_cons_zero, List.getElem_cons_succ, List.setIfInBounds_toArray, List.set_cons_zero, List.set_cons_succ])
      refine tkZ 7 ?_ ?_ ?_
      rotate_left
      · exact rn
      (try simp only [Act.put, List.getElem_toArray, List.getElem_cons_zero, List.getElem_cons_succ, List.setIfInBounds_toArray, List.set_cons_zero, List.set_cons_succ])
      refine tkZ 8 ?_ ?_ ?_
      rotate_left
      · exact rn
      (try simp only [Act.put, List.getElem_toArray, List.getElem_cons_zero, List.getElem_cons_succ, List.setIfInBounds_toArray, List.set_cons_zero, List.set_cons_succ])
      refine wpAnyZ_done (by kernel_rfl) ?_ _
      by_cases hF : (flds[k].length : Int) = F
      · have e1 : ((flds[k].length : Int) != F) = false := by simpa using hF
        go_wp2
        go_roundw
        case rel => exact ⟨k + 1, by omega, by go_num, hbr.trans (HD.mono hbr.size), fun j hj hjk => by
          by_cases e : j = k
          · subst e; exact hF
          · exact HJ.out j hj (by omega)⟩
        case measure => simp [intOf]; omega
      · have e1 : ((flds[k].length : Int) != F) = true := by simpa using hF
        go_wp2
        go_ret
        exact ⟨rfl, hb0.trans ((hbr.trans (HD.mono hbr.size)).mono hb0.size)⟩
    · have n1 : ¬ (k : Int) < (flds.length : Int) := by omega
      exfalso
      obtain ⟨r, hr, hne⟩ := HB.out
      obtain ⟨j, hj, rfl⟩ := List.getElem_of_mem hr
      exact hne (HJ.out j hj (by omega))
end Go.Proofs.YtmapdpcfanecdaaGreat
