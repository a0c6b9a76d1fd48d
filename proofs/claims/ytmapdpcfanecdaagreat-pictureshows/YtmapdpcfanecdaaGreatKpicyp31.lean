/- Walks over package picture: what is told of one picture. -/
import Derived.Test.YtmapdpcfanecdaaGreatKpicyp30
import Derived.Test.YtmapdpcfanecdaaGreatKpicyp27
import Derived.Test.YtmapdpcfanecdaaGreatKpicyp09
import Derived.Deep.DeepCutAuto
import Derived.Laws.EntriesVeiled
namespace Go.Proofs.YtmapdpcfanecdaaGreat
set_option linter.unusedVariables false
set_option linter.unusedSimpArgs false
open Go.RowKit
attribute [local go_sem ↓] Go.wp_at_zero Go.wp_at_succ

theorem formedPic_len {V F : Int} {c : List Ins} {x : Pic} (h0 : ckProg V F c = 0) (h : formedPic V F c x = true) : (allPic x).length ≤ 1000 ∧ x.flds.length ≤ c.length := by
  obtain ⟨⟨hV1, hV8⟩, ⟨hF0, hF3⟩, h60⟩ := ckProg_lim h0
  unfold formedPic at h
  unfold allPic
  cases hn : x.none with
  | true =>
    rw [hn] at h
    simp only [if_true, Bool.and_eq_true, decide_eq_true_eq] at h
    have e1 : x.vars = [] := List.eq_nil_of_length_eq_zero h.1
    have e2 : x.flds = [] := List.eq_nil_of_length_eq_zero h.2
    rw [e1, e2]
    simp
  | false =>
    rw [hn] at h
    simp only [Bool.false_eq_true, if_false, Bool.and_eq_true, decide_eq_true_eq, Bool.not_eq_true', List.any_eq_false] at h
    obtain ⟨f, rfl⟩ := Int.eq_ofNat_of_zero_le hF0
    have hr : ∀ r ∈ x.flds, r.length = f := fun r hr => by have := h.2.2 r hr; simp at this; omega
    rw [List.length_append, flat_len hr]
    have h2 := h.2.1
    have : x.flds.length * f ≤ 60 * 3 := Nat.mul_le_mul (by omega) (by omega)
    omega
theorem ckAllG_uno {V F : Int} {c : List Ins} {g : Gs} (h0 : ckProg V F c = 0) : ckAllG V F c [g] = ckGs c g := by
  unfold ckAllG
  rw [if_pos h0]
  unfold ckGss
  split
  · rename_i h; rw [h]; rfl
  · rfl
theorem isSite_at {c : List Ins} {k : Nat} (h : k < c.length) : isSite c (k : Int) = decide (c[k].k = 11) := by
  unfold isSite
  simp [h, List.getD]
set_option maxHeartbeats 2000000 in
set_option maxRecDepth 10000 in
theorem checkPartsP_bad (V F : Int) (s : Option Addr) (c : List Ins) (cap : Nat) (x : Pic) (vs : Option Addr) (vc : Nat) (fs : Option Addr) (fc : Nat) (w : World) (hc : CodeAt w s c) (hP : PicAt w x vs fs) (hvc : x.vars.length ≤ vc) (hvm : vc ≤ maxLen) (h0 : ckProg V F c = 0) (hf : formedPic V F c x = false) :
    Calls Tryz.prog 109 #[pv V F s c cap, xv x vs vc fs fc] w fun e w' => e = .returned (.int .i64 (ckPic V F c x)) ∧ Below w.heap.size w w' := by
  obtain ⟨-, -, h60⟩ := ckProg_lim h0
  have B0 : Below w.heap.size w ((w.alloc (.cells #[.int .i64 V, .int .i64 F, .slice s c.length cap] 24)).alloc (.cells #[.bool x.none, .slice vs x.vars.length vc, .slice fs x.flds.length fc] 58)) := by go_grown
  have HI := hideH (isFormed_any V F s c cap x vs vc fs fc ((w.alloc (.cells #[.int .i64 V, .int .i64 F, .slice s c.length cap] 24)).alloc (.cells #[.bool x.none, .slice vs x.vars.length vc, .slice fs x.flds.length fc] 58)) (hP.below B0 (Nat.le_refl _)) h60)
  have er : ckPic V F c x = 1 := by unfold ckPic; rw [if_pos hf]
  rw [er]
  rw [hf] at HI
  clear hP hc er hf
  go_enter Tryz.func109, Tryz.ntmps109
  go_wp2_with (go_at_call 135; fail)
  refine HI.out.mono ?_
  rintro e w1 ⟨rfl, hb1⟩
  go_wp2
  go_ret
  exact ⟨rfl, B0.trans (hb1.mono B0.size)⟩

set_option maxHeartbeats 8000000 in
set_option maxRecDepth 20000 in
theorem checkPartsP_ok (V F : Int) (s : Option Addr) (c : List Ins) (cap : Nat) (x : Pic) (vs : Option Addr) (vc : Nat) (fs : Option Addr) (fc : Nat) (w : World) (hc : CodeAt w s c) (hP : PicAt w x vs fs) (hvc : x.vars.length ≤ vc) (hvm : vc ≤ maxLen) (h0 : ckProg V F c = 0) (hf : formedPic V F c x = true) :
    Calls Tryz.prog 109 #[pv V F s c cap, xv x vs vc fs fc] w fun e w' => e = .returned (.int .i64 (ckPic V F c x)) ∧ Below w.heap.size w w' := by
  obtain ⟨-, -, h60⟩ := ckProg_lim h0
  obtain ⟨hal, hfl⟩ := formedPic_len h0 hf
  have B0 : Below w.heap.size w ((w.alloc (.cells #[.int .i64 V, .int .i64 F, .slice s c.length cap] 24)).alloc (.cells #[.bool x.none, .slice vs x.vars.length vc, .slice fs x.flds.length fc] 58)) := by go_grown
  have P0 := (PrAt.new w V F s c cap).call (w' := ((w.alloc (.cells #[.int .i64 V, .int .i64 F, .slice s c.length cap] 24)).alloc (.cells #[.bool x.none, .slice vs x.vars.length vc, .slice fs x.flds.length fc] 58))) (by go_grown)
  have A0 := XAt.new (w.alloc (.cells #[.int .i64 V, .int .i64 F, .slice s c.length cap] 24)) x vs vc fs fc
  rw [World.size_alloc] at A0
  have PX := hP.below B0 (Nat.le_refl _)
  have HI := hideH (isFormed_any V F s c cap x vs vc fs fc ((w.alloc (.cells #[.int .i64 V, .int .i64 F, .slice s c.length cap] 24)).alloc (.cells #[.bool x.none, .slice vs x.vars.length vc, .slice fs x.flds.length fc] 58)) PX h60)
  rw [hf] at HI
  have HA : Hid (∀ wx, PicAt wx x vs fs → Calls Tryz.prog 71 #[xv x vs vc fs fc] wx fun e w' => RowR w' e (allPic x) ∧ Below wx.heap.size wx w') := fun wx hx => allP_any x vs vc fs fc wx hx hvc hvm (by omega) hal
  have HS := hideH isSomething_any
  have HG : Hid (∀ g ss gc wx, CodeAt wx s c → IntsAt wx ss g.s → g.s.length ≤ gc → gc ≤ maxLen → Calls Tryz.prog 18 #[pv V F s c cap, gv g ss gc] wx fun e w' => e = .returned (.int .i64 (ckGs c g)) ∧ Below wx.heap.size wx w') := fun g ss gc wx h1 h2 h3 h4 => by rw [← ckAllG_uno (V := V) (F := F) h0]; exact checkG_any V F s c cap g ss gc wx h1 h2 h3 h4
  have HCS := hideH containsSome_any
  obtain ⟨res, HR, hres⟩ : ∃ r, Hid (r = if ckGss c (allPic x) ≠ 0 then ckGss c (allPic x) else if strayAt c someGs 0 x.flds then 4 else 0) ∧ ckPic V F c x = r := ⟨_, rfl, by rw [ckPic_some, hf]; rfl⟩
  rw [hres]
  have HC := hideH (hc.below B0 (Nat.le_refl _))
  clear hres hP hc hf hvc hvm
  obtain ⟨all, eall⟩ : ∃ all, all = allPic x := ⟨_, rfl⟩
  rw [← eall] at HR HA hal
  clear eall
  go_enter Tryz.func109, Tryz.ntmps109
  go_wp2_with (go_at_call 135; fail)
  generalize ((w.alloc (.cells #[.int .i64 V, .int .i64 F, .slice s c.length cap] 24)).alloc (.cells #[.bool x.none, .slice vs x.vars.length vc, .slice fs x.flds.length fc] 58)) = w1 at *
  refine HI.out.mono ?_
  rintro e w2 ⟨rfl, hb2⟩
  clear HI
  obtain ⟨⟨a0, a1, a2⟩, az, -⟩ := id (A0.call hb2)
  go_wp2_with (go_at_call 71; fail)
  refine (HA.out _ (PX.call hb2)).mono ?_
  rintro e w3 ⟨⟨rs, rc, rfl, GA, k1, k2⟩, hb3⟩
  clear HA a0 a1 a2 az
  have hb13 := hb2.trans (hb3.mono hb2.size)
  have P3 := P0.call hb13
  have A3 := A0.call hb13
  have C3 := HC.out.call hb13
  have R3 := PX.2.below hb13 (Nat.le_refl _)
  have B3 := B0.trans (hb13.mono B0.size)
  clear P0 A0 PX HC hb13 hb2 hb3 B0
  go_wp2
  go_loopw [17] (fun i wr => ∃ k : Nat, k ≤ all.length ∧ i = .int .i64 k ∧ Below w3.heap.size w3 wr ∧ Hid (ckGss c all = ckGss c (all.drop k))) (fun i _ => all.length - (intOf i).toNat)
  case atStart => exact ⟨0, Nat.zero_le _, rfl, Below.refl _ _, rfl⟩
  case round =>
    obtain ⟨k, hk, rfl, hbr, HK⟩ := hrel
    by_cases hlt : k < all.length
    · have n0 : (0 : Int) ≤ (k : Int) := by omega
      have n1 : (k : Int) < (all.length : Int) := by omega
      obtain ⟨b, off, rfl, ss, gc, GR, IR, g1, g2⟩ := GA.below hbr (Nat.le_refl _) k hlt
      have HD := hideH (ckGss_drop c all k hlt)
      obtain ⟨⟨q0, q1, q2, q3, q4, q5, q6⟩, qz⟩ := id GR
      have G4 := GuAt.new wr all[k] ss gc
      have hb4 : Below wr.heap.size wr (wr.alloc (.cells #[.bool all[k].n, .bool all[k].sp.n, .int .i64 all[k].sp.lo, .int .i64 all[k].sp.hi, .bool all[k].t, .bool all[k].f, .slice ss all[k].s.length gc] 29)) := by go_grown
      have I4 := IR.call hb4
      go_wp2_with (go_at_call 136; fail)
      generalize wr.alloc (.cells #[.bool all[k].n, .bool all[k].sp.n, .int .i64 all[k].sp.lo, .int .i64 all[k].sp.hi, .bool all[k].t, .bool all[k].f, .slice ss all[k].s.length gc] 29) = w4 at *
      refine (HS.out all[k] ss gc _ I4 (Nat.le_trans g1 g2)).mono ?_
      rintro e w5 ⟨rfl, hb5⟩
      clear q0 q1 q2 q3 q4 q5 q6 qz GR IR
      have G5 := G4.call hb5
      have I5 := I4.call hb5
      have hb45 : Below wr.heap.size wr w5 := hb4.trans (hb5.mono hb4.size)
      have hb35 := hbr.trans (hb45.mono hbr.size)
      clear hb4 hb5 G4 I4
      rcases (show someGs all[k] = false ∨ someGs all[k] = true by cases someGs all[k] <;> simp) with hs | hs <;> have HSG := hideH hs <;> rw [hs] <;> clear hs
      · have HZ : Hid (ckGs c all[k] = 0) := by
          show _ = _
          have h1 := HSG.out
          unfold someGs at h1
          have h2 : sameGs all[k] noneG = true := by simpa using h1
          rw [sameGs_iff.1 h2]
          rfl
        go_wp2
        go_roundw
        case rel => exact ⟨k + 1, by omega, by go_num, hb35, by show _ = _; rw [HK.out, HD.out, if_pos HZ.out]⟩
        case measure => simp [intOf]; omega
      · obtain ⟨⟨p0, p1, p2⟩, pz⟩ := id (P3.call hb35)
        obtain ⟨⟨q0, q1, q2, q3, q4, q5, q6⟩, qz⟩ := id G5
        simp only [Nat.zero_add] at q0 q1 q2 q3 q4 q5 q6
        go_wp2_with (go_at_call 18; fail)
        refine (HG.out all[k] ss gc _ (C3.call hb35) I5 g1 g2).mono ?_
        rintro e w6 ⟨rfl, hb6⟩
        have hb36 := hb35.trans (hb6.mono hb35.size)
        clear p0 p1 p2 pz q0 q1 q2 q3 q4 q5 q6 qz
        generalize ckGs c all[k] = ce at *
        by_cases hz : ce = 0
        · have e1 : (ce != 0) = false := by simpa using hz
          go_wp2
          go_roundw
          case rel => exact ⟨k + 1, by omega, by go_num, hb36, by show _ = _; rw [HK.out, HD.out, if_pos hz]⟩
          case measure => simp [intOf]; omega
        · have e1 : (ce != 0) = true := by simpa using hz
          go_wp2
          go_ret
          refine ⟨ret_int ?_, B3.trans (hb36.mono B3.size)⟩
          rw [HR.out, HK.out, HD.out, if_neg hz, if_pos hz]
    · have n1 : ¬ (k : Int) < (all.length : Int) := by omega
      have HZ : Hid (ckGss c all = 0) := by show _ = _; rw [HK.out, List.drop_eq_nil_of_le (by omega)]; rfl
      have HR2 : Hid (res = if strayAt c someGs 0 x.flds then 4 else 0) := by show _ = _; rw [HR.out, HZ.out]; rfl
      have P4 := P3.call hbr
      have A4 := A3.call hbr
      have C4 := C3.call hbr
      have R4 := R3.below hbr (Nat.le_refl _)
      have B4 := B3.trans (hbr.mono B3.size)
      generalize wr = w4 at *
      clear wr P3 A3 C3 R3 B3 HK HR HZ GA hbr
      obtain ⟨⟨a0, a1, a2⟩, az, -⟩ := id A4
      go_wp2
      clear a0 a1 a2 az
      go_loopw [34] (fun i wr => ∃ k : Nat, k ≤ x.flds.length ∧ i = .int .i64 k ∧ Below w4.heap.size w4 wr ∧ Hid (strayAt c someGs 0 x.flds = strayAt c someGs k (x.flds.drop k))) (fun i _ => x.flds.length - (intOf i).toNat)
      case atStart => exact ⟨0, Nat.zero_le _, rfl, Below.refl _ _, rfl⟩
      case round =>
        obtain ⟨k2, hk2, rfl, hbq, HT⟩ := hrel
        by_cases hlt2 : k2 < x.flds.length
        · have n0 : (0 : Int) ≤ (k2 : Int) := by omega
          have n2 : (k2 : Int) < (x.flds.length : Int) := by omega
          have hkc : k2 < c.length := by omega
          have n3 : (k2 : Int) < (c.length : Int) := by omega
          have HU := hideH (strayAt_step c someGs x.flds k2 hlt2)
          obtain ⟨⟨p0, p1', p2⟩, pz⟩ := id (P4.call hbq)
          obtain ⟨p1, q1, e1, zp1, r1, rc1, D1, l1, l2, J1⟩ := (R4.below hbq (Nat.le_refl _)) k2 hlt2
          obtain ⟨cb, co, e2, zc, hcc⟩ := (C4.call hbq).get k2 hkc
          subst e1 e2
          obtain ⟨i0, -⟩ := hcc k2 hkc
          have HST := hideH (isSite_at hkc)
          have hrl : x.flds[k2].length ≤ 9223372036854775807 := by unfold maxLen at l2; omega
          clear hcc
          by_cases h11 : c[k2].k = 11
          · have e11 : (c[k2].k != 11) = false := by simpa using h11
            go_wp2
            go_roundw
            case rel => exact ⟨k2 + 1, by omega, by go_num, hbq, by show _ = _; rw [HT.out, HU.out, HST.out, decide_eq_true h11]; rfl⟩
            case measure => simp [intOf]; omega
          · have e11 : (c[k2].k != 11) = true := by simpa using h11
            go_wp2_with (go_at_call 128; fail)
            refine (HCS.out r1 x.flds[k2] rc1 _ hrl J1).mono ?_
            rintro e w5 ⟨rfl, hb5⟩
            have hb45 := hbq.trans (hb5.mono hbq.size)
            rcases (show x.flds[k2].any someGs = false ∨ x.flds[k2].any someGs = true by cases x.flds[k2].any someGs <;> simp) with hs | hs <;> have HSG := hideH hs <;> rw [hs] <;> clear hs
            · go_wp2
              go_roundw
              case rel => exact ⟨k2 + 1, by omega, by go_num, hb45, by show _ = _; rw [HT.out, HU.out, HSG.out]; simp⟩
              case measure => simp [intOf]; omega
            · go_wp2
              go_ret
              refine ⟨ret_int ?_, B4.trans (hb45.mono B4.size)⟩
              rw [HR2.out, HT.out, HU.out, HSG.out, HST.out, decide_eq_false h11]
              rfl
        · have n2 : ¬ (k2 : Int) < (x.flds.length : Int) := by omega
          go_wp2
          go_ret
          refine ⟨ret_int ?_, B4.trans (hbq.mono B4.size)⟩
          rw [HR2.out, HT.out, List.drop_eq_nil_of_le (by omega)]
          rfl

theorem checkPartsP_any (V F : Int) (s : Option Addr) (c : List Ins) (cap : Nat) (x : Pic) (vs : Option Addr) (vc : Nat) (fs : Option Addr) (fc : Nat) (w : World) (hc : CodeAt w s c) (hP : PicAt w x vs fs) (hvc : x.vars.length ≤ vc) (hvm : vc ≤ maxLen) (h0 : ckProg V F c = 0) :
    Calls Tryz.prog 109 #[pv V F s c cap, xv x vs vc fs fc] w fun e w' => e = .returned (.int .i64 (ckPic V F c x)) ∧ Below w.heap.size w w' := by
  rcases (show formedPic V F c x = false ∨ formedPic V F c x = true by cases formedPic V F c x <;> simp) with hf | hf
  · exact checkPartsP_bad V F s c cap x vs vc fs fc w hc hP hvc hvm h0 hf
  · exact checkPartsP_ok V F s c cap x vs vc fs fc w hc hP hvc hvm h0 hf
end Go.Proofs.YtmapdpcfanecdaaGreat
