/- Walks over the document's own answers: the check of a guess. -/
import Derived.Test.YtmapdpcfanecdaaGreatKguyp23
namespace Go.Proofs.YtmapdpcfanecdaaGreat
set_option linter.unusedVariables false
set_option linter.unusedSimpArgs false
open Go.RowKit

set_option maxHeartbeats 4000000 in
set_option maxRecDepth 10000 in
theorem checkGuess_any (V F : Int) (s : Option Addr) (c : List Ins) (cap : Nat) (g : Gs) (ss : Option Addr) (gc : Nat) (w : World) (hc : CodeAt w s c) (hl : c.length ≤ 60) (hs : IntsAt w ss g.s) (hgl : g.s.length ≤ 9223372036854775807) :
    Calls Tryz.prog 47 #[pv V F s c cap, gv g ss gc] w fun e w' => e = .returned (.int .i64 (ckGs c g)) ∧ Below w.heap.size w w' := by
  have P0 : PrAt (pgW w V F s c cap g ss gc) w.heap.size V F s c cap := (PrAt.new w V F s c cap).alloc _
  have G0 : GuAt (pgW w V F s c cap g ss gc) (w.heap.size + 1) 0 g ss gc := by
    have := GuAt.new (w.alloc (.cells #[.int .i64 V, .int .i64 F, .slice s c.length cap] 24)) g ss gc
    simpa using this
  have C0 : CodeAt (pgW w V F s c cap g ss gc) s c := (hc.alloc _).alloc _
  have I0 : IntsAt (pgW w V F s c cap g ss gc) ss g.s := (hs.alloc _).alloc _
  have B0 : Below w.heap.size w (pgW w V F s c cap g ss gc) := by go_grown
  have HR : Hid (ckGs c g = if ckSp g.sp ≠ 0 then ckSp g.sp else if g.s.all (isSite c) = false then 5 else if rising g.s = false then 4 else 0) := rfl
  go_enter Tryz.func47, Tryz.ntmps47
  go_wp2_with (go_at_call 92; fail)
  refine (checkSpan_any g.sp _).mono ?_
  rintro e w1 ⟨rfl, hb1⟩
  have P1 := P0.call hb1
  have G1 := G0.call hb1
  have C1 := C0.call hb1
  have I1 := I0.call hb1
  have B1 : Below w.heap.size w w1 := B0.trans (hb1.mono (by simp; omega))
  clear hb1 P0 G0 C0 I0 B0 hc hs
  by_cases hsp : ckSp g.sp = 0
  · have HF0 : Hid (ckGs c g = if g.s.all (isSite c) = false then 5 else if rising g.s = false then 4 else 0) := by show _ = _; rw [HR.out, if_neg (by simpa using hsp)]
    rw [hsp]
    clear HR
    go_wp2
    go_loopw [6] (fun i wr => ∃ k : Nat, k ≤ g.s.length ∧ i = .int .i64 k ∧ PrAt wr w.heap.size V F s c cap ∧ GuAt wr (w.heap.size + 1) 0 g ss gc ∧ CodeAt wr s c ∧ IntsAt wr ss g.s ∧ Below w.heap.size w wr ∧ Hid (∀ j (h : j < g.s.length), j < k → isSite c g.s[j] = true)) (fun i _ => g.s.length - (intOf i).toNat)
    case atStart => exact ⟨0, Nat.zero_le _, rfl, P1, G1, C1, I1, B1, fun j h h' => by omega⟩
    case round =>
      obtain ⟨k, hk, rfl, PR, GR, CR, IR, BR, HK⟩ := hrel
      clear P1 G1 C1 I1 B1
      obtain ⟨⟨p0, p1, p2⟩, p3⟩ := id PR
      obtain ⟨⟨g0, g1, g2, g3, g4, g5, g6⟩, gz⟩ := id GR
      simp only [Nat.zero_add] at g0 g1 g2 g3 g4 g5 g6
      by_cases hlt : k < g.s.length
      · obtain ⟨b, off, rfl, hb, hcell⟩ := IR.get k hlt
        have c0 := hcell k hlt
        have n0 : (0 : Int) ≤ (k : Int) := by omega
        have n1 : (k : Int) < (g.s.length : Int) := by omega
        have KS : ∀ wx, Below wr.heap.size wr wx → (wx.cell? ⟨w.heap.size, 0, none⟩ = some (.int .i64 V) ∧ wx.cell? ⟨w.heap.size, 1, none⟩ = some (.int .i64 F) ∧ wx.cell? ⟨w.heap.size, 2, none⟩ = some (.slice s c.length cap)) ∧ wx.cell? ⟨w.heap.size + 1, 6, none⟩ = some (.slice (some ⟨b, off, none⟩) g.s.length gc) ∧ wx.cell? ⟨b, off + k, none⟩ = some (.int .i64 g.s[k]) := by
          intro wx hbx
          rw [hbx.cell (by simpa using p3), hbx.cell (by simpa using p3), hbx.cell (by simpa using p3), hbx.cell (by simpa using gz), hbx.cell (by simpa using hb)]
          exact ⟨⟨p0, p1, p2⟩, g6, c0⟩
        clear hcell
        go_wp2
        go_region_held3 (fun wx => (wx.cell? ⟨w.heap.size, 0, none⟩ = some (.int .i64 V) ∧ wx.cell? ⟨w.heap.size, 1, none⟩ = some (.int .i64 F) ∧ wx.cell? ⟨w.heap.size, 2, none⟩ = some (.slice s c.length cap)) ∧ wx.cell? ⟨w.heap.size + 1, 6, none⟩ = some (.slice (some ⟨b, off, none⟩) g.s.length gc) ∧ wx.cell? ⟨b, off + k, none⟩ = some (.int .i64 g.s[k]))
          (first | with_reducible exact KS _ (Below.refl _ _).drew | with_reducible exact KS _ HB)
          ((go_at_call 80; refine (isSite_any V F s c cap g.s[k] _ (CR.call (Below.refl _ _).drew) hl).mono ?_; rintro e w2 ⟨rfl, hb2⟩; have HB : Below wr.heap.size wr w2 := (Below.refl _ _).drew.trans (hb2.mono (Nat.le_refl _))))
        have P2 := PR.call HB
        have G2 := GR.call HB
        have C2 := CR.call HB
        have I2 := IR.call HB
        have B2 := BR.trans (HB.mono BR.size)
        clear hb2 PR GR CR IR BR HB KS p0 p1 p2 g0 g1 g2 g3 g4 g5 g6
        cases hS : isSite c g.s[k] with
        | true =>
          go_wp2
          go_roundw
          case rel =>
            refine ⟨k + 1, by omega, by go_num, P2, G2, C2, I2, B2, fun j h h' => ?_⟩
            by_cases e : j = k
            · subst e; exact hS
            · exact HK.out j h (by omega)
          case measure => simp [intOf]; omega
        | false =>
          have HF : Hid (ckGs c g = 5) := by
            show _ = _
            rw [HF0.out, if_pos]
            rw [Bool.eq_false_iff]
            intro hx
            have := List.all_eq_true.1 hx g.s[k] (List.getElem_mem _)
            rw [hS] at this
            cases this
          go_wp2
          go_ret
          exact ⟨ret_int HF.out.symm, B2⟩
      · have hall : g.s.all (isSite c) = true := by
          rw [List.all_eq_true]
          intro x hx
          obtain ⟨j, hj, rfl⟩ := List.getElem_of_mem hx
          exact HK.out j hj (by omega)
        have HF : Hid (ckGs c g = if rising g.s = false then 4 else 0) := by show _ = _; rw [HF0.out, if_neg (by simp [hall])]
        have HQ := hideH (rising_iff g.s)
        clear HF0 hall HK
        go_wp2
        go_loopw [7] (fun i wx => ∃ k : Nat, 1 ≤ k ∧ i = .int .i64 k ∧ k ≤ g.s.length + 1 ∧ wx.cell? ⟨w.heap.size + 1, 6, none⟩ = some (.slice ss g.s.length gc) ∧ w.heap.size + 1 < wx.heap.size ∧ IntsAt wx ss g.s ∧ Below w.heap.size w wx ∧ Hid (∀ j (h : j + 1 < g.s.length), j + 1 < k → g.s[j] < g.s[j + 1])) (fun i _ => g.s.length + 1 - (intOf i).toNat)
        case atStart => exact ⟨1, Nat.le_refl _, rfl, by omega, g6, gz, IR, BR, fun j h h' => by omega⟩
        case round =>
          obtain ⟨q, hk1, rfl, hk2, r6, rz, IX, BX, HX⟩ := hrel
          clear PR GR CR IR BR p0 p1 p2 g0 g1 g2 g3 g4 g5 g6
          by_cases hlq : q < g.s.length
          · obtain ⟨b, off, rfl, hb, hcell⟩ := IX.get q hlq
            have c0 := hcell (q - 1) (by omega)
            have c1 := hcell q hlq
            have t1 : ((q : Int) - 1).toNat = q - 1 := by omega
            have n0 : (0 : Int) ≤ (q : Int) - 1 := by omega
            have n1 : (q : Int) - 1 < (g.s.length : Int) := by omega
            have n2 : (0 : Int) ≤ (q : Int) := by omega
            have n3 : (q : Int) < (g.s.length : Int) := by omega
            clear hcell
            by_cases hr : g.s[q - 1] < g.s[q]
            · go_wp2
              go_quiet (fail)
              go_wp2
              go_roundw
              case rel =>
                refine ⟨q + 1, by omega, by go_num, by omega, ?_, ?_, IX.drewN _, below_drewN BX _, fun j h h' => ?_⟩
                · rw [← r6]; exact (below_drewN (Below.refl (w.heap.size + 2) _) _).cell (by simp)
                · exact Nat.lt_of_lt_of_le rz (below_drewN (Below.refl (w.heap.size + 2) _) _).size
                · by_cases e : j + 1 = q
                  · subst e; exact hr
                  · exact HX.out j h (by omega)
              case measure => simp [intOf]; omega
            · have HG : Hid (rising g.s = false) := by
                show _ = _
                rw [Bool.eq_false_iff]
                intro hx
                have := HQ.out.1 hx (q - 1) (by omega)
                have e : q - 1 + 1 = q := by omega
                simp only [e] at this
                exact hr this
              clear HQ
              go_wp2
              go_quiet (fail)
              go_wp2
              go_ret
              exact ⟨ret_int (by rw [HF.out, if_pos HG.out]), below_drewN BX _⟩
          · go_wp2
            go_ret
            refine ⟨ret_int ?_, BX⟩
            rw [HF.out, if_neg]
            have : rising g.s = true := HQ.out.2 fun j h => HX.out j h (by omega)
            simp [this]
  · have HF : Hid (ckGs c g = ckSp g.sp) := by show _ = _; rw [HR.out, if_pos hsp]
    have hne : (ckSp g.sp != 0) = true := by simpa using hsp
    clear HR
    go_wp2
    go_ret
    exact ⟨ret_int HF.out.symm, B1⟩

set_option maxHeartbeats 4000000 in
set_option maxRecDepth 10000 in
theorem checkGuesses_any (V F : Int) (s : Option Addr) (c : List Ins) (cap : Nat) (ls : Option Addr) (L : List Gs) (lc : Nat) (w : World) (hc : CodeAt w s c) (hL : GsAt w ls L) (hl : L.length ≤ 9223372036854775807) :
    Calls Tryz.prog 12 #[pv V F s c cap, .slice ls L.length lc] w fun e w' => e = .returned (.int .i64 (ckAllG V F c L)) ∧ Below w.heap.size w w' := by
  have P0 := PrAt.new w V F s c cap
  have C0 := hc.alloc (.cells #[.int .i64 V, .int .i64 F, .slice s c.length cap] 24)
  have L0 := hL.alloc (.cells #[.int .i64 V, .int .i64 F, .slice s c.length cap] 24)
  have B0 : Below w.heap.size w (w.alloc (.cells #[.int .i64 V, .int .i64 F, .slice s c.length cap] 24)) := by go_grown
  have HR : Hid (ckAllG V F c L = if ckProg V F c = 0 then ckGss c L else ckProg V F c) := rfl
  clear hc hL
  generalize ckAllG V F c L = res at HR ⊢
  go_enter Tryz.func12, Tryz.ntmps12
  go_wp2_with (go_at_call 26; fail)
  refine (checkProgram_any V F s cap c _ C0).mono ?_
  rintro e w1 ⟨rfl, hb1⟩
  have P1 := P0.call hb1
  have C1 := C0.call hb1
  have L1 := L0.call hb1
  have B1 : Below w.heap.size w w1 := B0.trans (hb1.mono (by simp))
  clear hb1 P0 C0 L0 B0
  have H60 : Hid (ckProg V F c = 0 → c.length ≤ 60) := fun h => ckProg_60 h
  generalize ckProg V F c = cp at HR H60 ⊢
  go_wp2
  go_loopw [5, 6] (fun e i wr => ∃ (k : Nat) (ce : Int), k ≤ L.length ∧ i = .int .i64 k ∧ e = .int .i64 ce ∧ PrAt wr w.heap.size V F s c cap ∧ CodeAt wr s c ∧ GsAt wr ls L ∧ Below w.heap.size w wr ∧ Hid (res = if ce = 0 then ckGss c (L.drop k) else ce) ∧ Hid (ce = 0 → c.length ≤ 60)) (fun _ i _ => L.length - (intOf i).toNat)
  case atStart => exact ⟨0, cp, Nat.zero_le _, rfl, rfl, P1, C1, L1, B1, HR, H60⟩
  case round =>
    obtain ⟨k, ce, hk, rfl, rfl, PR, CR, LR, BR, HK, HL⟩ := hrel
    clear P1 C1 L1 B1 HR H60
    by_cases hlt : k < L.length
    · have n1 : (k : Int) < (L.length : Int) := by omega
      by_cases hz : ce = 0
      · subst hz
        have h60 := HL.out rfl
        have HS := hideH (ckGss_drop c L k hlt)
        have HK0 : Hid (res = ckGss c (L.drop k)) := by show _ = _; rw [HK.out, if_pos rfl]
        clear HK HL
        obtain ⟨b, off, rfl, ss, gc, GR, IR, hg1, hg2⟩ := LR k hlt
        obtain ⟨⟨p0, p1, p2⟩, p3⟩ := id PR
        obtain ⟨⟨g0, g1, g2, g3, g4, g5, g6⟩, gz⟩ := id GR
        have n0 : (0 : Int) ≤ (k : Int) := by omega
        unfold maxLen at hg2
        have KS : ∀ wx, Below wr.heap.size wr wx → (wx.cell? ⟨w.heap.size, 0, none⟩ = some (.int .i64 V) ∧ wx.cell? ⟨w.heap.size, 1, none⟩ = some (.int .i64 F) ∧ wx.cell? ⟨w.heap.size, 2, none⟩ = some (.slice s c.length cap)) ∧ (wx.cell? ⟨b, off + k * 7, none⟩ = some (.bool L[k].n) ∧ wx.cell? ⟨b, off + k * 7 + 1, none⟩ = some (.bool L[k].sp.n) ∧ wx.cell? ⟨b, off + k * 7 + 2, none⟩ = some (.int .i64 L[k].sp.lo) ∧ wx.cell? ⟨b, off + k * 7 + 3, none⟩ = some (.int .i64 L[k].sp.hi) ∧ wx.cell? ⟨b, off + k * 7 + 4, none⟩ = some (.bool L[k].t) ∧ wx.cell? ⟨b, off + k * 7 + 5, none⟩ = some (.bool L[k].f) ∧ wx.cell? ⟨b, off + k * 7 + 6, none⟩ = some (.slice ss L[k].s.length gc)) := fun wx hbx => ⟨(PR.call hbx).1, (GR.call hbx).1⟩
        go_wp2
        go_region_held3 (fun wx => (wx.cell? ⟨w.heap.size, 0, none⟩ = some (.int .i64 V) ∧ wx.cell? ⟨w.heap.size, 1, none⟩ = some (.int .i64 F) ∧ wx.cell? ⟨w.heap.size, 2, none⟩ = some (.slice s c.length cap)) ∧ (wx.cell? ⟨b, off + k * 7, none⟩ = some (.bool L[k].n) ∧ wx.cell? ⟨b, off + k * 7 + 1, none⟩ = some (.bool L[k].sp.n) ∧ wx.cell? ⟨b, off + k * 7 + 2, none⟩ = some (.int .i64 L[k].sp.lo) ∧ wx.cell? ⟨b, off + k * 7 + 3, none⟩ = some (.int .i64 L[k].sp.hi) ∧ wx.cell? ⟨b, off + k * 7 + 4, none⟩ = some (.bool L[k].t) ∧ wx.cell? ⟨b, off + k * 7 + 5, none⟩ = some (.bool L[k].f) ∧ wx.cell? ⟨b, off + k * 7 + 6, none⟩ = some (.slice ss L[k].s.length gc)))
          (first | with_reducible exact KS _ (Below.refl _ _).drew | with_reducible exact KS _ HB)
          ((go_at_call 47; refine (checkGuess_any V F s c cap L[k] ss gc _ (CR.call (Below.refl _ _).drew) h60 (IR.call (Below.refl _ _).drew) (by omega)).mono ?_; rintro e w2 ⟨rfl, hb2⟩; have HB : Below wr.heap.size wr w2 := (Below.refl _ _).drew.trans (hb2.mono (Nat.le_refl _))))
        have P2 := PR.call HB
        have C2 := CR.call HB
        have L2 := LR.call HB
        have B2 := BR.trans (HB.mono BR.size)
        clear hb2 PR GR CR LR IR BR HB KS p0 p1 p2 g0 g1 g2 g3 g4 g5 g6
        go_wp2
        go_roundw
        case rel => exact ⟨k + 1, ckGs c L[k], by omega, by go_num, rfl, P2, C2, L2, B2, by show _ = _; rw [HK0.out, HS.out], fun _ => h60⟩
        case measure => simp [intOf]; omega
      · have hz' : (ce == 0) = false := by simpa using hz
        go_wp2
        go_ret
        exact ⟨ret_int (by rw [HK.out, if_neg hz]), BR⟩
    · go_wp2
      go_ret
      refine ⟨ret_int ?_, BR⟩
      rw [HK.out, List.drop_eq_nil_of_le (by omega)]
      by_cases hz : ce = 0
      · rw [if_pos hz, hz]; rfl
      · rw [if_neg hz]
end Go.Proofs.YtmapdpcfanecdaaGreat
