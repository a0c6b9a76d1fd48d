/- The law's own helpers on pictures: pictureIs, pictureBegun. -/
import Derived.Test.YtmapdpcfanecdaaGreatKpicyp40
import Derived.Test.YtmapdpcfanecdaaGreatKpicyp47
import Derived.Test.YtmapdpcfanecdaaGreatKpicyp03
import Derived.Test.YtmapdpcfanecdaaGreatKpicyp21
import Derived.Test.YtmapdpcfanecdaaGreatKpicyp09
import Derived.Test.YtmapdpcfanecdaaGreatKpicyp48
import Derived.Deep.DeepCutAuto
namespace Go.Proofs.YtmapdpcfanecdaaGreat
set_option linter.unusedVariables false
set_option linter.unusedSimpArgs false
open Go.RowKit
attribute [local go_sem ↓] Go.wp_at_zero Go.wp_at_succ

def begP : Pic := ⟨false, [nullG], [[], []]⟩
theorem begP_eq : firstPic 1 0 smallC = begP := rfl
theorem begunBegin (b : Nat) (w : World) (hc : CodeAt w (some ⟨b, 0, none⟩) smallC) :
    Calls Tryz.prog 22 #[pv 1 0 (some ⟨b, 0, none⟩) smallC 2] w fun e w' => ∃ vs vc fs fc, e = .returned (.tuple #[(.agg #[.bool false, .slice vs 1 vc, .slice fs 2 fc]), .int .i64 0]) ∧ PicAt w' begP vs fs ∧ (1 ≤ vc ∧ vc ≤ maxLen) ∧ (2 ≤ fc ∧ fc ≤ maxLen) ∧ Below w.heap.size w w' := by
  have h := beginPU 1 0 (some ⟨b, 0, none⟩) smallC 2 w hc
  have e0 : ckProg 1 0 smallC = 0 := by decide +kernel
  rw [e0, if_pos rfl, begP_eq] at h
  refine h.mono ?_
  rintro e w' ⟨⟨vs, vc, fs, fc, rfl, hp, h2, h3⟩, hb⟩
  exact ⟨vs, vc, fs, fc, rfl, hp.at, h2, h3, hb⟩
theorem begunRun (b : Nat) (w : World) (hc : CodeAt w (some ⟨b, 0, none⟩) smallC) :
    Calls Tryz.prog 76 #[pv 1 0 (some ⟨b, 0, none⟩) smallC 2] w fun e w' => ∃ rv rvc rt rtc rl rlc, e = .returned (.tuple #[(.agg #[.int .i64 0, .slice rv 1 rvc, .slice rt 0 rtc, .int .i64 0, .slice rl 0 rlc, .int .i64 0]), .int .i64 0]) ∧ RunAt w' (beginSt 1) rv rt rl ∧ Below w.heap.size w w' := by
  have h := beginU 1 0 (some ⟨b, 0, none⟩) smallC 2 w hc
  have e0 : ckProg 1 0 smallC = 0 := by decide +kernel
  have e1 : begOf 1 0 smallC = beginSt 1 := by unfold begOf; rw [if_pos e0]
  rw [e0, e1] at h
  refine h.mono ?_
  rintro e w' ⟨⟨rv, rvc, rt, rtc, rl, rlc, rfl, hr⟩, hb⟩
  exact ⟨rv, rvc, rt, rtc, rl, rlc, rfl, hr, hb⟩
theorem begunShows (b : Nat) (vs : Option Addr) (vc : Nat) (fs : Option Addr) (fc : Nat) (rv : Option Addr) (rvc : Nat) (rt : Option Addr) (rtc : Nat) (rl : Option Addr) (rlc : Nat) (w : World) (hc : CodeAt w (some ⟨b, 0, none⟩) smallC) (hp : PicAt w begP vs fs) (h1 : 1 ≤ vc ∧ vc ≤ maxLen) (h2 : 2 ≤ fc ∧ fc ≤ maxLen) (hr : RunAt w (beginSt 1) rv rt rl) :
    Calls Tryz.prog 34 #[pv 1 0 (some ⟨b, 0, none⟩) smallC 2, (.agg #[.bool false, .slice vs 1 vc, .slice fs 2 fc]), (.agg #[.int .i64 0, .slice rv 1 rvc, .slice rt 0 rtc, .int .i64 0, .slice rl 0 rlc, .int .i64 0])] w fun e w' => e = .returned (.tuple #[.bool true, .int .i64 0]) ∧ Below w.heap.size w w' := by
  have h := holdsPU 1 0 (some ⟨b, 0, none⟩) smallC 2 begP vs vc fs fc (beginSt 1) rv rvc rt rtc rl rlc w hc hp h1 h2 ⟨by unfold maxLen; decide, by unfold maxLen; decide, by unfold maxLen; decide, fun t ht => by simp [beginSt] at ht⟩ hr
  have e0 : ckShow 1 0 smallC begP (beginSt 1) = 0 := by decide +kernel
  have e1 : showsPic begP (beginSt 1) = true := by decide +kernel
  rw [e0, if_pos rfl, e1] at h
  exact h
theorem begunPJoin (b : Nat) (vs : Option Addr) (vc : Nat) (fs : Option Addr) (fc : Nat) (w : World) (hc : CodeAt w (some ⟨b, 0, none⟩) smallC) (hp : PicAt w begP vs fs) (h1 : 1 ≤ vc ∧ vc ≤ maxLen) (h2 : 2 ≤ fc ∧ fc ≤ maxLen) :
    Calls Tryz.prog 23 #[pv 1 0 (some ⟨b, 0, none⟩) smallC 2, .agg #[.bool true, .slice none 0 0, .slice none 0 0], (.agg #[.bool false, .slice vs 1 vc, .slice fs 2 fc])] w fun e w' => ∃ us uc gs gc, e = .returned (.tuple #[.agg #[.bool false, .slice us 1 uc, .slice gs 2 gc], .int .i64 0]) ∧ PicOn (fun b => w.heap.size ≤ b) w' begP us gs ∧ Below w.heap.size w w' := by
  have h := joinPF 1 0 (some ⟨b, 0, none⟩) smallC 2 nonePic none 0 none 0 begP vs vc fs fc w hc ⟨fun i hi => absurd hi (by simp [nonePic]), fun i hi => absurd hi (by simp [nonePic])⟩ ⟨Nat.le_refl _, Nat.zero_le _⟩ ⟨Nat.le_refl _, Nat.zero_le _⟩ hp h1 h2
  have e0 : ckPics 1 0 smallC [nonePic, begP] = 0 := by decide +kernel
  have e1 : joinPic (togGs joinSp) nonePic begP = begP := rfl
  rw [e0, if_pos rfl, e1] at h
  refine h.mono ?_
  rintro e w' ⟨⟨us, uc, gs, gc, rfl, hp, -⟩, hb⟩
  exact ⟨us, uc, gs, gc, rfl, hp, hb⟩
theorem begunPCheck (b : Nat) (vs : Option Addr) (vc : Nat) (fs : Option Addr) (fc : Nat) (w : World) (hc : CodeAt w (some ⟨b, 0, none⟩) smallC) (hp : PicAt w begP vs fs) (h1 : 1 ≤ vc ∧ vc ≤ maxLen) (h2 : 2 ≤ fc ∧ fc ≤ maxLen) :
    Calls Tryz.prog 32 #[pv 1 0 (some ⟨b, 0, none⟩) smallC 2, (.agg #[.bool false, .slice vs 1 vc, .slice fs 2 fc])] w fun e w' => e = .returned (.int .i64 0) ∧ Below w.heap.size w w' := by
  have h := checkP_any 1 0 (some ⟨b, 0, none⟩) smallC 2 begP vs vc fs fc w hc hp h1 h2
  have e0 : ckPics 1 0 smallC [begP] = 0 := by decide +kernel
  rw [e0] at h
  exact h
theorem RunAt.call {w w' : World} {r : St} {vs ts ls : Option Addr} (h : RunAt w r vs ts ls) (hb : Below w.heap.size w w') : RunAt w' r vs ts ls := h.below hb (Nat.le_refl _)
/-- A picture that does not lie in a block. -/
def PicAway (w : World) (b : Nat) (x : Pic) (us gs : Option Addr) : Prop := PicOn (fun q => q ≠ b) w x us gs
theorem picAway_alloc {w : World} {x : Pic} {us gs : Option Addr} (h : PicAt w x us gs) (o : Obj) : PicAway (w.alloc o) w.heap.size x us gs := fun w2 hs hz => h.same (fun b hb => by rw [hs b (Nat.ne_of_lt hb) (by simp; omega)]; exact heap_alloc_old w o hb) (Nat.le_trans (by simp) hz)
set_option maxHeartbeats 8000000 in
set_option maxRecDepth 20000 in
theorem pictureBegun_any (w : World) : Calls Tryz.prog 31 #[] w fun e w' => e = .returned (.bool true) ∧ Below w.heap.size w w' := by
  go_enter Tryz.func31, Tryz.ntmps31
  go_wp2_with (go_at_call 52; fail)
  refine (small_any _).mono ?_
  rintro e w1 ⟨b1, rfl, C1, hb1⟩
  go_wp2_with (go_at_call 22; fail)
  refine (begunBegin _ _ C1).mono ?_
  rintro e w2 ⟨vs, vc, fs, fc, rfl, PX2, hv, hf, hb2⟩
  have B2 := hb1.trans (hb2.mono hb1.size)
  have hb3 : Below w2.heap.size w2 (w2.alloc (.cells #[.bool false, .slice vs 1 vc, .slice fs 2 fc] 58)) := by go_grown
  have X3' := X3.new w2 58 (.bool false) (.slice vs 1 vc) (.slice fs 2 fc)
  have PX3 := PX2.call hb3
  have B3 := B2.trans (hb3.mono B2.size)
  clear hb1 hb2 C1 PX2 B2 hb3
  go_wp2_with (go_at_call 52; fail)
  generalize w2.alloc (.cells #[.bool false, .slice vs 1 vc, .slice fs 2 fc] 58) = w3 at *
  generalize w2.heap.size = xb at *
  refine (small_any _).mono ?_
  rintro e w4 ⟨b4, rfl, C4, hb4⟩
  go_wp2_with (go_at_call 76; fail)
  refine (begunRun _ _ C4).mono ?_
  rintro e w5 ⟨rv, rvc, rt, rtc, rl, rlc, rfl, PR5, hb5⟩
  have hb45 := hb4.trans (hb5.mono hb4.size)
  have hb6 : Below w5.heap.size w5 (w5.alloc (.cells #[.int .i64 0, .slice rv 1 rvc, .slice rt 0 rtc, .int .i64 0, .slice rl 0 rlc, .int .i64 0] 76)) := by go_grown
  have hb46 := hb45.trans (hb6.mono hb45.size)
  have X6 := X3'.call hb46
  have PX6 := PX3.call hb46
  have B6 := B3.trans (hb46.mono B3.size)
  have PR6 := PR5.below hb6 (Nat.le_refl _)
  have Q6 := R6.new w5 76 (.int .i64 0) (.slice rv 1 rvc) (.slice rt 0 rtc) (.int .i64 0) (.slice rl 0 rlc) (.int .i64 0)
  clear hb4 hb5 hb45 hb6 hb46 C4 X3' PX3 B3 PR5
  go_upto_region 3 with fail
  generalize w5.alloc (.cells #[.int .i64 0, .slice rv 1 rvc, .slice rt 0 rtc, .int .i64 0, .slice rl 0 rlc, .int .i64 0] 76) = w6 at *
  generalize w5.heap.size = rb at *
  go_cut [5, 6] (fun t5 t6 wc => t5 = .bool true ∧ t6 = .int .i64 0 ∧ X3 wc xb (.bool false) (.slice vs 1 vc) (.slice fs 2 fc) ∧ PicAt wc begP vs fs ∧ Below w.heap.size w wc)
  case first =>
    rename_i J1 K1 hJ1 hK1
    have X7 : X3 w6.drew xb (.bool false) (.slice vs 1 vc) (.slice fs 2 fc) := X6
    have Q7 : R6 w6.drew rb (.int .i64 0) (.slice rv 1 rvc) (.slice rt 0 rtc) (.int .i64 0) (.slice rl 0 rlc) (.int .i64 0) := Q6
    have PX7 : PicAt w6.drew begP vs fs := PX6
    have PR7 : RunAt w6.drew (beginSt 1) rv rt rl := PR6
    have B7 := B6.drew
    refine wp_region_held_drew (S := (fun wx => (wx.cell? ⟨xb, 0, none⟩ = some (.bool false) ∧ wx.cell? ⟨xb, 1, none⟩ = some (.slice vs 1 vc) ∧ wx.cell? ⟨xb, 2, none⟩ = some (.slice fs 2 fc)) ∧ (wx.cell? ⟨rb, 0, none⟩ = some (.int .i64 0) ∧ wx.cell? ⟨rb, 1, none⟩ = some (.slice rv 1 rvc) ∧ wx.cell? ⟨rb, 2, none⟩ = some (.slice rt 0 rtc) ∧ wx.cell? ⟨rb, 3, none⟩ = some (.int .i64 0) ∧ wx.cell? ⟨rb, 4, none⟩ = some (.slice rl 0 rlc) ∧ wx.cell? ⟨rb, 5, none⟩ = some (.int .i64 0)))) (by kernel_rfl) ⟨X7.1, Q7.1⟩ (fun hHeld => ?_)
    clear X6 Q6 PX6 PR6 B6
    generalize w6.drew = w7 at *
    refine tkH 1 ?_ ?_ ?_
    rotate_left
    · exact rn
    (try simp only [Act.put, List.getElem_toArray, List.getElem_cons_zero, List.getElem_cons_succ, List.setIfInBounds_toArray, List.set_cons_zero, List.set_cons_succ])
    refine tkH 2 ?_ ?_ ?_
    rotate_left
    · exact rn
    (try simp only [Act.put, List.getElem_toArray, List.getElem_cons_zero, List.getElem_cons_succ, List.setIfInBounds_toArray, List.set_cons_zero, List.set_cons_succ])
    refine wpAnyH_ready (rs := [0]) (by kernel_rfl) (by simp) ?_
    refine AllReadyH.cons rfl (fun K hK => ?_) AllReadyH.nil
    go_simp
    refine (small_any _).mono ?_
    rintro e w8 ⟨b8, rfl, C8, hb8⟩
    have X8 := X7.call hb8
    have Q8 := Q7.call hb8
    have PX8 := PX7.call hb8
    have PR8 := PR7.call hb8
    have B8 := B7.trans (hb8.mono (B7.size))
    refine hK.out _ _ (⟨X8.1, Q8.1⟩) (fun hHeld8 => ?_)
    clear hK K hb8 X7 Q7 PX7 PR7 B7
    (try simp only [Act.put, List.getElem_toArray, List.getElem_cons_zero, List.getElem_cons_succ, List.setIfInBounds_toArray, List.set_cons_zero, List.set_cons_succ])
    refine wpAnyH_ready (rs := [3]) (by kernel_rfl) (by simp) ?_
    refine AllReadyH.cons rfl (fun K hK => ?_) AllReadyH.nil
    go_simp
    refine (begunShows _ vs vc fs fc rv rvc rt rtc rl rlc w8 C8 PX8 hv hf PR8).mono ?_
    rintro e w9 ⟨rfl, hb9⟩
    have X9 := X8.call hb9
    have Q9 := Q8.call hb9
    have PX9 := PX8.call hb9
    have PR9 := PR8.call hb9
    have C9 := C8.call hb9
    have B9 := B8.trans (hb9.mono (B8.size))
    refine hK.out _ _ (⟨X9.1, Q9.1⟩) (fun hHeld9 => ?_)
    clear hK K hb9 X8 Q8 PX8 PR8 C8 B8
    (try simp only [Act.put, List.getElem_toArray, List.getElem_cons_zero, List.getElem_cons_succ, List.setIfInBounds_toArray, List.set_cons_zero, List.set_cons_succ])
    refine tkH 4 ?_ ?_ ?_
    rotate_left
    · exact rn
    (try simp only [Act.put, List.getElem_toArray, List.getElem_cons_zero, List.getElem_cons_succ, List.setIfInBounds_toArray, List.set_cons_zero, List.set_cons_succ])
    refine tkH 5 ?_ ?_ ?_
    rotate_left
    · exact rn
    (try simp only [Act.put, List.getElem_toArray, List.getElem_cons_zero, List.getElem_cons_succ, List.setIfInBounds_toArray, List.set_cons_zero, List.set_cons_succ])
    refine tkH 6 ?_ ?_ ?_
    rotate_left
    · exact rn
    (try simp only [Act.put, List.getElem_toArray, List.getElem_cons_zero, List.getElem_cons_succ, List.setIfInBounds_toArray, List.set_cons_zero, List.set_cons_succ])
    refine tkH 7 ?_ ?_ ?_
    rotate_left
    · exact rn
    (try simp only [Act.put, List.getElem_toArray, List.getElem_cons_zero, List.getElem_cons_succ, List.setIfInBounds_toArray, List.set_cons_zero, List.set_cons_succ])
    refine tkH 8 ?_ ?_ ?_
    rotate_left
    · exact rn
    (try simp only [Act.put, List.getElem_toArray, List.getElem_cons_zero, List.getElem_cons_succ, List.setIfInBounds_toArray, List.set_cons_zero, List.set_cons_succ])
    refine wpAnyH_done (by kernel_rfl) ?_ _
    first | refine hK1 _ _ (Met.intro (hJ1 _ _ ?_)) | refine Met.intro (hJ1 _ _ ?_) | refine hJ1 _ _ ?_
    (repeat apply Exists.intro)
    refine ⟨?_, rfl⟩
    exact ⟨rfl, rfl, X9, PX9, B9⟩
  obtain ⟨rfl, rfl, XA, PXA, BA⟩ := hcut
  clear X6 Q6 PX6 PR6 B6
  generalize wc = wA at *
  clear wc
  go_upto_region 4 with fail
  go_cut [7, 8] (fun t7 t8 wc => ∃ jb us uc gs gc, t7 = .pointer (some ⟨jb, 0, none⟩) ∧ t8 = .int .i64 0 ∧ wA.heap.size ≤ jb ∧ X3 wc jb (.bool false) (.slice us 1 uc) (.slice gs 2 gc) ∧ PicAt wc begP us gs ∧ Below wA.heap.size wA wc)
  case first =>
    rename_i J1 K1 hJ1 hK1
    have B1 : Below wA.heap.size wA wA.drew := (Below.refl _ _).drew
    refine wp_region_held_drew (S := (fun wx => (wx.cell? ⟨xb, 0, none⟩ = some (.bool false) ∧ wx.cell? ⟨xb, 1, none⟩ = some (.slice vs 1 vc) ∧ wx.cell? ⟨xb, 2, none⟩ = some (.slice fs 2 fc)))) (by kernel_rfl) (XA.call B1).1 (fun hHeld => ?_)
    generalize wA.drew = w1 at *
    refine tkH 1 ?_ ?_ ?_
    rotate_left
    · exact rn
    (try simp only [Act.put, List.getElem_toArray, List.getElem_cons_zero, List.getElem_cons_succ, List.setIfInBounds_toArray, List.set_cons_zero, List.set_cons_succ])
    refine tkH 2 ?_ ?_ ?_
    rotate_left
    · exact rn
    (try simp only [Act.put, List.getElem_toArray, List.getElem_cons_zero, List.getElem_cons_succ, List.setIfInBounds_toArray, List.set_cons_zero, List.set_cons_succ])
    refine wpAnyH_ready (rs := [0, 7]) (by kernel_rfl) (by simp) ?_
    refine AllReadyH.cons rfl (fun K hK => ?_) (AllReadyH.cons rfl (fun K hK => ?_) AllReadyH.nil)
    · go_simp
      refine (small_any _).mono ?_
      rintro e w2 ⟨b2, rfl, C2, hb2⟩
      have B2 := B1.trans (hb2.mono (B1.size))
      refine hK.out _ _ ((XA.call B2).1) (fun hHeld2 => ?_)
      clear hK K hb2  B1
      (try simp only [Act.put, List.getElem_toArray, List.getElem_cons_zero, List.getElem_cons_succ, List.setIfInBounds_toArray, List.set_cons_zero, List.set_cons_succ])
      refine wpAnyH_ready (rs := [3, 7]) (by kernel_rfl) (by simp) ?_
      refine AllReadyH.cons rfl (fun K hK => ?_) (AllReadyH.cons rfl (fun K hK => ?_) AllReadyH.nil)
      · go_simp
        refine (begunPJoin _ vs vc fs fc w2 C2 (PXA.call B2) hv hf).mono ?_
        rintro e w3 ⟨us, uc, gs, gc, rfl, PV, hb3⟩
        have C3 := C2.call hb3
        have B3 := B2.trans (hb3.mono (B2.size))
        have PJ3 : PicAt w3 begP us gs := PV.at
        clear PV
        refine hK.out _ _ ((XA.call B3).1) (fun hHeld3 => ?_)
        clear hK K hb3 C2 B2
        (try simp only [Act.put, List.getElem_toArray, List.getElem_cons_zero, List.getElem_cons_succ, List.setIfInBounds_toArray, List.set_cons_zero, List.set_cons_succ])
        refine tkH 4 ?_ ?_ ?_
        rotate_left
        · exact rn
        (try simp only [Act.put, List.getElem_toArray, List.getElem_cons_zero, List.getElem_cons_succ, List.setIfInBounds_toArray, List.set_cons_zero, List.set_cons_succ])
        refine tkH 5 ?_ ?_ ?_
        rotate_left
        · exact rn
        (try simp only [Act.put, List.getElem_toArray, List.getElem_cons_zero, List.getElem_cons_succ, List.setIfInBounds_toArray, List.set_cons_zero, List.set_cons_succ])
        refine tkH 6 ?_ ?_ ?_
        rotate_left
        · exact rn
        (try simp only [Act.put, List.getElem_toArray, List.getElem_cons_zero, List.getElem_cons_succ, List.setIfInBounds_toArray, List.set_cons_zero, List.set_cons_succ])
        refine wpAnyH_ready (rs := [7]) (by kernel_rfl) (by simp) ?_
        refine AllReadyH.cons rfl (fun K hK => ?_) AllReadyH.nil
        go_simp
        have hb4 : Below w3.heap.size w3 (w3.alloc (.cells #[.bool false, .slice none 0 0, .slice none 0 0] 58)) := by go_grown
        have B4 := B3.trans (hb4.mono (B3.size))
        have U4 := X3.new w3 58 (.bool false) (.slice none 0 0) (.slice none 0 0)
        have zjb := B3.size
        have PF4 : PicAway (w3.alloc (.cells #[.bool false, .slice none 0 0, .slice none 0 0] 58)) w3.heap.size begP us gs := picAway_alloc PJ3 _
        clear PJ3
        clear B3
        refine hK.out _ _ ((XA.call B4).1) (fun hHeld4 => ?_)
        clear hK K hb4 
        (try simp only [Act.put, List.getElem_toArray, List.getElem_cons_zero, List.getElem_cons_succ, List.setIfInBounds_toArray, List.set_cons_zero, List.set_cons_succ])
        generalize w3.alloc (.cells #[.bool false, .slice none 0 0, .slice none 0 0] 58) = w4 at *
        generalize w3.heap.size = jb at *
        refine wpAnyH_ready (rs := [8]) (by kernel_rfl) (by simp) ?_
        refine AllReadyH.cons rfl (fun K hK => ?_) AllReadyH.nil
        obtain ⟨⟨u0, u1, u2⟩, uz, uf⟩ := id U4
        have uf0 := uf 0
        have uf1 := uf 1
        have uf2 := uf 2
        clear uf
        go_simp
        have hch : ∀ q, q ≠ jb → (((w4.setCell ⟨jb, 0, none⟩ (.bool false)).setCell ⟨jb, 1, none⟩ (.slice us 1 uc)).setCell ⟨jb, 2, none⟩ (.slice gs 2 gc)).heap[q]? = w4.heap[q]? := fun q hq => by rw [Below.heap_setCell _ _ _ _ hq, Below.heap_setCell _ _ _ _ hq, Below.heap_setCell _ _ _ _ hq]
        have hcz : w4.heap.size ≤ (((w4.setCell ⟨jb, 0, none⟩ (.bool false)).setCell ⟨jb, 1, none⟩ (.slice us 1 uc)).setCell ⟨jb, 2, none⟩ (.slice gs 2 gc)).heap.size := by simp [World.setCell]
        have U5 : X3 (((w4.setCell ⟨jb, 0, none⟩ (.bool false)).setCell ⟨jb, 1, none⟩ (.slice us 1 uc)).setCell ⟨jb, 2, none⟩ (.slice gs 2 gc)) jb (.bool false) (.slice us 1 uc) (.slice gs 2 gc) := ((U4.put0 _).put1 _).put2 _
        have B5 : Below wA.heap.size wA (((w4.setCell ⟨jb, 0, none⟩ (.bool false)).setCell ⟨jb, 1, none⟩ (.slice us 1 uc)).setCell ⟨jb, 2, none⟩ (.slice gs 2 gc)) := ((B4.setCell (by simp only; omega) _).setCell (by simp only; omega) _).setCell (by simp only; omega) _
        have PJ5 : PicAt (((w4.setCell ⟨jb, 0, none⟩ (.bool false)).setCell ⟨jb, 1, none⟩ (.slice us 1 uc)).setCell ⟨jb, 2, none⟩ (.slice gs 2 gc)) begP us gs := PF4 _ (fun q hq _ => hch q hq) hcz
        refine hK.out _ _ ((XA.call B5).1) (fun hHeld5 => ?_)
        clear hK K hch hcz u0 u1 u2 uz uf0 uf1 uf2 U4 B4 PF4
        (try simp only [Act.put, List.getElem_toArray, List.getElem_cons_zero, List.getElem_cons_succ, List.setIfInBounds_toArray, List.set_cons_zero, List.set_cons_succ])
        generalize (((w4.setCell ⟨jb, 0, none⟩ (.bool false)).setCell ⟨jb, 1, none⟩ (.slice us 1 uc)).setCell ⟨jb, 2, none⟩ (.slice gs 2 gc)) = w5 at *
        refine tkH 9 ?_ ?_ ?_
        rotate_left
        · exact rn
        (try simp only [Act.put, List.getElem_toArray, List.getElem_cons_zero, List.getElem_cons_succ, List.setIfInBounds_toArray, List.set_cons_zero, List.set_cons_succ])
        refine wpAnyH_done (by kernel_rfl) ?_ _
        first | refine hK1 _ _ (Met.intro (hJ1 _ _ ?_)) | refine Met.intro (hJ1 _ _ ?_) | refine hJ1 _ _ ?_
        (repeat apply Exists.intro)
        refine ⟨?_, rfl⟩
        exact ⟨jb, us, uc, gs, gc, rfl, rfl, zjb, U5, PJ5, B5⟩
      · go_simp
        have hb3 : Below w2.heap.size w2 (w2.alloc (.cells #[.bool false, .slice none 0 0, .slice none 0 0] 58)) := by go_grown
        have C3 := C2.call hb3
        have B3 := B2.trans (hb3.mono (B2.size))
        have U3 := X3.new w2 58 (.bool false) (.slice none 0 0) (.slice none 0 0)
        have zjb := B2.size
        clear B2
        refine hK.out _ _ ((XA.call B3).1) (fun hHeld3 => ?_)
        clear hK K hb3 C2
        (try simp only [Act.put, List.getElem_toArray, List.getElem_cons_zero, List.getElem_cons_succ, List.setIfInBounds_toArray, List.set_cons_zero, List.set_cons_succ])
        generalize w2.alloc (.cells #[.bool false, .slice none 0 0, .slice none 0 0] 58) = w3 at *
        generalize w2.heap.size = jb at *
        refine wpAnyH_ready (rs := [3]) (by kernel_rfl) (by simp) ?_
        refine AllReadyH.cons rfl (fun K hK => ?_) AllReadyH.nil
        go_simp
        refine (begunPJoin _ vs vc fs fc w3 C3 (PXA.call B3) hv hf).mono ?_
        rintro e w4 ⟨us, uc, gs, gc, rfl, PV, hb4⟩
        have C4 := C3.call hb4
        have U4 := U3.call hb4
        have B4 := B3.trans (hb4.mono (B3.size))
        have PF4 : PicAway w4 jb begP us gs := PV.mono fun q hq _ => by have := U3.2.1; omega
        clear PV
        refine hK.out _ _ ((XA.call B4).1) (fun hHeld4 => ?_)
        clear hK K hb4 C3 U3 B3
        (try simp only [Act.put, List.getElem_toArray, List.getElem_cons_zero, List.getElem_cons_succ, List.setIfInBounds_toArray, List.set_cons_zero, List.set_cons_succ])
        refine tkH 4 ?_ ?_ ?_
        rotate_left
        · exact rn
        (try simp only [Act.put, List.getElem_toArray, List.getElem_cons_zero, List.getElem_cons_succ, List.setIfInBounds_toArray, List.set_cons_zero, List.set_cons_succ])
        refine tkH 5 ?_ ?_ ?_
        rotate_left
        · exact rn
        (try simp only [Act.put, List.getElem_toArray, List.getElem_cons_zero, List.getElem_cons_succ, List.setIfInBounds_toArray, List.set_cons_zero, List.set_cons_succ])
        refine tkH 6 ?_ ?_ ?_
        rotate_left
        · exact rn
        (try simp only [Act.put, List.getElem_toArray, List.getElem_cons_zero, List.getElem_cons_succ, List.setIfInBounds_toArray, List.set_cons_zero, List.set_cons_succ])
        refine wpAnyH_ready (rs := [8]) (by kernel_rfl) (by simp) ?_
        refine AllReadyH.cons rfl (fun K hK => ?_) AllReadyH.nil
        obtain ⟨⟨u0, u1, u2⟩, uz, uf⟩ := id U4
        have uf0 := uf 0
        have uf1 := uf 1
        have uf2 := uf 2
        clear uf
        go_simp
        have hch : ∀ q, q ≠ jb → (((w4.setCell ⟨jb, 0, none⟩ (.bool false)).setCell ⟨jb, 1, none⟩ (.slice us 1 uc)).setCell ⟨jb, 2, none⟩ (.slice gs 2 gc)).heap[q]? = w4.heap[q]? := fun q hq => by rw [Below.heap_setCell _ _ _ _ hq, Below.heap_setCell _ _ _ _ hq, Below.heap_setCell _ _ _ _ hq]
        have hcz : w4.heap.size ≤ (((w4.setCell ⟨jb, 0, none⟩ (.bool false)).setCell ⟨jb, 1, none⟩ (.slice us 1 uc)).setCell ⟨jb, 2, none⟩ (.slice gs 2 gc)).heap.size := by simp [World.setCell]
        have U5 : X3 (((w4.setCell ⟨jb, 0, none⟩ (.bool false)).setCell ⟨jb, 1, none⟩ (.slice us 1 uc)).setCell ⟨jb, 2, none⟩ (.slice gs 2 gc)) jb (.bool false) (.slice us 1 uc) (.slice gs 2 gc) := ((U4.put0 _).put1 _).put2 _
        have B5 : Below wA.heap.size wA (((w4.setCell ⟨jb, 0, none⟩ (.bool false)).setCell ⟨jb, 1, none⟩ (.slice us 1 uc)).setCell ⟨jb, 2, none⟩ (.slice gs 2 gc)) := ((B4.setCell (by simp only; omega) _).setCell (by simp only; omega) _).setCell (by simp only; omega) _
        have PJ5 : PicAt (((w4.setCell ⟨jb, 0, none⟩ (.bool false)).setCell ⟨jb, 1, none⟩ (.slice us 1 uc)).setCell ⟨jb, 2, none⟩ (.slice gs 2 gc)) begP us gs := PF4 _ (fun q hq _ => hch q hq) hcz
        refine hK.out _ _ ((XA.call B5).1) (fun hHeld5 => ?_)
        clear hK K hch hcz u0 u1 u2 uz uf0 uf1 uf2 U4 B4 PF4
        (try simp only [Act.put, List.getElem_toArray, List.getElem_cons_zero, List.getElem_cons_succ, List.setIfInBounds_toArray, List.set_cons_zero, List.set_cons_succ])
        generalize (((w4.setCell ⟨jb, 0, none⟩ (.bool false)).setCell ⟨jb, 1, none⟩ (.slice us 1 uc)).setCell ⟨jb, 2, none⟩ (.slice gs 2 gc)) = w5 at *
        refine tkH 9 ?_ ?_ ?_
        rotate_left
        · exact rn
        (try simp only [Act.put, List.getElem_toArray, List.getElem_cons_zero, List.getElem_cons_succ, List.setIfInBounds_toArray, List.set_cons_zero, List.set_cons_succ])
        refine wpAnyH_done (by kernel_rfl) ?_ _
        first | refine hK1 _ _ (Met.intro (hJ1 _ _ ?_)) | refine Met.intro (hJ1 _ _ ?_) | refine hJ1 _ _ ?_
        (repeat apply Exists.intro)
        refine ⟨?_, rfl⟩
        exact ⟨jb, us, uc, gs, gc, rfl, rfl, zjb, U5, PJ5, B5⟩
    · go_simp
      have hb2 : Below w1.heap.size w1 (w1.alloc (.cells #[.bool false, .slice none 0 0, .slice none 0 0] 58)) := by go_grown
      have B2 := B1.trans (hb2.mono (B1.size))
      have U2 := X3.new w1 58 (.bool false) (.slice none 0 0) (.slice none 0 0)
      have zjb := B1.size
      clear B1
      refine hK.out _ _ ((XA.call B2).1) (fun hHeld2 => ?_)
      clear hK K hb2 
      (try simp only [Act.put, List.getElem_toArray, List.getElem_cons_zero, List.getElem_cons_succ, List.setIfInBounds_toArray, List.set_cons_zero, List.set_cons_succ])
      generalize w1.alloc (.cells #[.bool false, .slice none 0 0, .slice none 0 0] 58) = w2 at *
      generalize w1.heap.size = jb at *
      refine wpAnyH_ready (rs := [0]) (by kernel_rfl) (by simp) ?_
      refine AllReadyH.cons rfl (fun K hK => ?_) AllReadyH.nil
      go_simp
      refine (small_any _).mono ?_
      rintro e w3 ⟨b3, rfl, C3, hb3⟩
      have U3 := U2.call hb3
      have B3 := B2.trans (hb3.mono (B2.size))
      refine hK.out _ _ ((XA.call B3).1) (fun hHeld3 => ?_)
      clear hK K hb3 U2 B2
      (try simp only [Act.put, List.getElem_toArray, List.getElem_cons_zero, List.getElem_cons_succ, List.setIfInBounds_toArray, List.set_cons_zero, List.set_cons_succ])
      refine wpAnyH_ready (rs := [3]) (by kernel_rfl) (by simp) ?_
      refine AllReadyH.cons rfl (fun K hK => ?_) AllReadyH.nil
      go_simp
      refine (begunPJoin _ vs vc fs fc w3 C3 (PXA.call B3) hv hf).mono ?_
      rintro e w4 ⟨us, uc, gs, gc, rfl, PV, hb4⟩
      have C4 := C3.call hb4
      have U4 := U3.call hb4
      have B4 := B3.trans (hb4.mono (B3.size))
      have PF4 : PicAway w4 jb begP us gs := PV.mono fun q hq _ => by have := U3.2.1; omega
      clear PV
      refine hK.out _ _ ((XA.call B4).1) (fun hHeld4 => ?_)
      clear hK K hb4 C3 U3 B3
      (try simp only [Act.put, List.getElem_toArray, List.getElem_cons_zero, List.getElem_cons_succ, List.setIfInBounds_toArray, List.set_cons_zero, List.set_cons_succ])
      refine tkH 4 ?_ ?_ ?_
      rotate_left
      · exact rn
      (try simp only [Act.put, List.getElem_toArray, List.getElem_cons_zero, List.getElem_cons_succ, List.setIfInBounds_toArray, List.set_cons_zero, List.set_cons_succ])
      refine tkH 5 ?_ ?_ ?_
      rotate_left
      · exact rn
      (try simp only [Act.put, List.getElem_toArray, List.getElem_cons_zero, List.getElem_cons_succ, List.setIfInBounds_toArray, List.set_cons_zero, List.set_cons_succ])
      refine tkH 6 ?_ ?_ ?_
      rotate_left
      · exact rn
      (try simp only [Act.put, List.getElem_toArray, List.getElem_cons_zero, List.getElem_cons_succ, List.setIfInBounds_toArray, List.set_cons_zero, List.set_cons_succ])
      refine wpAnyH_ready (rs := [8]) (by kernel_rfl) (by simp) ?_
      refine AllReadyH.cons rfl (fun K hK => ?_) AllReadyH.nil
      obtain ⟨⟨u0, u1, u2⟩, uz, uf⟩ := id U4
      have uf0 := uf 0
      have uf1 := uf 1
      have uf2 := uf 2
      clear uf
      go_simp
      have hch : ∀ q, q ≠ jb → (((w4.setCell ⟨jb, 0, none⟩ (.bool false)).setCell ⟨jb, 1, none⟩ (.slice us 1 uc)).setCell ⟨jb, 2, none⟩ (.slice gs 2 gc)).heap[q]? = w4.heap[q]? := fun q hq => by rw [Below.heap_setCell _ _ _ _ hq, Below.heap_setCell _ _ _ _ hq, Below.heap_setCell _ _ _ _ hq]
      have hcz : w4.heap.size ≤ (((w4.setCell ⟨jb, 0, none⟩ (.bool false)).setCell ⟨jb, 1, none⟩ (.slice us 1 uc)).setCell ⟨jb, 2, none⟩ (.slice gs 2 gc)).heap.size := by simp [World.setCell]
      have U5 : X3 (((w4.setCell ⟨jb, 0, none⟩ (.bool false)).setCell ⟨jb, 1, none⟩ (.slice us 1 uc)).setCell ⟨jb, 2, none⟩ (.slice gs 2 gc)) jb (.bool false) (.slice us 1 uc) (.slice gs 2 gc) := ((U4.put0 _).put1 _).put2 _
      have B5 : Below wA.heap.size wA (((w4.setCell ⟨jb, 0, none⟩ (.bool false)).setCell ⟨jb, 1, none⟩ (.slice us 1 uc)).setCell ⟨jb, 2, none⟩ (.slice gs 2 gc)) := ((B4.setCell (by simp only; omega) _).setCell (by simp only; omega) _).setCell (by simp only; omega) _
      have PJ5 : PicAt (((w4.setCell ⟨jb, 0, none⟩ (.bool false)).setCell ⟨jb, 1, none⟩ (.slice us 1 uc)).setCell ⟨jb, 2, none⟩ (.slice gs 2 gc)) begP us gs := PF4 _ (fun q hq _ => hch q hq) hcz
      refine hK.out _ _ ((XA.call B5).1) (fun hHeld5 => ?_)
      clear hK K hch hcz u0 u1 u2 uz uf0 uf1 uf2 U4 B4 PF4
      (try simp only [Act.put, List.getElem_toArray, List.getElem_cons_zero, List.getElem_cons_succ, List.setIfInBounds_toArray, List.set_cons_zero, List.set_cons_succ])
      generalize (((w4.setCell ⟨jb, 0, none⟩ (.bool false)).setCell ⟨jb, 1, none⟩ (.slice us 1 uc)).setCell ⟨jb, 2, none⟩ (.slice gs 2 gc)) = w5 at *
      refine tkH 9 ?_ ?_ ?_
      rotate_left
      · exact rn
      (try simp only [Act.put, List.getElem_toArray, List.getElem_cons_zero, List.getElem_cons_succ, List.setIfInBounds_toArray, List.set_cons_zero, List.set_cons_succ])
      refine wpAnyH_done (by kernel_rfl) ?_ _
      first | refine hK1 _ _ (Met.intro (hJ1 _ _ ?_)) | refine Met.intro (hJ1 _ _ ?_) | refine hJ1 _ _ ?_
      (repeat apply Exists.intro)
      refine ⟨?_, rfl⟩
      exact ⟨jb, us, uc, gs, gc, rfl, rfl, zjb, U5, PJ5, B5⟩
  obtain ⟨jb, us, uc, gs, gc, rfl, rfl, zjb, JB, PJ, BC⟩ := hcut
  have XB := XA.call BC
  have PXB := PXA.call BC
  have BB := BA.trans (BC.mono BA.size)
  clear XA PXA BA
  generalize wc = wB at *
  clear wc
  obtain ⟨ub, uo, e1, ss, sc, ⟨⟨uc0, -⟩, uz⟩, -⟩ := PJ.1 0 (by simp [begP])
  subst e1
  simp only [Nat.zero_mul, Nat.add_zero, begP, List.getElem_cons_zero, nullG] at uc0
  go_upto_region 5 with fail
  have B1 : Below wB.heap.size wB wB.drew := (Below.refl _ _).drew
  refine wp_region_held_drew (S := (fun wx => (wx.cell? ⟨xb, 0, none⟩ = some (.bool false) ∧ wx.cell? ⟨xb, 1, none⟩ = some (.slice vs 1 vc) ∧ wx.cell? ⟨xb, 2, none⟩ = some (.slice fs 2 fc)) ∧ (wx.cell? ⟨jb, 0, none⟩ = some (.bool false) ∧ wx.cell? ⟨jb, 1, none⟩ = some (.slice (some ⟨ub, uo, none⟩) 1 uc) ∧ wx.cell? ⟨jb, 2, none⟩ = some (.slice gs 2 gc)) ∧ wx.cell? ⟨ub, uo, none⟩ = some (.bool true))) (by kernel_rfl) ⟨(XB.call B1).1, (JB.call B1).1, by rw [B1.cell (by simp only; exact uz)]; exact uc0⟩ (fun hHeld => ?_)
  generalize wB.drew = w1 at *
  refine tkH 0 ?_ ?_ ?_
  rotate_left
  · exact rn
  (try simp only [Act.put, List.getElem_toArray, List.getElem_cons_zero, List.getElem_cons_succ, List.setIfInBounds_toArray, List.set_cons_zero, List.set_cons_succ])
  refine tkH 1 ?_ ?_ ?_
  rotate_left
  · exact rn
  (try simp only [Act.put, List.getElem_toArray, List.getElem_cons_zero, List.getElem_cons_succ, List.setIfInBounds_toArray, List.set_cons_zero, List.set_cons_succ])
  refine tkH 2 ?_ ?_ ?_
  rotate_left
  · exact rn
  (try simp only [Act.put, List.getElem_toArray, List.getElem_cons_zero, List.getElem_cons_succ, List.setIfInBounds_toArray, List.set_cons_zero, List.set_cons_succ])
  refine tkH 3 ?_ ?_ ?_
  rotate_left
  · exact rn
  (try simp only [Act.put, List.getElem_toArray, List.getElem_cons_zero, List.getElem_cons_succ, List.setIfInBounds_toArray, List.set_cons_zero, List.set_cons_succ])
  refine tkH 4 ?_ ?_ ?_
  rotate_left
  · exact rn
  (try simp only [Act.put, List.getElem_toArray, List.getElem_cons_zero, List.getElem_cons_succ, List.setIfInBounds_toArray, List.set_cons_zero, List.set_cons_succ])
  refine tkH 5 ?_ ?_ ?_
  rotate_left
  · exact rn
  (try simp only [Act.put, List.getElem_toArray, List.getElem_cons_zero, List.getElem_cons_succ, List.setIfInBounds_toArray, List.set_cons_zero, List.set_cons_succ])
  refine tkH 6 ?_ ?_ ?_
  rotate_left
  · exact rn
  (try simp only [Act.put, List.getElem_toArray, List.getElem_cons_zero, List.getElem_cons_succ, List.setIfInBounds_toArray, List.set_cons_zero, List.set_cons_succ])
  refine tkH 7 ?_ ?_ ?_
  rotate_left
  · exact rn
  (try simp only [Act.put, List.getElem_toArray, List.getElem_cons_zero, List.getElem_cons_succ, List.setIfInBounds_toArray, List.set_cons_zero, List.set_cons_succ])
  refine tkH 8 ?_ ?_ ?_
  rotate_left
  · exact rn
  (try simp only [Act.put, List.getElem_toArray, List.getElem_cons_zero, List.getElem_cons_succ, List.setIfInBounds_toArray, List.set_cons_zero, List.set_cons_succ])
  refine tkH 9 ?_ ?_ ?_
  rotate_left
  · exact rn
  (try simp only [Act.put, List.getElem_toArray, List.getElem_cons_zero, List.getElem_cons_succ, List.setIfInBounds_toArray, List.set_cons_zero, List.set_cons_succ])
  refine tkH 10 ?_ ?_ ?_
  rotate_left
  · exact rn
  (try simp only [Act.put, List.getElem_toArray, List.getElem_cons_zero, List.getElem_cons_succ, List.setIfInBounds_toArray, List.set_cons_zero, List.set_cons_succ])
  refine tkH 11 ?_ ?_ ?_
  rotate_left
  · exact rn
  (try simp only [Act.put, List.getElem_toArray, List.getElem_cons_zero, List.getElem_cons_succ, List.setIfInBounds_toArray, List.set_cons_zero, List.set_cons_succ])
  refine tkH 12 ?_ ?_ ?_
  rotate_left
  · exact rn
  (try simp only [Act.put, List.getElem_toArray, List.getElem_cons_zero, List.getElem_cons_succ, List.setIfInBounds_toArray, List.set_cons_zero, List.set_cons_succ])
  refine tkH 13 ?_ ?_ ?_
  rotate_left
  · exact rn
  (try simp only [Act.put, List.getElem_toArray, List.getElem_cons_zero, List.getElem_cons_succ, List.setIfInBounds_toArray, List.set_cons_zero, List.set_cons_succ])
  refine tkH 14 ?_ ?_ ?_
  rotate_left
  · exact rn
  (try simp only [Act.put, List.getElem_toArray, List.getElem_cons_zero, List.getElem_cons_succ, List.setIfInBounds_toArray, List.set_cons_zero, List.set_cons_succ])
  refine tkH 15 ?_ ?_ ?_
  rotate_left
  · exact rn
  (try simp only [Act.put, List.getElem_toArray, List.getElem_cons_zero, List.getElem_cons_succ, List.setIfInBounds_toArray, List.set_cons_zero, List.set_cons_succ])
  refine tkH 16 ?_ ?_ ?_
  rotate_left
  · exact rn
  (try simp only [Act.put, List.getElem_toArray, List.getElem_cons_zero, List.getElem_cons_succ, List.setIfInBounds_toArray, List.set_cons_zero, List.set_cons_succ])
  refine tkH 17 ?_ ?_ ?_
  rotate_left
  · exact rn
  (try simp only [Act.put, List.getElem_toArray, List.getElem_cons_zero, List.getElem_cons_succ, List.setIfInBounds_toArray, List.set_cons_zero, List.set_cons_succ])
  refine tkH 19 ?_ ?_ ?_
  rotate_left
  · exact rn
  (try simp only [Act.put, List.getElem_toArray, List.getElem_cons_zero, List.getElem_cons_succ, List.setIfInBounds_toArray, List.set_cons_zero, List.set_cons_succ])
  refine wpAnyH_ready (rs := [18]) (by kernel_rfl) (by simp) ?_
  refine AllReadyH.cons rfl (fun K hK => ?_) AllReadyH.nil
  go_simp
  refine (small_any _).mono ?_
  rintro e w2 ⟨b2, rfl, C2, hb2⟩
  have B2 := B1.trans (hb2.mono (B1.size))
  refine hK.out _ _ (⟨(XB.call B2).1, (JB.call B2).1, by rw [B2.cell (by simp only; exact uz)]; exact uc0⟩) (fun hHeld2 => ?_)
  clear hK K hb2  B1
  (try simp only [Act.put, List.getElem_toArray, List.getElem_cons_zero, List.getElem_cons_succ, List.setIfInBounds_toArray, List.set_cons_zero, List.set_cons_succ])
  refine wpAnyH_ready (rs := [20]) (by kernel_rfl) (by simp) ?_
  refine AllReadyH.cons rfl (fun K hK => ?_) AllReadyH.nil
  go_simp
  refine (begunPCheck _ vs vc fs fc w2 C2 (PXB.call B2) hv hf).mono ?_
  rintro e w3 ⟨rfl, hb3⟩
  have C3 := C2.call hb3
  have B3 := B2.trans (hb3.mono (B2.size))
  refine hK.out _ _ (⟨(XB.call B3).1, (JB.call B3).1, by rw [B3.cell (by simp only; exact uz)]; exact uc0⟩) (fun hHeld3 => ?_)
  clear hK K hb3 C2 B2
  (try simp only [Act.put, List.getElem_toArray, List.getElem_cons_zero, List.getElem_cons_succ, List.setIfInBounds_toArray, List.set_cons_zero, List.set_cons_succ])
  refine tkH 21 ?_ ?_ ?_
  rotate_left
  · exact rn
  (try simp only [Act.put, List.getElem_toArray, List.getElem_cons_zero, List.getElem_cons_succ, List.setIfInBounds_toArray, List.set_cons_zero, List.set_cons_succ])
  refine tkH 22 ?_ ?_ ?_
  rotate_left
  · exact rn
  (try simp only [Act.put, List.getElem_toArray, List.getElem_cons_zero, List.getElem_cons_succ, List.setIfInBounds_toArray, List.set_cons_zero, List.set_cons_succ])
  refine tkH 23 ?_ ?_ ?_
  rotate_left
  · exact rn
  (try simp only [Act.put, List.getElem_toArray, List.getElem_cons_zero, List.getElem_cons_succ, List.setIfInBounds_toArray, List.set_cons_zero, List.set_cons_succ])
  refine tkH 24 ?_ ?_ ?_
  rotate_left
  · exact rn
  (try simp only [Act.put, List.getElem_toArray, List.getElem_cons_zero, List.getElem_cons_succ, List.setIfInBounds_toArray, List.set_cons_zero, List.set_cons_succ])
  refine tkH 25 ?_ ?_ ?_
  rotate_left
  · exact rn
  (try simp only [Act.put, List.getElem_toArray, List.getElem_cons_zero, List.getElem_cons_succ, List.setIfInBounds_toArray, List.set_cons_zero, List.set_cons_succ])
  refine tkH 26 ?_ ?_ ?_
  rotate_left
  · exact rn
  (try simp only [Act.put, List.getElem_toArray, List.getElem_cons_zero, List.getElem_cons_succ, List.setIfInBounds_toArray, List.set_cons_zero, List.set_cons_succ])
  refine tkH 27 ?_ ?_ ?_
  rotate_left
  · exact rn
  (try simp only [Act.put, List.getElem_toArray, List.getElem_cons_zero, List.getElem_cons_succ, List.setIfInBounds_toArray, List.set_cons_zero, List.set_cons_succ])
  refine tkH 28 ?_ ?_ ?_
  rotate_left
  · exact rn
  (try simp only [Act.put, List.getElem_toArray, List.getElem_cons_zero, List.getElem_cons_succ, List.setIfInBounds_toArray, List.set_cons_zero, List.set_cons_succ])
  refine tkH 29 ?_ ?_ ?_
  rotate_left
  · exact rn
  (try simp only [Act.put, List.getElem_toArray, List.getElem_cons_zero, List.getElem_cons_succ, List.setIfInBounds_toArray, List.set_cons_zero, List.set_cons_succ])
  refine tkH 30 ?_ ?_ ?_
  rotate_left
  · exact rn
  (try simp only [Act.put, List.getElem_toArray, List.getElem_cons_zero, List.getElem_cons_succ, List.setIfInBounds_toArray, List.set_cons_zero, List.set_cons_succ])
  refine tkH 31 ?_ ?_ ?_
  rotate_left
  · exact rn
  (try simp only [Act.put, List.getElem_toArray, List.getElem_cons_zero, List.getElem_cons_succ, List.setIfInBounds_toArray, List.set_cons_zero, List.set_cons_succ])
  refine tkH 32 ?_ ?_ ?_
  rotate_left
  · exact rn
  (try simp only [Act.put, List.getElem_toArray, List.getElem_cons_zero, List.getElem_cons_succ, List.setIfInBounds_toArray, List.set_cons_zero, List.set_cons_succ])
  refine tkH 33 ?_ ?_ ?_
  rotate_left
  · exact rn
  (try simp only [Act.put, List.getElem_toArray, List.getElem_cons_zero, List.getElem_cons_succ, List.setIfInBounds_toArray, List.set_cons_zero, List.set_cons_succ])
  refine tkH 34 ?_ ?_ ?_
  rotate_left
  · exact rn
  (try simp only [Act.put, List.getElem_toArray, List.getElem_cons_zero, List.getElem_cons_succ, List.setIfInBounds_toArray, List.set_cons_zero, List.set_cons_succ])
  refine tkH 35 ?_ ?_ ?_
  rotate_left
  · exact rn
  (try simp only [Act.put, List.getElem_toArray, List.getElem_cons_zero, List.getElem_cons_succ, List.setIfInBounds_toArray, List.set_cons_zero, List.set_cons_succ])
  refine tkH 36 ?_ ?_ ?_
  rotate_left
  · exact rn
  (try simp only [Act.put, List.getElem_toArray, List.getElem_cons_zero, List.getElem_cons_succ, List.setIfInBounds_toArray, List.set_cons_zero, List.set_cons_succ])
  refine wpAnyH_done (by kernel_rfl) ?_ _
  go_wp2
  refine bodyPost_ret (v := .bool true) (by kernel_rfl) rfl ⟨rfl, BB.trans (B3.mono BB.size)⟩
end Go.Proofs.YtmapdpcfanecdaaGreat
