/- Pictures that are made: what they lie in. -/
import Derived.Test.YtmapdpcfanecdaaGreatKpicyp22
import Derived.Test.YtmapdpcfanecdaaGreatKpicyp09
import Derived.Test.YtmapdpcfanecdaaGreatKpicyp06
namespace Go.Proofs.YtmapdpcfanecdaaGreat
set_option linter.unusedVariables false
set_option linter.unusedSimpArgs false
open Go.RowKit
attribute [local go_sem ↓] Go.wp_at_zero Go.wp_at_succ

theorem ckProg_lim {V F : Int} {c : List Ins} (h : ckProg V F c = 0) : (1 ≤ V ∧ V ≤ 8) ∧ (0 ≤ F ∧ F ≤ 3) ∧ c.length ≤ 60 := by
  unfold ckProg at h
  split at h
  · cases h
  · rename_i h3
    split at h
    · cases h
    · rename_i h60
      simp [btw] at h3
      exact ⟨⟨by omega, by omega⟩, ⟨by omega, by omega⟩, by omega⟩
theorem checkPicture_any (V F : Int) (s : Option Addr) (c : List Ins) (cap : Nat) (x : Pic) (vs : Option Addr) (vc : Nat) (fs : Option Addr) (fc : Nat) (w : World) (hc : CodeAt w s c) (hP : PicAt w x vs fs) (h0 : ckProg V F c = 0) :
    Calls Tryz.prog 75 #[pv V F s c cap, xv x vs vc fs fc] w fun e w' => e = .returned (.int .i64 (ckPic V F c x)) ∧ Below w.heap.size w w' := by
  obtain ⟨⟨hV1, hV8⟩, ⟨hF0, hF3⟩, h60⟩ := ckProg_lim h0
  obtain ⟨n, vars, flds⟩ := x
  cases n with
  | true => exact checkPicture_none V F s c cap vars flds vs vc fs fc w
  | false =>
    by_cases h1 : (vars.length : Int) = V
    · by_cases h2 : flds.length = c.length
      · by_cases h3 : ∃ r ∈ flds, ¬ (r.length : Int) = F
        · have e1 : ckPic V F c ⟨false, vars, flds⟩ = 1 := by
            unfold ckPic formedPic
            have : (flds.any fun r => !decide ((r.length : Int) = F)) = true := by
              obtain ⟨r, hr, hne⟩ := h3
              exact List.any_eq_true.2 ⟨r, hr, by simpa using hne⟩
            simp [this]
          rw [e1]
          subst h1
          exact checkPicture_row F s c cap vars flds vs vc fs fc w hP h60 h2 h3
        · have hr : ∀ r ∈ flds, (r.length : Int) = F := fun r hr => Decidable.not_not.1 fun hne => h3 ⟨r, hr, hne⟩
          obtain ⟨f, rfl⟩ := Int.eq_ofNat_of_zero_le hF0
          have hr' : ∀ r ∈ flds, r.length = f := fun r h => by have := hr r h; omega
          have e1 : ckPic V f c ⟨false, vars, flds⟩ = (if ckGss c (vars ++ flds.flatten) ≠ 0 then ckGss c (vars ++ flds.flatten) else if strayAt c (fun g => !nothingGs g) 0 flds then 4 else 0) := by
            have : (flds.any fun r => !decide ((r.length : Int) = (f : Int))) = false := by
              rw [List.any_eq_false]
              intro r h
              simp [hr r h]
            unfold ckPic formedPic allPic
            simp only [this, h1, h2, decide_true, Bool.not_false, Bool.and_true]
            rfl
          rw [e1]
          subst h1
          exact checkPicture_main f s c cap vars flds vs vc fs fc w hc hP h60 (by omega) (by omega) h2 hr'
      · have e1 : ckPic V F c ⟨false, vars, flds⟩ = 1 := by
          unfold ckPic formedPic
          simp [h2]
        rw [e1]
        exact checkPicture_flds V F s c cap vars flds vs vc fs fc w h1 h2
    · have e1 : ckPic V F c ⟨false, vars, flds⟩ = 1 := by
        unfold ckPic formedPic
        simp [h1]
      rw [e1]
      exact checkPicture_vars V F s c cap vars flds vs vc fs fc w h1

/-- A list of pictures behind a slice's address. -/
def XsAt (w : World) (ls : Option Addr) (L : List Pic) : Prop :=
  ∀ i (h : i < L.length), ∃ b off, ls = some ⟨b, off, none⟩ ∧ b < w.heap.size ∧ ∃ vs vc fs fc, (w.cell? ⟨b, off + i * 3, none⟩ = some (.bool L[i].none) ∧ w.cell? ⟨b, off + i * 3 + 1, none⟩ = some (.slice vs L[i].vars.length vc) ∧ w.cell? ⟨b, off + i * 3 + 2, none⟩ = some (.slice fs L[i].flds.length fc)) ∧ PicAt w L[i] vs fs ∧ (L[i].vars.length ≤ vc ∧ vc ≤ maxLen) ∧ (L[i].flds.length ≤ fc ∧ fc ≤ maxLen)
theorem XsAt.below {B : Nat} {w w' : World} {ls : Option Addr} {L : List Pic} (h : XsAt w ls L) (hb : Below B w w') (hB : w.heap.size ≤ B) : XsAt w' ls L := by
  intro i hi
  obtain ⟨b, off, e, hz, vs, vc, fs, fc, ⟨h0, h1, h2⟩, hP, hQ⟩ := h i hi
  exact ⟨b, off, e, Nat.lt_of_lt_of_le hz hb.size, vs, vc, fs, fc, ⟨by rw [hb.cell (by simp only; omega)]; exact h0, by rw [hb.cell (by simp only; omega)]; exact h1, by rw [hb.cell (by simp only; omega)]; exact h2⟩, hP.below hb hB, hQ⟩
theorem ckPicL_drop (V F : Int) (c : List Ins) (L : List Pic) (k : Nat) (h : k < L.length) : ckPicL V F c (L.drop k) = if ckPic V F c L[k] = 0 then ckPicL V F c (L.drop (k + 1)) else ckPic V F c L[k] := by
  rw [List.drop_eq_getElem_cons h]
  rfl

set_option maxHeartbeats 4000000 in
set_option maxRecDepth 10000 in
theorem checkPictures_any (V F : Int) (s : Option Addr) (c : List Ins) (cap : Nat) (ls : Option Addr) (L : List Pic) (lc : Nat) (w : World) (hc : CodeAt w s c) (hL : XsAt w ls L) (hl : L.length ≤ 9223372036854775807) :
    Calls Tryz.prog 27 #[pv V F s c cap, .slice ls L.length lc] w fun e w' => e = .returned (.int .i64 (ckPics V F c L)) ∧ Below w.heap.size w w' := by
  have P0 := PrAt.new w V F s c cap
  have B0 : Below w.heap.size w (w.alloc (.cells #[.int .i64 V, .int .i64 F, .slice s c.length cap] 24)) := by go_grown
  have C0 := hc.below B0 (Nat.le_refl _)
  have L0 := hL.below B0 (Nat.le_refl _)
  have HR : Hid (ckPics V F c L = if ckProg V F c = 0 then ckPicL V F c L else ckProg V F c) := rfl
  clear hc hL
  generalize ckPics V F c L = res at HR ⊢
  go_enter Tryz.func27, Tryz.ntmps27
  go_wp2_with (go_at_call 26; fail)
  refine (checkProgram_any V F s cap c _ C0).mono ?_
  rintro e w1 ⟨rfl, hb1⟩
  have P1 := P0.call hb1
  have C1 := C0.call hb1
  have L1 := L0.below hb1 (Nat.le_refl _)
  have B1 : Below w.heap.size w w1 := B0.trans (hb1.mono (by simp))
  clear hb1 P0 C0 L0 B0
  have H60 : Hid (ckProg V F c = 0 → ckProg V F c = 0) := fun h => h
  have HR : Hid (∀ ce, ce = ckProg V F c → res = if ce = 0 then ckPicL V F c L else ce) := fun ce h => by rw [h]; exact HR.out
  have H0 : Hid (∀ ce, ce = ckProg V F c → ce = 0 → ckProg V F c = 0) := fun ce h e => by rw [← h]; exact e
  generalize hcp : ckProg V F c = cp at *
  have HR1 := hideH (HR.out cp rfl)
  have H01 : Hid (cp = 0 → ckProg V F c = 0) := fun e => by rw [hcp]; exact e
  clear HR H0 H60 hcp
  go_wp2
  go_loopw [5, 6] (fun e i wr => ∃ (k : Nat) (ce : Int), k ≤ L.length ∧ i = .int .i64 k ∧ e = .int .i64 ce ∧ PrAt wr w.heap.size V F s c cap ∧ CodeAt wr s c ∧ XsAt wr ls L ∧ Below w.heap.size w wr ∧ Hid (res = if ce = 0 then ckPicL V F c (L.drop k) else ce) ∧ Hid (ce = 0 → ckProg V F c = 0)) (fun _ i _ => L.length - (intOf i).toNat)
  case atStart => exact ⟨0, cp, Nat.zero_le _, rfl, rfl, P1, C1, L1, B1, HR1, H01⟩
  case round =>
    obtain ⟨k, ce, hk, rfl, rfl, PR, CR, LR, BR, HK, HL⟩ := hrel
    clear P1 C1 L1 B1 HR1 H01
    by_cases hlt : k < L.length
    · have n1 : (k : Int) < (L.length : Int) := by omega
      by_cases hz : ce = 0
      · subst hz
        have HH0 := hideH (HL.out rfl)
        have HS := hideH (ckPicL_drop V F c L k hlt)
        have HK0 : Hid (res = ckPicL V F c (L.drop k)) := by show _ = _; rw [HK.out, if_pos rfl]
        clear HK HL
        obtain ⟨b, off, rfl, zb, vs, vc, fs, fc, ⟨g0, g1, g2⟩, hP, -⟩ := LR k hlt
        have n0 : (0 : Int) ≤ (k : Int) := by omega
        have HKZ : Hid (∀ wx, Below wr.heap.size wr wx → (wx.cell? ⟨w.heap.size, 0, none⟩ = some (.int .i64 V) ∧ wx.cell? ⟨w.heap.size, 1, none⟩ = some (.int .i64 F) ∧ wx.cell? ⟨w.heap.size, 2, none⟩ = some (.slice s c.length cap)) ∧ (wx.cell? ⟨b, off + k * 3, none⟩ = some (.bool L[k].none) ∧ wx.cell? ⟨b, off + k * 3 + 1, none⟩ = some (.slice vs L[k].vars.length vc) ∧ wx.cell? ⟨b, off + k * 3 + 2, none⟩ = some (.slice fs L[k].flds.length fc))) := fun wx hx => ⟨(PR.call hx).1, by rw [hx.cell (by simp only; exact zb)]; exact g0, by rw [hx.cell (by simp only; exact zb)]; exact g1, by rw [hx.cell (by simp only; exact zb)]; exact g2⟩
        have HD : Below wr.heap.size wr wr.drew := (Below.refl _ _).drew
        clear g0 g1 g2
        go_wp2
        refine wp_region_z (S := (fun wx => (wx.cell? ⟨w.heap.size, 0, none⟩ = some (.int .i64 V) ∧ wx.cell? ⟨w.heap.size, 1, none⟩ = some (.int .i64 F) ∧ wx.cell? ⟨w.heap.size, 2, none⟩ = some (.slice s c.length cap)) ∧ (wx.cell? ⟨b, off + k * 3, none⟩ = some (.bool L[k].none) ∧ wx.cell? ⟨b, off + k * 3 + 1, none⟩ = some (.slice vs L[k].vars.length vc) ∧ wx.cell? ⟨b, off + k * 3 + 2, none⟩ = some (.slice fs L[k].flds.length fc)))) [] (by kernel_rfl) (HKZ.out _ HD) (fun hHeld => ?_)
        refine tkZ 0 ?_ ?_ ?_
        rotate_left
        · exact rn
        (try simp only [Act.put, List.getElem_toArray, List.getElem_cons_zero, List.getElem_cons_succ, List.setIfInBounds_toArray, List.set_cons_zero, List.set_cons_succ])
        refine tkZ 1 ?_ ?_ ?_
        rotate_left
        · exact rn
        (try simp only [Act.put, List.getElem_toArray, List.getElem_cons_zero, List.getElem_cons_succ, List.setIfInBounds_toArray, List.set_cons_zero, List.set_cons_succ])
        refine tkZ 2 ?_ ?_ ?_
        rotate_left
        · exact rn
        (try simp only [Act.put, List.getElem_toArray, List.getElem_cons_zero, List.getElem_cons_succ, List.setIfInBounds_toArray, List.set_cons_zero, List.set_cons_succ])
        refine tkZ 3 ?_ ?_ ?_
        rotate_left
        · exact rn
        (try simp only [Act.put, List.getElem_toArray, List.getElem_cons_zero, List.getElem_cons_succ, List.setIfInBounds_toArray, List.set_cons_zero, List.set_cons_succ])
        refine tkZ 4 ?_ ?_ ?_
        rotate_left
        · exact rn
        (try simp only [Act.put, List.getElem_toArray, List.getElem_cons_zero, List.getElem_cons_succ, List.setIfInBounds_toArray, List.set_cons_zero, List.set_cons_succ])
        refine wpAnyZ_one (i := 5) rfl (by kernel_rfl) (fun K hK => ?_)
        go_simp
        go_at_call 75
        refine (checkPicture_any V F s c cap L[k] vs vc fs fc _ (CR.call HD) (hP.call HD) HH0.out).mono ?_
        rintro e w5 ⟨rfl, hb5⟩
        have HB : Below wr.heap.size wr w5 := HD.trans (hb5.mono HD.size)
        go_wp2_with fail
        refine hK.out _ _ (HKZ.out _ HB) (fun hHeld => ?_)
        clear hK K
        (try simp only [Act.put, List.getElem_toArray, List.getElem_cons_zero, List.getElem_cons_succ, List.setIfInBounds_toArray, List.set_cons_zero, List.set_cons_succ])
        refine tkZ 6 ?_ ?_ ?_
        rotate_left
        · exact rn
        (try simp only [Act.put, List.getElem_toArray, List.getElem_cons_zero, List.getElem_cons_succ, List.setIfInBounds_toArray, List.set_cons_zero, List.set_cons_succ])
        refine wpAnyZ_done (by kernel_rfl) ?_ _
        have P2 := PR.call HB
        have C2 := CR.call HB
        have L2 := LR.below HB (Nat.le_refl _)
        have B2 := BR.trans (HB.mono BR.size)
        clear hb5 PR CR LR BR HB HKZ hP
        go_wp2
        go_roundw
        case rel => exact ⟨k + 1, ckPic V F c L[k], by omega, by go_num, rfl, P2, C2, L2, B2, by show _ = _; rw [HK0.out, HS.out], fun _ => HH0.out⟩
        case measure => simp [intOf]; omega
      · have hz' : (ce == 0) = false := by simpa using hz
        go_wp2
        go_ret
        exact ⟨ret_int (by rw [HK.out, if_neg hz]), BR⟩
    · go_wp2
      go_ret
      refine ⟨ret_int ?_, BR⟩
      rw [HK.out, List.drop_eq_nil_of_le (by omega)]
      by_cases hz : ce = 0
      · rw [if_pos hz, hz]; rfl
      · rw [if_neg hz]
end Go.Proofs.YtmapdpcfanecdaaGreat

namespace Go.Proofs.YtmapdpcfanecdaaGreat
set_option linter.unusedVariables false
set_option linter.unusedSimpArgs false
open Go.RowKit
theorem FRow.olden {w w' : World} {B : Nat} {v : Value} {L : List Rw} (h : FRow w B v L) (hs : ∀ b, B ≤ b → b < w.heap.size → w'.heap[b]? = w.heap[b]?) (hz : w.heap.size ≤ w'.heap.size) : FRow w' B v L := ⟨ownsI_same h.1 fun k hk => hs k (ownsI_lt h.1 hk).2 (ownsI_lt h.1 hk).1, fun x hx => ⟨(h.2 x hx).1.same (fun b hS hlt => hs b hS.1 hlt) hz, (h.2 x hx).2⟩⟩
/-- A picture that lies where S is true of the block. -/
def PicOn (S : Nat → Prop) (w : World) (x : Pic) (vs fs : Option Addr) : Prop := ∀ w2 : World, (∀ b, S b → b < w.heap.size → w2.heap[b]? = w.heap[b]?) → w.heap.size ≤ w2.heap.size → PicAt w2 x vs fs
section
variable {S S' : Nat → Prop} {w w' : World} {x : Pic} {vs fs : Option Addr}
theorem PicOn.at (h : PicOn S w x vs fs) : PicAt w x vs fs := h w (fun _ _ _ => rfl) (Nat.le_refl _)
theorem PicOn.mono (h : PicOn S w x vs fs) (hs : ∀ b, S b → b < w.heap.size → S' b) : PicOn S' w x vs fs := fun w2 h2 hz2 => h w2 (fun b hb hlt => h2 b (hs b hb hlt) hlt) hz2
theorem PicAt.same (h : PicAt w x vs fs) (hs : ∀ b, b < w.heap.size → w'.heap[b]? = w.heap[b]?) (hz : w.heap.size ≤ w'.heap.size) : PicAt w' x vs fs := by
  refine ⟨(h.1.inAll.same (fun b _ hb => hs b hb) hz).at, fun i hi => ?_⟩
  obtain ⟨b, off, e, hb, rs, rc, h1, h2, h3, h4⟩ := h.2 i hi
  exact ⟨b, off, e, Nat.lt_of_lt_of_le hb hz, rs, rc, by rw [World.cell?_of_block (a := ⟨b, off + i, none⟩) (hs b hb)]; exact h1, h2, h3, (h4.inAll.same (fun b _ hb => hs b hb) hz).at⟩
end
end Go.Proofs.YtmapdpcfanecdaaGreat
