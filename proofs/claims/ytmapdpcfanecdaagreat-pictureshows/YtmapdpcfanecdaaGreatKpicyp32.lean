/- Pictures that may be changed: their rows lie each in a block of its own. -/
import Derived.Test.YtmapdpcfanecdaaGreatKpicyp31
import Derived.Test.YtmapdpcfanecdaaGreatKpicyp09
import Derived.Deep.DeepCutAuto
import Derived.Laws.EntriesVeiled
import Derived.Test.YtmapdpcfanecdaaGreatKpicyp28
import Derived.Test.YtmapdpcfanecdaaGreatKpicyp23
import Derived.Laws.OwnMore
namespace Go.Proofs.YtmapdpcfanecdaaGreat
set_option linter.unusedVariables false
set_option linter.unusedSimpArgs false
open Go.RowKit
attribute [local go_sem ↓] Go.wp_at_zero Go.wp_at_succ

theorem XsAt.new1 (w : World) (x : Pic) (vs : Option Addr) (vc : Nat) (fs : Option Addr) (fc : Nat) (hP : PicAt w x vs fs) (h1 : x.vars.length ≤ vc ∧ vc ≤ maxLen) (h2 : x.flds.length ≤ fc ∧ fc ≤ maxLen) :
    XsAt (w.alloc (.cells #[.bool x.none, .slice vs x.vars.length vc, .slice fs x.flds.length fc] 58)) (some ⟨w.heap.size, 0, none⟩) [x] := by
  intro i hi
  obtain rfl : i = 0 := by simp at hi; omega
  exact ⟨w.heap.size, 0, rfl, by simp, vs, vc, fs, fc, by simp [go_sem], hP.call (by go_grown), h1, h2⟩
theorem XsAt.new2 (w : World) (x : Pic) (vs : Option Addr) (vc : Nat) (fs : Option Addr) (fc : Nat) (y : Pic) (us : Option Addr) (uc : Nat) (gs : Option Addr) (gc : Nat) (hP : PicAt w x vs fs) (h1 : x.vars.length ≤ vc ∧ vc ≤ maxLen) (h2 : x.flds.length ≤ fc ∧ fc ≤ maxLen) (hQ : PicAt w y us gs) (h3 : y.vars.length ≤ uc ∧ uc ≤ maxLen) (h4 : y.flds.length ≤ gc ∧ gc ≤ maxLen) :
    XsAt (w.alloc (.cells #[.bool x.none, .slice vs x.vars.length vc, .slice fs x.flds.length fc, .bool y.none, .slice us y.vars.length uc, .slice gs y.flds.length gc] 58)) (some ⟨w.heap.size, 0, none⟩) [x, y] := by
  intro i hi
  by_cases e : i = 0
  · subst e; exact ⟨w.heap.size, 0, rfl, by simp, vs, vc, fs, fc, by simp [go_sem], hP.call (by go_grown), h1, h2⟩
  · obtain rfl : i = 1 := by simp at hi; omega
    exact ⟨w.heap.size, 0, rfl, by simp, us, uc, gs, gc, by simp [go_sem], hQ.call (by go_grown), h3, h4⟩
set_option maxHeartbeats 4000000 in
set_option maxRecDepth 10000 in
theorem checkAllP_any (V F : Int) (s : Option Addr) (c : List Ins) (cap : Nat) (ls : Option Addr) (L : List Pic) (lc : Nat) (w : World) (hc : CodeAt w s c) (hL : XsAt w ls L) (hl : L.length ≤ 9223372036854775807) :
    Calls Tryz.prog 70 #[pv V F s c cap, .slice ls L.length lc] w fun e w' => e = .returned (.int .i64 (ckPics V F c L)) ∧ Below w.heap.size w w' := by
  have P0 := PrAt.new w V F s c cap
  have B0 : Below w.heap.size w (w.alloc (.cells #[.int .i64 V, .int .i64 F, .slice s c.length cap] 24)) := by go_grown
  have C0 := hc.below B0 (Nat.le_refl _)
  have L0 := hL.below B0 (Nat.le_refl _)
  have HC := hideH (codeCheck_any V F s cap c _ C0)
  clear hc hL
  by_cases h0 : ckProg V F c = 0
  · have er : ckPics V F c L = ckPicL V F c L := by unfold ckPics; rw [if_pos h0]
    obtain ⟨res, HR, hres⟩ : ∃ r, Hid (r = ckPicL V F c L) ∧ ckPics V F c L = r := ⟨_, rfl, er⟩
    rw [hres]
    rw [h0] at HC
    have H0 := hideH h0
    clear er hres h0
    go_enter Tryz.func70, Tryz.ntmps70
    go_wp2_with (go_at_call 66; fail)
    refine HC.out.mono ?_
    rintro e w1 ⟨rfl, hb1⟩
    have P1 := P0.call hb1
    have C1 := C0.call hb1
    have L1 := L0.below hb1 (Nat.le_refl _)
    have B1 := B0.trans (hb1.mono B0.size)
    clear hb1 P0 C0 L0 B0 HC
    go_wp2
    go_loopw [16] (fun i wr => ∃ k : Nat, k ≤ L.length ∧ i = .int .i64 k ∧ Below w1.heap.size w1 wr ∧ Hid (res = ckPicL V F c (L.drop k))) (fun i _ => L.length - (intOf i).toNat)
    case atStart => exact ⟨0, Nat.zero_le _, rfl, Below.refl _ _, HR⟩
    case round =>
      obtain ⟨k, hk, rfl, hbr, HK⟩ := hrel
      by_cases hlt : k < L.length
      · have n0 : (0 : Int) ≤ (k : Int) := by omega
        have n1 : (k : Int) < (L.length : Int) := by omega
        have HS := hideH (ckPicL_drop V F c L k hlt)
        obtain ⟨b, off, rfl, zb, vs, vc, fs, fc, ⟨g0, g1, g2⟩, hP, hv, hf⟩ := (L1.below hbr (Nat.le_refl _)) k hlt
        have X2 := XAt.new wr L[k] vs vc fs fc
        have hb2 : Below wr.heap.size wr (wr.alloc (.cells #[.bool L[k].none, .slice vs L[k].vars.length vc, .slice fs L[k].flds.length fc] 58)) := by go_grown
        have hb12 := hbr.trans (hb2.mono hbr.size)
        have P2 := P1.call hb12
        have hP2 := hP.call hb2
        go_upto_region 7 with fail
        generalize wr.alloc (.cells #[.bool L[k].none, .slice vs L[k].vars.length vc, .slice fs L[k].flds.length fc] 58) = w2 at *
        clear g0 g1 g2
        obtain ⟨⟨p0, p1, p2⟩, pz⟩ := id P2
        obtain ⟨⟨x0, x1, x2⟩, xz, -⟩ := id X2
        go_wp2_with (go_at_call 109; fail)
        refine (checkPartsP_any V F s c cap L[k] vs vc fs fc _ (C1.call hb12) hP2 hv.1 hv.2 H0.out).mono ?_
        rintro e w3 ⟨rfl, hb3⟩
        have hb13 := hb12.trans (hb3.mono hb12.size)
        clear p0 p1 p2 pz x0 x1 x2 xz
        generalize ckPic V F c L[k] = ce at *
        by_cases hz : ce = 0
        · have e1 : (ce != 0) = false := by simpa using hz
          go_wp2
          go_roundw
          case rel => exact ⟨k + 1, by omega, by go_num, hb13, by show _ = _; rw [HK.out, HS.out, if_pos hz]⟩
          case measure => simp [intOf]; omega
        · have e1 : (ce != 0) = true := by simpa using hz
          go_wp2
          go_ret
          exact ⟨ret_int (by rw [HK.out, HS.out, if_neg hz]), B1.trans (hb13.mono B1.size)⟩
      · have n1 : ¬ (k : Int) < (L.length : Int) := by omega
        go_wp2
        go_ret
        refine ⟨ret_int ?_, B1.trans (hbr.mono B1.size)⟩
        rw [HK.out, List.drop_eq_nil_of_le (by omega)]
        rfl
  · have er : ckPics V F c L = ckProg V F c := by unfold ckPics; rw [if_neg h0]
    rw [er]
    have e1 : (ckProg V F c != 0) = true := by simpa using h0
    generalize ckProg V F c = ce at *
    clear er h0
    go_enter Tryz.func70, Tryz.ntmps70
    go_wp2_with (go_at_call 66; fail)
    refine HC.out.mono ?_
    rintro e w1 ⟨rfl, hb1⟩
    go_wp2
    go_ret
    exact ⟨rfl, B0.trans (hb1.mono B0.size)⟩

set_option maxHeartbeats 1000000 in
set_option maxRecDepth 10000 in
theorem checkP_any (V F : Int) (s : Option Addr) (c : List Ins) (cap : Nat) (x : Pic) (vs : Option Addr) (vc : Nat) (fs : Option Addr) (fc : Nat) (w : World) (hc : CodeAt w s c) (hP : PicAt w x vs fs) (h1 : x.vars.length ≤ vc ∧ vc ≤ maxLen) (h2 : x.flds.length ≤ fc ∧ fc ≤ maxLen) :
    Calls Tryz.prog 32 #[pv V F s c cap, xv x vs vc fs fc] w fun e w' => e = .returned (.int .i64 (ckPics V F c [x])) ∧ Below w.heap.size w w' := by
  have B1 : Below w.heap.size w (((w.alloc (.cells #[.int .i64 V, .int .i64 F, .slice s c.length cap] 24)).alloc (.cells #[.bool x.none, .slice vs x.vars.length vc, .slice fs x.flds.length fc] 58)).alloc (.cells #[.bool x.none, .slice vs x.vars.length vc, .slice fs x.flds.length fc] 58)) := by go_grown
  have HC := hideH (checkAllP_any V F s c cap (some ⟨((w.alloc (.cells #[.int .i64 V, .int .i64 F, .slice s c.length cap] 24)).alloc (.cells #[.bool x.none, .slice vs x.vars.length vc, .slice fs x.flds.length fc] 58)).heap.size, 0, none⟩) [x] 1 (((w.alloc (.cells #[.int .i64 V, .int .i64 F, .slice s c.length cap] 24)).alloc (.cells #[.bool x.none, .slice vs x.vars.length vc, .slice fs x.flds.length fc] 58)).alloc (.cells #[.bool x.none, .slice vs x.vars.length vc, .slice fs x.flds.length fc] 58)) (hc.below B1 (Nat.le_refl _)) (XsAt.new1 ((w.alloc (.cells #[.int .i64 V, .int .i64 F, .slice s c.length cap] 24)).alloc (.cells #[.bool x.none, .slice vs x.vars.length vc, .slice fs x.flds.length fc] 58)) x vs vc fs fc (hP.below (B := w.heap.size) (by go_grown) (Nat.le_refl _)) h1 h2) (by simp))
  simp only [World.size_alloc] at HC
  go_enter Tryz.func32, Tryz.ntmps32
  go_wp2_with (go_at_call 70; fail)
  refine HC.out.mono ?_
  rintro e w1 ⟨rfl, hb1⟩
  go_wp2
  go_ret
  exact ⟨rfl, B1.trans (hb1.mono (by first | omega | exact B1.size))⟩
end Go.Proofs.YtmapdpcfanecdaaGreat

namespace Go.Proofs.YtmapdpcfanecdaaGreat
set_option linter.unusedVariables false
set_option linter.unusedSimpArgs false
open Go.RowKit
attribute [local go_sem ↓] Go.wp_at_zero Go.wp_at_succ

end Go.Proofs.YtmapdpcfanecdaaGreat

namespace Go.Proofs.YtmapdpcfanecdaaGreat
set_option linter.unusedVariables false
set_option linter.unusedSimpArgs false
open Go.RowKit
/-- A row of guesses, and where it lies. -/
structure Ro where
  rs : Option Addr
  rc : Nat
  l : List Gc
def roV (r : Ro) : Value := .slice r.rs r.l.length r.rc
def roG (r : Ro) : List Gs := r.l.map Gc.g
def roB (r : Ro) : Option Nat := (roV r).ownBlock
/-- A row of guesses in a block of its own, from block B on. -/
def RoOwn (w : World) (B : Nat) (r : Ro) : Prop := w.ownsRow B 29 7 (roV r) r.l.length (rowCells r.l)
section
variable {w w' : World} {B : Nat} {r : Ro}
theorem RoOwn.form (h : RoOwn w B r) (h0 : 0 < r.l.length) : ∃ b, r.rs = some ⟨b, 0, none⟩ ∧ roB r = some b ∧ B ≤ b ∧ b < w.heap.size := by
  obtain ⟨rs, rc, l⟩ := r
  rcases h.2 with ⟨e, h1⟩ | ⟨g, cap, cur, e, hb, hg, _⟩
  · simp only at h0 h1; omega
  · simp only [roV, Value.slice.injEq] at e
    exact ⟨g, e.1, by unfold roB roV; rw [e.1]; rfl, hb, (Array.getElem?_eq_some_iff.1 hg).1⟩
theorem RoOwn.caps (h : RoOwn w B r) : r.l.length ≤ r.rc ∧ r.rc ≤ maxLen := by
  rcases h.2 with ⟨e, h1⟩ | ⟨g, cap, cur, e, hb, hg, k1, k2, _⟩
  · simp only [roV, Value.slice.injEq] at e
    exact ⟨by omega, by rw [e.2.2]; exact Nat.zero_le _⟩
  · simp only [roV, Value.slice.injEq] at e
    rw [e.2.2]
    exact ⟨k1, k2⟩
theorem RoOwn.same (h : RoOwn w B r) (hs : ∀ b, roB r = some b → w'.heap[b]? = w.heap[b]?) : RoOwn w' B r := ownsI_same h hs
theorem RoOwn.lt (h : RoOwn w B r) {b : Nat} (hb : roB r = some b) : b < w.heap.size ∧ B ≤ b := ownsI_lt h hb
/-- What is read of a row. -/
theorem RoOwn.gets (h : RoOwn w B r) {S : Nat → Prop} (hg : ∀ x ∈ r.l, GcIn S w x) : GsIn (fun b => roB r = some b ∨ S b) w r.rs (roG r) := by
  intro i hi
  have hil : i < r.l.length := by simpa [roG] using hi
  obtain ⟨b, e, eb, hb, hz⟩ := h.form (by omega)
  have hx := hg _ (List.getElem_mem hil)
  have ei : (roG r)[i] = r.l[i].g := by simp [roG]
  rw [ei]
  have h1 : w.ownsRow B 29 7 (.slice (some ⟨b, 0, none⟩) r.l.length r.rc) r.l.length (rowCells r.l) := by rw [← e]; exact h
  refine ⟨b, 0, e, .inl eb, r.l[i].ss, r.l[i].cap, ⟨?_, hz⟩, hx.1.mono fun q hq _ => .inr hq, hx.2.1, hx.2.2⟩
  have hc : ∀ j, j < 7 → w.cell? ⟨b, i * 7 + j, none⟩ = (gcCells r.l[i])[j]? := fun j hj => by
    rw [← rowCells_get r.l i hil j hj]
    exact World.ownsRow.cellAt h1 _ (by omega)
  simp only [Nat.zero_add]
  exact ⟨hc 0 (by omega), hc 1 (by omega), hc 2 (by omega), hc 3 (by omega), hc 4 (by omega), hc 5 (by omega), hc 6 (by omega)⟩
end
/-- A block in which none of a picture's rows lies. -/
def Off (v : Ro) (fb : Option Nat) (L : List Ro) (b : Nat) : Prop := roB v ≠ some b ∧ fb ≠ some b ∧ ∀ r ∈ L, roB r ≠ some b
/-- A picture that may be changed: from block B on its rows lie each in a block of its own, their sites in others, of which T is true. -/
structure PicG (T : Nat → Prop) (B : Nat) (w : World) (v : Ro) (fs : Option Addr) (fc : Nat) (L : List Ro) : Prop where
  vars : RoOwn w B v
  flds : w.ownsRow B 41 1 (.slice fs L.length fc) L.length (L.map roV)
  rows : ∀ r ∈ L, RoOwn w B r
  sv : ∀ g ∈ v.l, GcIn (fun b => T b ∧ Off v (Value.slice fs L.length fc).ownBlock L b) w g
  sf : ∀ r ∈ L, ∀ g ∈ r.l, GcIn (fun b => T b ∧ Off v (Value.slice fs L.length fc).ownBlock L b) w g
  dv : ∀ b, roB v = some b → (Value.slice fs L.length fc).ownBlock ≠ some b ∧ ∀ r ∈ L, roB r ≠ some b
  df : ∀ b, (Value.slice fs L.length fc).ownBlock = some b → ∀ r ∈ L, roB r ≠ some b
  dr : L.Pairwise fun r q => ∀ b, roB r = some b → roB q ≠ some b
def picOf (n : Bool) (v : Ro) (L : List Ro) : Pic := ⟨n, roG v, L.map roG⟩
section
variable {T T' : Nat → Prop} {B : Nat} {w w' : World} {v : Ro} {fs : Option Addr} {fc : Nat} {L : List Ro}
theorem PicG.mono (h : PicG T B w v fs fc L) (hT : ∀ b, T b → b < w.heap.size → T' b) : PicG T' B w v fs fc L :=
  ⟨h.vars, h.flds, h.rows, fun g hg => ⟨(h.sv g hg).1.mono fun b hb hz => ⟨hT b hb.1 hz, hb.2⟩, (h.sv g hg).2⟩, fun r hr g hg => ⟨(h.sf r hr g hg).1.mono fun b hb hz => ⟨hT b hb.1 hz, hb.2⟩, (h.sf r hr g hg).2⟩, h.dv, h.df, h.dr⟩
theorem PicG.same (h : PicG T B w v fs fc L) (hs : ∀ b, T b ∨ B ≤ b → b < w.heap.size → w'.heap[b]? = w.heap[b]?) (hz : w.heap.size ≤ w'.heap.size) : PicG T B w' v fs fc L :=
  ⟨h.vars.same fun b hb => hs b (.inr (h.vars.lt hb).2) (h.vars.lt hb).1, ownsI_same h.flds fun b hb => hs b (.inr (ownsI_lt h.flds hb).2) (ownsI_lt h.flds hb).1, fun r hr => (h.rows r hr).same fun b hb => hs b (.inr ((h.rows r hr).lt hb).2) ((h.rows r hr).lt hb).1,
   fun g hg => ⟨(h.sv g hg).1.same (fun b hb hlt => hs b (.inl hb.1) hlt) hz, (h.sv g hg).2⟩, fun r hr g hg => ⟨(h.sf r hr g hg).1.same (fun b hb hlt => hs b (.inl hb.1) hlt) hz, (h.sf r hr g hg).2⟩, h.dv, h.df, h.dr⟩
theorem PicG.fcap (h : PicG T B w v fs fc L) : L.length ≤ fc ∧ fc ≤ maxLen := by
  rcases h.flds.2 with ⟨e, h1⟩ | ⟨g, cap, cur, e, hb, hg, k1, k2, _⟩
  · simp only [Value.slice.injEq] at e
    exact ⟨by omega, by rw [e.2.2]; exact Nat.zero_le _⟩
  · simp only [Value.slice.injEq] at e
    rw [e.2.2]
    exact ⟨k1, k2⟩
theorem PicG.fform (h : PicG T B w v fs fc L) (h0 : 0 < L.length) : ∃ b, fs = some ⟨b, 0, none⟩ ∧ B ≤ b ∧ b < w.heap.size ∧ ∀ k (hk : k < L.length), w.cell? ⟨b, k, none⟩ = some (roV L[k]) := by
  rcases h.flds.2 with ⟨e, h1⟩ | ⟨g, cap, cur, e, hb, hg, k1, k2, _⟩
  · omega
  · simp only [Value.slice.injEq] at e
    obtain ⟨e1, -, e3⟩ := e
    subst e1 e3
    refine ⟨g, rfl, hb, (Array.getElem?_eq_some_iff.1 hg).1, fun k hk => ?_⟩
    have := World.ownsRow.cellAt h.flds k (by omega)
    rw [this]
    simp [hk]
theorem PicG.at (h : PicG T B w v fs fc L) (n : Bool) : PicAt w (picOf n v L) v.rs fs := by
  refine ⟨(h.vars.gets h.sv).at, fun i hi => ?_⟩
  have hil : i < L.length := by simpa [picOf] using hi
  obtain ⟨b, e, hb, hz, hc⟩ := h.fform (by omega)
  have ei : (picOf n v L).flds[i] = roG L[i] := by simp [picOf]
  rw [ei]
  have hm := List.getElem_mem hil
  have hcp := (h.rows _ hm).caps
  refine ⟨b, 0, e, hz, L[i].rs, L[i].rc, ?_, by simpa [roG] using hcp.1, hcp.2, ((h.rows _ hm).gets (h.sf _ hm)).at⟩
  rw [Nat.zero_add, hc i hil]
  simp [roV, roG]
theorem PicG.on (h : PicG T B w v fs fc L) (n : Bool) : PicOn (fun b => T b ∨ B ≤ b) w (picOf n v L) v.rs fs := fun w2 hs hz => (h.same hs hz).at n
theorem PicG.vcap (h : PicG T B w v fs fc L) (n : Bool) : (picOf n v L).vars.length ≤ v.rc ∧ v.rc ≤ maxLen := by simpa [picOf, roG] using h.vars.caps
theorem PicG.fcap' (h : PicG T B w v fs fc L) (n : Bool) : (picOf n v L).flds.length ≤ fc ∧ fc ≤ maxLen := by simpa [picOf] using h.fcap
end
end Go.Proofs.YtmapdpcfanecdaaGreat
