/- The document's DoGuess: kind 10. -/
import Derived.Test.YtmapdpcfanecdabGreatKstpxp28
import Derived.Test.YtmapdpcfanecdabGreatKstpxp29
import Derived.Test.YtmapdpcfanecdabGreatKstpxp30
import Derived.Test.YtmapdpcfanecdabGreatKstpxp01
import Derived.Test.YtmapdpcfanecdabGreatKstpxp09
import Derived.Deep.DeepCutAuto
import Derived.Test.YtmapdpcfanecdabGreatKstpxp31
import Derived.Deep.RegionHeldLaw
import Derived.Test.YtmapdpcfanecdabGreatKstpxp27
import Derived.Test.YtmapdpcfanecdabGreatKstpxp26
set_option linter.unusedSimpArgs false
set_option linter.unusedVariables false
namespace Go.Proofs.YtmapdpcfanecdabGreat
section
open Go.RowKit

/-- Two guesses put together. -/
def togGs (op : Sp → Sp → Sp) (g h : Gs) : Gs := ⟨g.n || h.n, op g.sp h.sp, g.t || h.t, g.f || h.f, sitesOf [g, h]⟩

theorem ckAllG_two {V F : Int} {c : List Ins} {g h : Gs} (hk : ckAllG V F c [g, h] = 0) : ckProg V F c = 0 ∧ ckGs c g = 0 ∧ ckGs c h = 0 := by
 unfold ckAllG at hk
 split at hk
 ·rename_i hp
  simp only [ckGss] at hk
  split at hk
  ·rename_i hg
   split at hk
   ·rename_i hh
    exact ⟨hp, hg, hh⟩
   ·contradiction
  ·contradiction
 ·contradiction

theorem ckAllG_sites {V F : Int} {c : List Ins} {g h : Gs} (hk : ckAllG V F c [g, h] = 0) : ((∀ x ∈ g.s, 0 ≤ x ∧ x < 60) ∧ rising g.s = true) ∧ ((∀ x ∈ h.s, 0 ≤ x ∧ x < 60) ∧ rising h.s = true) := by
 obtain ⟨a, b, d⟩ := ckAllG_two hk
 have hl : c.length ≤ 60 := by
  unfold ckProg at a
  split at a
  ·contradiction
  ·split at a
   ·contradiction
   ·omega
 exact ⟨ckGs_sites hl b, ckGs_sites hl d⟩
end
section
set_option maxHeartbeats 4000000
set_option maxRecDepth 10000
open Go.RowKit
attribute [local go_sem ↓] Go.wp_at_zero Go.wp_at_succ

/-- What a stepper may rely on: program and picture are right, and it stands at an instruction. -/
structure SCtx (V F : Int) (c : List Ins) (x : Pic) (vc fc : Nat) (i : Ins) (at_ : Int) : Prop where
 h0 : ckProg V F c = 0
 kx : PicOk V F c x
 hi : i = insAt c at_
 a0 : 0 ≤ at_
 a1 : at_ < c.length
 cv : x.vars.length ≤ vc ∧ vc ≤ maxLen
 cf : x.flds.length ≤ fc ∧ fc ≤ maxLen
section
variable {V F : Int} {c : List Ins} {x : Pic} {vc fc : Nat} {i : Ins} {at_ : Int}
theorem SCtx.one (K : SCtx V F c x vc fc i at_) : ckOne V F c.length i = 0 := by rw [K.hi]; exact (progOk_of K.h0).each _ (insAt_mem K.a0 K.a1)
theorem SCtx.lens (K : SCtx V F c x vc fc i at_) : x.vars.length ≤ 8 ∧ c.length ≤ 60 ∧ x.flds.length = c.length ∧ 0 ≤ F ∧ F ≤ 3 ∧ 0 ≤ V := by
 have hp := progOk_of K.h0
 have := hp.v1
 have := hp.v8
 have := hp.f0
 have := hp.f3
 have := hp.len
 have := K.kx.vars
 have := K.kx.flds
 omega
theorem gAt_get {x : Pic} {k : Nat} (h : k < x.vars.length) : gAt x (k : Int) = x.vars[k] := by unfold gAt; simp [List.getD, List.getElem?_eq_getElem h]
theorem SCtx.varA (K : SCtx V F c x vc fc i at_) (hA : nA i.k = true) : ∃ k : Nat, i.a = k ∧ k < x.vars.length := by
 have := (ckOne_parts K.one).2.2.1 hA
 have hv := K.kx.vars
 obtain ⟨k, hk⟩ := Int.eq_ofNat_of_zero_le this.1
 exact ⟨k, hk, by omega⟩
theorem SCtx.varB (K : SCtx V F c x vc fc i at_) (hB : nB i.k = true) : ∃ k : Nat, i.b = k ∧ k < x.vars.length := by
 have := (ckOne_parts K.one).2.2.2.1 hB
 have hv := K.kx.vars
 obtain ⟨k, hk⟩ := Int.eq_ofNat_of_zero_le this.1
 exact ⟨k, hk, by omega⟩
theorem SCtx.varTo (K : SCtx V F c x vc fc i at_) (hT : nTo i.k = true) : ∃ k : Nat, i.tgt = k ∧ k < x.vars.length := by
 have := (ckOne_parts K.one).2.1 hT
 have hv := K.kx.vars
 obtain ⟨k, hk⟩ := Int.eq_ofNat_of_zero_le this.1
 exact ⟨k, hk, by omega⟩
theorem SCtx.uno (K : SCtx V F c x vc fc i at_) {g : Gs} (hg : ckGs c g = 0) : ckAllG V F c [g] = 0 := by unfold ckAllG; rw [if_pos K.h0]; unfold ckGss; rw [if_pos hg]; rfl
theorem SCtx.duo (K : SCtx V F c x vc fc i at_) {g h : Gs} (hg : ckGs c g = 0) (hh : ckGs c h = 0) : ckAllG V F c [g, h] = 0 := by unfold ckAllG; rw [if_pos K.h0]; unfold ckGss; rw [if_pos hg]; unfold ckGss; rw [if_pos hh]; rfl
end
theorem truthS_any (sb : Nat) (i : Ins) (V F : Int) (s : Option Addr) (c : List Ins) (cap : Nat) (at_ : Int) (x : Pic) (vs : Option Addr) (vc : Nat) (fs : Option Addr) (fc : Nat) (ev : Value) (wr fl : Bool) (w : World) (hS : Cells w sb (stpC i V F s c cap at_ x vs vc fs fc ev wr fl)) (hc : CodeAt w s c) (hx : PicAt w x vs fs) (K : SCtx V F c x vc fc i at_) (hA : nA i.k = true) :
  Calls Tryz.prog 51 #[.pointer (some ⟨sb, 0, none⟩)] w fun e w' => e = .returned (.tuple #[.bool (yesGs (gAt x i.a)), .bool (noGs (gAt x i.a))]) ∧ Below w.heap.size w w' := by
 obtain ⟨k, ek, hk⟩ := K.varA hA
 have eg : gAt x i.a = x.vars[k] := by rw [ek, gAt_get hk]
 rw [eg]
 have hgk := K.kx.gv _ (List.getElem_mem hk)
 obtain ⟨b1, o1, e1, ss1, g1, G1, I1, k1, m1⟩ := hx.1 k hk
 subst e1
 have n0 : (0 : Int) ≤ (k : Int) := by omega
 have n1 : (k : Int) < (x.vars.length : Int) := by omega
 have HT : Hid (∀ wx, Below w.heap.size w wx → Calls Tryz.prog 88 #[pv V F s c cap, gv x.vars[k] ss1 g1] wx fun e w' => e = .returned (.tuple #[.bool (yesGs x.vars[k]), .bool (noGs x.vars[k]), .int .i64 0]) ∧ Below wx.heap.size wx w') := fun wx hb => truthF_ok V F s c cap x.vars[k] ss1 g1 wx (hc.call hb) (I1.call hb) k1 m1 (K.uno hgk)
 have HKZ : Hid (∀ wx, Below w.heap.size w wx → (wx.cell? ⟨sb, 6, none⟩ = some (.int .i64 V) ∧ wx.cell? ⟨sb, 7, none⟩ = some (.int .i64 F) ∧ wx.cell? ⟨sb, 8, none⟩ = some (.slice s c.length cap)) ∧ (wx.cell? ⟨sb, 2, none⟩ = some (.int .i64 (k : Int)) ∧ wx.cell? ⟨sb, 11, none⟩ = some (.slice (some ⟨b1, o1, none⟩) x.vars.length vc)) ∧ (wx.cell? ⟨b1, o1 + k * 7, none⟩ = some (.bool x.vars[k].n) ∧ wx.cell? ⟨b1, o1 + k * 7 + 1, none⟩ = some (.bool x.vars[k].sp.n) ∧ wx.cell? ⟨b1, o1 + k * 7 + 2, none⟩ = some (.int .i64 x.vars[k].sp.lo) ∧ wx.cell? ⟨b1, o1 + k * 7 + 3, none⟩ = some (.int .i64 x.vars[k].sp.hi) ∧ wx.cell? ⟨b1, o1 + k * 7 + 4, none⟩ = some (.bool x.vars[k].t) ∧ wx.cell? ⟨b1, o1 + k * 7 + 5, none⟩ = some (.bool x.vars[k].f) ∧ wx.cell? ⟨b1, o1 + k * 7 + 6, none⟩ = some (.slice ss1 x.vars[k].s.length g1))) := fun wx hb => ⟨⟨(hS.call hb).1 6 _ rfl, (hS.call hb).1 7 _ rfl, (hS.call hb).1 8 _ rfl⟩, ⟨by rw [← ek]; exact (hS.call hb).1 2 _ rfl, (hS.call hb).1 11 _ rfl⟩, (G1.call hb).1⟩
 clear hS hc hx eg ek hA
 go_enter Tryz.func51, Tryz.ntmps51
 go_upto_region 1 with fail
 have B1 : Below w.heap.size w w.drew := (Below.refl _ _).drew
 refine wp_region_held_drew (S := (fun wx => (wx.cell? ⟨sb, 6, none⟩ = some (.int .i64 V) ∧ wx.cell? ⟨sb, 7, none⟩ = some (.int .i64 F) ∧ wx.cell? ⟨sb, 8, none⟩ = some (.slice s c.length cap)) ∧ (wx.cell? ⟨sb, 2, none⟩ = some (.int .i64 (k : Int)) ∧ wx.cell? ⟨sb, 11, none⟩ = some (.slice (some ⟨b1, o1, none⟩) x.vars.length vc)) ∧ (wx.cell? ⟨b1, o1 + k * 7, none⟩ = some (.bool x.vars[k].n) ∧ wx.cell? ⟨b1, o1 + k * 7 + 1, none⟩ = some (.bool x.vars[k].sp.n) ∧ wx.cell? ⟨b1, o1 + k * 7 + 2, none⟩ = some (.int .i64 x.vars[k].sp.lo) ∧ wx.cell? ⟨b1, o1 + k * 7 + 3, none⟩ = some (.int .i64 x.vars[k].sp.hi) ∧ wx.cell? ⟨b1, o1 + k * 7 + 4, none⟩ = some (.bool x.vars[k].t) ∧ wx.cell? ⟨b1, o1 + k * 7 + 5, none⟩ = some (.bool x.vars[k].f) ∧ wx.cell? ⟨b1, o1 + k * 7 + 6, none⟩ = some (.slice ss1 x.vars[k].s.length g1)))) (by kernel_rfl) (HKZ.out _ B1) (fun hHeld => ?_)
 generalize w.drew = w1 at *
 refine tH 0 ?_ ?_;refine sm ?_
 refine tH 1 ?_ ?_;refine sm ?_
 refine tH 2 ?_ ?_;refine sm ?_
 refine tH 3 ?_ ?_;refine sm ?_
 refine tH 4 ?_ ?_;refine sm ?_
 refine tH 5 ?_ ?_;refine sm ?_
 refine tH 6 ?_ ?_;refine sm ?_
 refine tH 7 ?_ ?_;refine sm ?_
 refine tH 8 ?_ ?_;refine sm ?_
 refine tH 9 ?_ ?_;refine sm ?_
 refine tH 10 ?_ ?_;refine sm ?_
 refine tH 11 ?_ ?_;refine sm ?_
 refine tH 12 ?_ ?_;refine sm ?_
 refine tH 13 ?_ ?_;refine sm ?_
 refine tH 14 ?_ ?_;refine sm ?_
 refine tH 15 ?_ ?_;refine sm ?_
 refine wpAnyH_ready (rs := [16]) (by kernel_rfl) (by simp) ?_
 refine AllReadyH.cons rfl (fun K hK => ?_) AllReadyH.nil
 go_simp
 refine (HT.out w1 B1).mono ?_
 rintro e w2 ⟨rfl, hb2⟩
 have B2 := B1.trans (hb2.mono (B1.size))
 refine hK.out _ _ (HKZ.out _ B2) (fun hHeld2 => ?_)
 clear hK K hb2  B1
 refine sm ?_
 refine tH 17 ?_ ?_;refine sm ?_
 refine tH 18 ?_ ?_;refine sm ?_
 refine tH 19 ?_ ?_;refine sm ?_
 refine tH 20 ?_ ?_;refine sm ?_
 refine tH 21 ?_ ?_;refine sm ?_
 refine tH 22 ?_ ?_;refine sm ?_
 refine tH 23 ?_ ?_;refine sm ?_
 refine wpAnyH_done (by kernel_rfl) ?_ _
 go_wp2
 refine bodyPost_ret (v := .tuple #[.bool (yesGs x.vars[k]), .bool (noGs x.vars[k])]) (by simp [results, Tryz.results51, go_sem]) rfl ⟨rfl, B2⟩
/-- A block is changed, and new ones are made. -/
def ModS (sb : Nat) (w w' : World) : Prop := Below sb w w' ∧ ∀ b, b < w.heap.size → b ≠ sb → w'.heap[b]? = w.heap[b]?
theorem ModS.of {sb : Nat} {w w' : World} (h : Below w.heap.size w w') (hs : sb < w.heap.size) : ModS sb w w' := ⟨h.mono (Nat.le_of_lt hs), fun b hb _ => h.block b hb⟩
theorem ModS.trans {sb : Nat} {w w1 w2 : World} (h : ModS sb w w1) (h' : ModS sb w1 w2) : ModS sb w w2 := ⟨h.1.trans h'.1, fun b hb hne => by rw [h'.2 b (Nat.lt_of_lt_of_le hb h.1.size) hne, h.2 b hb hne]⟩
theorem ModS.put {sb : Nat} {w w1 : World} (h : ModS sb w w1) (j : Nat) (u : Value) : ModS sb w (w1.setCell ⟨sb, j, none⟩ u) := ⟨h.1.setCell (Nat.le_refl _) _, fun b hb hne => by rw [Below.heap_setCell _ _ _ _ hne]; exact h.2 b hb hne⟩
theorem things_any (sb : Nat) (i : Ins) (V F : Int) (s : Option Addr) (c : List Ins) (cap : Nat) (at_ : Int) (x : Pic) (vs : Option Addr) (vc : Nat) (fs : Option Addr) (fc : Nat) (ev : Value) (wr fl : Bool) (w0 w : World) (hS : Cells w sb (stpC i V F s c cap at_ x vs vc fs fc ev wr fl)) (hc0 : CodeAt w0 s c) (hx0 : PicAt w0 x vs fs) (hz0 : w0.heap.size ≤ sb) (hB0 : Below w0.heap.size w0 w) (K : SCtx V F c x vc fc i at_) (hA : nA i.k = true) :
  Calls Tryz.prog 80 #[.pointer (some ⟨sb, 0, none⟩)] w fun e w' => (∃ ss gc, e = .returned (.slice ss (gAt x i.a).s.length gc) ∧ IntsAt w0 ss (gAt x i.a).s ∧ (gAt x i.a).s.length ≤ gc ∧ gc ≤ maxLen) ∧ Cells w' sb (stpC i V F s c cap at_ x vs vc fs fc ev (noThing (gAt x i.a)) fl) ∧ ModS sb w w' := by
 have hx := hx0
 obtain ⟨k, ek, hk⟩ := K.varA hA
 have eg : gAt x i.a = x.vars[k] := by rw [ek, gAt_get hk]
 rw [eg]
 have hgk := K.kx.gv _ (List.getElem_mem hk)
 obtain ⟨b1, o1, e1, ss1, g1, G1, I1, k1, m1⟩ := hx.1 k hk
 subst e1
 have n0 : (0 : Int) ≤ (k : Int) := by omega
 have n1 : (k : Int) < (x.vars.length : Int) := by omega
 have I0 := I1
 have HKZ : Hid (∀ wx, Below w.heap.size w wx → (wx.cell? ⟨sb, 2, none⟩ = some (.int .i64 (k : Int)) ∧ wx.cell? ⟨sb, 11, none⟩ = some (.slice (some ⟨b1, o1, none⟩) x.vars.length vc)) ∧ (wx.cell? ⟨b1, o1 + k * 7, none⟩ = some (.bool x.vars[k].n) ∧ wx.cell? ⟨b1, o1 + k * 7 + 1, none⟩ = some (.bool x.vars[k].sp.n) ∧ wx.cell? ⟨b1, o1 + k * 7 + 2, none⟩ = some (.int .i64 x.vars[k].sp.lo) ∧ wx.cell? ⟨b1, o1 + k * 7 + 3, none⟩ = some (.int .i64 x.vars[k].sp.hi) ∧ wx.cell? ⟨b1, o1 + k * 7 + 4, none⟩ = some (.bool x.vars[k].t) ∧ wx.cell? ⟨b1, o1 + k * 7 + 5, none⟩ = some (.bool x.vars[k].f) ∧ wx.cell? ⟨b1, o1 + k * 7 + 6, none⟩ = some (.slice ss1 x.vars[k].s.length g1))) := fun wx hb => ⟨⟨by rw [← ek]; exact (hS.call hb).1 2 _ rfl, (hS.call hb).1 11 _ rfl⟩, ((G1.call hB0).call hb).1⟩
 have HSS := hideH hS
 clear hS hc0 hx hx0 eg ek hA hgk G1
 go_enter Tryz.func80, Tryz.ntmps80
 go_upto_region 1 with fail
 go_cut [3] (fun t3 wc => ∃ ab, t3 = .pointer (some ⟨ab, 0, none⟩) ∧ w.heap.size ≤ ab ∧ Cells wc ab [.bool x.vars[k].n, .bool x.vars[k].sp.n, .int .i64 x.vars[k].sp.lo, .int .i64 x.vars[k].sp.hi, .bool x.vars[k].t, .bool x.vars[k].f, .slice ss1 x.vars[k].s.length g1] ∧ Below w.heap.size w wc)
 case first =>
  rename_i J1 K1 hJ1 hK1
  have B1 : Below w.heap.size w w.drew := (Below.refl _ _).drew
  refine wp_region_held_drew (S := (fun wx => (wx.cell? ⟨sb, 2, none⟩ = some (.int .i64 (k : Int)) ∧ wx.cell? ⟨sb, 11, none⟩ = some (.slice (some ⟨b1, o1, none⟩) x.vars.length vc)) ∧ (wx.cell? ⟨b1, o1 + k * 7, none⟩ = some (.bool x.vars[k].n) ∧ wx.cell? ⟨b1, o1 + k * 7 + 1, none⟩ = some (.bool x.vars[k].sp.n) ∧ wx.cell? ⟨b1, o1 + k * 7 + 2, none⟩ = some (.int .i64 x.vars[k].sp.lo) ∧ wx.cell? ⟨b1, o1 + k * 7 + 3, none⟩ = some (.int .i64 x.vars[k].sp.hi) ∧ wx.cell? ⟨b1, o1 + k * 7 + 4, none⟩ = some (.bool x.vars[k].t) ∧ wx.cell? ⟨b1, o1 + k * 7 + 5, none⟩ = some (.bool x.vars[k].f) ∧ wx.cell? ⟨b1, o1 + k * 7 + 6, none⟩ = some (.slice ss1 x.vars[k].s.length g1)))) (by kernel_rfl) (HKZ.out _ B1) (fun hHeld => ?_)
  generalize w.drew = w1 at *
  refine tH 0 ?_ ?_;refine sm ?_
  refine tH 1 ?_ ?_;refine sm ?_
  refine tH 2 ?_ ?_;refine sm ?_
  refine tH 3 ?_ ?_;refine sm ?_
  refine tH 4 ?_ ?_;refine sm ?_
  refine tH 5 ?_ ?_;refine sm ?_
  refine tH 6 ?_ ?_;refine sm ?_
  refine tH 7 ?_ ?_;refine sm ?_
  refine tH 8 ?_ ?_;refine sm ?_
  refine tH 9 ?_ ?_;refine sm ?_
  refine tH 10 ?_ ?_;refine sm ?_
  refine tH 11 ?_ ?_;refine sm ?_
  refine wpAnyH_ready (rs := [12]) (by kernel_rfl) (by simp) ?_
  refine AllReadyH.cons rfl (fun K hK => ?_) AllReadyH.nil
  go_simp
  have hb2 : Below w1.heap.size w1 (w1.alloc (.cells #[.bool false, .bool false, .int .i64 0, .int .i64 0, .bool false, .bool false, .slice none 0 0] 61)) := by go_grown
  have B2 := B1.trans (hb2.mono (B1.size))
  have A2 : Cells (w1.alloc (.cells #[.bool false, .bool false, .int .i64 0, .int .i64 0, .bool false, .bool false, .slice none 0 0] 61)) w1.heap.size [.bool false, .bool false, .int .i64 0, .int .i64 0, .bool false, .bool false, .slice none 0 0] := Cells.new w1 61 [.bool false, .bool false, .int .i64 0, .int .i64 0, .bool false, .bool false, .slice none 0 0]
  have zab := B1.size
  clear B1
  refine hK.out _ _ (HKZ.out _ B2) (fun hHeld2 => ?_)
  clear hK K hb2 
  refine sm ?_
  generalize w1.alloc (.cells #[.bool false, .bool false, .int .i64 0, .int .i64 0, .bool false, .bool false, .slice none 0 0] 61) = w2 at *
  generalize w1.heap.size = ab at *
  refine wpAnyH_ready (rs := [13]) (by kernel_rfl) (by simp) ?_
  refine AllReadyH.cons rfl (fun K hK => ?_) AllReadyH.nil
  have r0 := A2.1 0 _ rfl
  have r1 := A2.1 1 _ rfl
  have r2 := A2.1 2 _ rfl
  have r3 := A2.1 3 _ rfl
  have r4 := A2.1 4 _ rfl
  have r5 := A2.1 5 _ rfl
  have r6 := A2.1 6 _ rfl
  have f0 := A2.2.2 0
  have f1 := A2.2.2 1
  have f2 := A2.2.2 2
  have f3 := A2.2.2 3
  have f4 := A2.2.2 4
  have f5 := A2.2.2 5
  have f6 := A2.2.2 6
  go_simp
  have A3 : Cells (((((((w2.setCell ⟨ab, 0, none⟩ (.bool x.vars[k].n)).setCell ⟨ab, 1, none⟩ (.bool x.vars[k].sp.n)).setCell ⟨ab, 2, none⟩ (.int .i64 x.vars[k].sp.lo)).setCell ⟨ab, 3, none⟩ (.int .i64 x.vars[k].sp.hi)).setCell ⟨ab, 4, none⟩ (.bool x.vars[k].t)).setCell ⟨ab, 5, none⟩ (.bool x.vars[k].f)).setCell ⟨ab, 6, none⟩ (.slice ss1 x.vars[k].s.length g1)) ab [.bool x.vars[k].n, .bool x.vars[k].sp.n, .int .i64 x.vars[k].sp.lo, .int .i64 x.vars[k].sp.hi, .bool x.vars[k].t, .bool x.vars[k].f, .slice ss1 x.vars[k].s.length g1] := (((((((A2.put 0 (by simp) _).put 1 (by simp) _).put 2 (by simp) _).put 3 (by simp) _).put 4 (by simp) _).put 5 (by simp) _).put 6 (by simp) _)
  have B3 : Below w.heap.size w (((((((w2.setCell ⟨ab, 0, none⟩ (.bool x.vars[k].n)).setCell ⟨ab, 1, none⟩ (.bool x.vars[k].sp.n)).setCell ⟨ab, 2, none⟩ (.int .i64 x.vars[k].sp.lo)).setCell ⟨ab, 3, none⟩ (.int .i64 x.vars[k].sp.hi)).setCell ⟨ab, 4, none⟩ (.bool x.vars[k].t)).setCell ⟨ab, 5, none⟩ (.bool x.vars[k].f)).setCell ⟨ab, 6, none⟩ (.slice ss1 x.vars[k].s.length g1)) := (((((((B2.setCell (by simp only; omega) _).setCell (by simp only; omega) _).setCell (by simp only; omega) _).setCell (by simp only; omega) _).setCell (by simp only; omega) _).setCell (by simp only; omega) _).setCell (by simp only; omega) _)
  refine hK.out _ _ (HKZ.out _ B3) (fun hHeld3 => ?_)
  clear hK K r0 f0 r1 f1 r2 f2 r3 f3 r4 f4 r5 f5 r6 f6 A2 B2
  refine sm ?_
  generalize (((((((w2.setCell ⟨ab, 0, none⟩ (.bool x.vars[k].n)).setCell ⟨ab, 1, none⟩ (.bool x.vars[k].sp.n)).setCell ⟨ab, 2, none⟩ (.int .i64 x.vars[k].sp.lo)).setCell ⟨ab, 3, none⟩ (.int .i64 x.vars[k].sp.hi)).setCell ⟨ab, 4, none⟩ (.bool x.vars[k].t)).setCell ⟨ab, 5, none⟩ (.bool x.vars[k].f)).setCell ⟨ab, 6, none⟩ (.slice ss1 x.vars[k].s.length g1)) = w3 at *
  refine wpAnyH_done (by kernel_rfl) ?_ _
  first | refine hK1 _ _ (Met.intro (hJ1 _ _ ?_)) | refine Met.intro (hJ1 _ _ ?_) | refine hJ1 _ _ ?_
  (repeat apply Exists.intro)
  refine ⟨?_, rfl⟩
  exact ⟨ab, rfl, zab, A3, B3⟩
 obtain ⟨ab, rfl, zab, A1, B1⟩ := hcut
 have S1 := HSS.out.call B1
 have M1 := ModS.of B1 HSS.out.2.1
 have zsb := HSS.out.2.1
 have a0 := A1.1 0 _ rfl
 have a1 := A1.1 1 _ rfl
 have a4 := A1.1 4 _ rfl
 have a5 := A1.1 5 _ rfl
 have a6 := A1.1 6 _ rfl
 have s14 := S1.1 14 _ rfl
 have f14 := S1.2.2 14
 cases hn : x.vars[k].n with
 | true =>
  rw [hn] at a0
  go_wp2
  go_ret
  exact ⟨⟨ss1, g1, rfl, I0, k1, m1⟩, by rw [show noThing x.vars[k] = true by simp [noThing, hn]]; exact S1.put 14 (by simp [stpC]) _, M1.put 14 _⟩
 | false =>
  rw [hn] at a0
  cases hp : x.vars[k].sp.n with
  | false =>
   rw [hp] at a1
   go_wp2
   go_ret
   exact ⟨⟨ss1, g1, rfl, I0, k1, m1⟩, by rw [show noThing x.vars[k] = true by simp [noThing, hn, hp]]; exact S1.put 14 (by simp [stpC]) _, M1.put 14 _⟩
  | true =>
   rw [hp] at a1
   cases ht : x.vars[k].t with
   | true =>
    rw [ht] at a4
    go_wp2
    go_ret
    exact ⟨⟨ss1, g1, rfl, I0, k1, m1⟩, by rw [show noThing x.vars[k] = true by simp [noThing, hn, hp, ht]]; exact S1.put 14 (by simp [stpC]) _, M1.put 14 _⟩
   | false =>
    rw [ht] at a4
    cases hf : x.vars[k].f with
    | true =>
     rw [hf] at a5
     go_wp2
     go_ret
     exact ⟨⟨ss1, g1, rfl, I0, k1, m1⟩, by rw [show noThing x.vars[k] = true by simp [noThing, hn, hp, ht, hf]]; exact S1.put 14 (by simp [stpC]) _, M1.put 14 _⟩
    | false =>
     rw [hf] at a5
     go_wp2
     go_ret
     exact ⟨⟨ss1, g1, rfl, I0, k1, m1⟩, by rw [show noThing x.vars[k] = false by simp [noThing, hn, hp, ht, hf]]; exact S1.put 14 (by simp [stpC]) _, M1.put 14 _⟩
end
section
set_option maxHeartbeats 16000000
set_option maxRecDepth 20000
open Go.RowKit
attribute [local go_sem ↓] Go.wp_at_zero Go.wp_at_succ

theorem checkPicture_main (f : Nat) (s : Option Addr) (c : List Ins) (cap : Nat) (vars : List Gs) (flds : List (List Gs)) (vs : Option Addr) (vc : Nat) (fs : Option Addr) (fc : Nat) (w : World) (hc : CodeAt w s c) (hP : PicAt w ⟨false, vars, flds⟩ vs fs) (h60 : c.length ≤ 60) (hv8 : vars.length ≤ 8) (hf3 : f ≤ 3) (hfc : flds.length = c.length) (hrow : ∀ r ∈ flds, r.length = f) :
  Calls Tryz.prog 19 #[pv (vars.length : Int) (f : Int) s c cap, xv ⟨false, vars, flds⟩ vs vc fs fc] w fun e w' => e = .returned (.int .i64 (if ckGss c (vars ++ flds.flatten) ≠ 0 then ckGss c (vars ++ flds.flatten) else if strayAt c (fun g => !nothingGs g) 0 flds then 4 else 0)) ∧ Below w.heap.size w w' := by
 have hb0 : Below w.heap.size w ((w.alloc (.cells #[.int .i64 (vars.length : Int), .int .i64 (f : Int), .slice s c.length cap] 24)).alloc (.cells #[.bool false, .slice vs vars.length vc, .slice fs flds.length fc] 28)) := by go_grown
 have P0 := (PrAt.new w (vars.length : Int) (f : Int) s c cap).call (w' := ((w.alloc (.cells #[.int .i64 (vars.length : Int), .int .i64 (f : Int), .slice s c.length cap] 24)).alloc (.cells #[.bool false, .slice vs vars.length vc, .slice fs flds.length fc] 28))) (by go_grown)
 have X0 := XAt.new (w.alloc (.cells #[.int .i64 (vars.length : Int), .int .i64 (f : Int), .slice s c.length cap] 24)) ⟨false, vars, flds⟩ vs vc fs fc
 rw [World.size_alloc] at X0
 simp only at X0
 have hfl : ((flds.length : Int) != (c.length : Int)) = false := by simp; omega
 have hl60 : flds.length ≤ 60 := by omega
 obtain ⟨ti, hi, hz0, hz1, hz2⟩ := info_parts Tryz.info_guess
 have HC0 := hideH (hc.below hb0 (Nat.le_refl _))
 have RW0 := hP.2.below hb0 (Nat.le_refl _)
 have GV0 := hP.1.below hb0 (Nat.le_refl _)
 have HRW := hideH hrow
 clear hP hfc hrow hc
 simp only at RW0 GV0
 have HR : Hid ((if ckGss c (vars ++ flds.flatten) ≠ 0 then ckGss c (vars ++ flds.flatten) else if strayAt c (fun g => !nothingGs g) 0 flds then 4 else 0) = (if ckGss c (vars ++ flds.flatten) ≠ 0 then ckGss c (vars ++ flds.flatten) else if strayAt c (fun g => !nothingGs g) 0 flds then 4 else 0)) := rfl
 generalize hres : (if ckGss c (vars ++ flds.flatten) ≠ 0 then ckGss c (vars ++ flds.flatten) else if strayAt c (fun g => !nothingGs g) 0 flds then 4 else 0) = res at HR ⊢
 have HR : Hid (res = (if ckGss c (vars ++ flds.flatten) ≠ 0 then ckGss c (vars ++ flds.flatten) else if strayAt c (fun g => !nothingGs g) 0 flds then 4 else 0)) := hres.symm
 clear hres
 go_enter Tryz.func19, Tryz.ntmps19
 go_upto_region 7 with fail
 generalize ((w.alloc (.cells #[.int .i64 (vars.length : Int), .int .i64 (f : Int), .slice s c.length cap] 24)).alloc (.cells #[.bool false, .slice vs vars.length vc, .slice fs flds.length fc] 28)) = w1 at *
 have P1 := P0
 have X1 := X0
 have RW := RW0
 have GV := GV0
 have HC1 := HC0
 clear P0 X0 RW0 GV0 HC0 hfl
 go_wp2
 go_loopw [5] (fun i wr => ∃ k : Nat, k ≤ flds.length ∧ i = .int .i64 k ∧ Below w1.heap.size w1 wr) (fun i _ => flds.length - (intOf i).toNat)
 case atStart => exact ⟨0, Nat.zero_le _, rfl, Below.refl _ _⟩
 case round =>
  obtain ⟨k, hk, rfl, hbr⟩ := hrel
  obtain ⟨⟨p0, p1', p2⟩, pz⟩ := id (P1.call hbr)
  obtain ⟨⟨x0, x1, x2⟩, xz, -⟩ := id (X1.call hbr)
  by_cases hlt : k < flds.length
  ·have n0 : (0 : Int) ≤ (k : Int) := by omega
   have n1 : (k : Int) < (flds.length : Int) := by omega
   obtain ⟨p1, q1, rfl, zp1, r1, rc1, C1, k1, m1, -⟩ := RW.below hbr (Nat.le_refl _) k hlt
   have HKZ : Hid (∀ wx, Below wr.heap.size wr wx → wx.cell? ⟨w.heap.size, 1, none⟩ = some (.int .i64 (f : Int)) ∧ wx.cell? ⟨w.heap.size + 1, 2, none⟩ = some (.slice (some ⟨p1, q1, none⟩) flds.length fc) ∧ wx.cell? ⟨p1, q1 + k, none⟩ = some (.slice r1 flds[k].length rc1)) := fun wx hx => ⟨by rw [hx.cell (by simp only; exact pz)]; exact p1', by rw [hx.cell (by simp only; exact xz)]; exact x2, by rw [hx.cell (by simp only; exact zp1)]; exact C1⟩
   have HD : Below wr.heap.size wr wr.drew := (Below.refl _ _).drew
   go_wp2
   refine wp_region_z (S := (fun wx => wx.cell? ⟨w.heap.size, 1, none⟩ = some (.int .i64 (f : Int)) ∧ wx.cell? ⟨w.heap.size + 1, 2, none⟩ = some (.slice (some ⟨p1, q1, none⟩) flds.length fc) ∧ wx.cell? ⟨p1, q1 + k, none⟩ = some (.slice r1 flds[k].length rc1))) [] (by kernel_rfl) (HKZ.out _ HD) (fun hHeld => ?_)
   refine tZ 0 ?_ ?_;refine sm ?_
   refine tZ 1 ?_ ?_;refine sm ?_
   refine tZ 2 ?_ ?_;refine sm ?_
   refine tZ 3 ?_ ?_;refine sm ?_
   refine tZ 4 ?_ ?_;refine sm ?_
   refine tZ 5 ?_ ?_;refine sm ?_
   refine tZ 6 ?_ ?_;refine sm ?_
   refine tZ 7 ?_ ?_;refine sm ?_
   refine tZ 8 ?_ ?_;refine sm ?_
   refine wpAnyZ_done (by kernel_rfl) ?_ _
   have e1 : ((flds[k].length : Int) != (f : Int)) = false := by simp [HRW.out _ (List.getElem_mem hlt)]
   go_wp2
   go_roundw
   case rel => exact ⟨k + 1, by omega, by go_num, hbr.trans (HD.mono hbr.size)⟩
   case measure => simp [intOf]; omega
  ·have n1 : ¬ (k : Int) < (flds.length : Int) := by omega
   have H2 := hbr
   have P2 := P1.call hbr
   have X2 := X1.call hbr
   have RW2 := RW.below hbr (Nat.le_refl _)
   obtain ⟨lv, elv, hnv, hnn, hgv, hlv⟩ := (GV.below hbr (Nat.le_refl _)).gcsTo (Below.refl _ _)
   have HNV := hideH hnv
   have HLV := hideH elv
   have llv : lv.length = vars.length := by rw [← elv, List.length_map]
   have C2' := HC1.out.below hbr (Nat.le_refl _)
   generalize wr = w2 at *
   clear wr P1 X1 RW GV hnv elv HC1 n1
   go_wp2_with (at_builtin; refine wpList_append_any _ rfl _ _ 25 rfl w2.heap.size 61 ti (.agg #[.bool false, .bool false, .int .i64 0, .int .i64 0, .bool false, .bool false, .slice none 0 0]) 7 64 Tryz.underlying25 hi hz0 hz1 hz2 rfl (by decide) _ _ _ rfl (World.ownsRow_made w2 #[] 0 (Nat.le_refl _) (Nat.zero_le _) rfl) vs vars.length vc (rowCells lv) rfl hlv hnn ?qa2 (rowCells_one _) ?qa4 ?qa5 ?qa6 ?_)
   case qa2 => exact fun ad e j u hj => Lib.cell?_alloc_some _ (HNV.out ad e j u hj)
   case qa4 => unfold maxLen; omega
   case qa5 => omega
   (try (case qa6 => simp))
   intro v0 w3 hown hgrow hat
   have hb3 : Below w2.heap.size w2 w3 := ((Below.refl _ w2).alloc (Nat.le_refl _) _).grown hgrow (by simp) (by intro k hk; simp [Value.ownBlock] at hk; omega)
   have CR : CRow w3 w2.heap.size v0 lv := ⟨by rw [llv]; simpa using hown, fun y hy => ⟨(hgv y hy).1.call hb3, (hgv y hy).2⟩⟩
   clear hown hgrow hat HNV hnn hgv hlv p0 p1' p2 pz x0 x1 x2 xz
   go_wp2
   go_loopw [6, 7] (fun v i wy => ∃ (k : Nat) (v' : Value) (l : List Gc), k ≤ flds.length ∧ i = .int .i64 k ∧ v = v' ∧ Below w2.heap.size w2 wy ∧ Hid (l.map Gc.g = vars ++ (flds.take k).flatten) ∧ CRow wy w2.heap.size v' l) (fun _ i _ => flds.length - (intOf i).toNat)
   case atStart => exact ⟨0, _, lv, Nat.zero_le _, rfl, rfl, hb3, by show _ = _; rw [HLV.out]; simp, CR⟩
   case round =>
    obtain ⟨k2, v, l, hk2, rfl, rfl, hby, HE, CL⟩ := hrel
    clear CR hb3
    generalize wr = wy at *
    clear wr
    have ll : l.length = vars.length + k2 * f := by
     have h1 := congrArg List.length HE.out
     rw [List.length_map, List.length_append, flat_len (n := f) (fun r hr => HRW.out r (List.mem_of_mem_take hr)), List.length_take, Nat.min_eq_left hk2] at h1
     exact h1
    have lb : k2 * f ≤ 60 * 3 := Nat.mul_le_mul (by omega) hf3
    have LL := hideH ll
    clear ll
    obtain ⟨⟨x0, x1, x2⟩, xz, -⟩ := id (X2.call hby)
    by_cases hlt2 : k2 < flds.length
    ·have n0 : (0 : Int) ≤ (k2 : Int) := by omega
     have n1 : (k2 : Int) < (flds.length : Int) := by omega
     obtain ⟨p1, q1, rfl, zp1, r1, rc1, C1, k1, m1, J1⟩ := RW2 k2 hlt2
     obtain ⟨lr, elr, hnr, hnnr, hgr, hlr⟩ := J1.gcsTo hby
     have C1' : wy.cell? ⟨p1, q1 + k2, none⟩ = some (.slice r1 flds[k2].length rc1) := by rw [hby.cell (by simp only; exact zp1)]; exact C1
     have hsum : l.length + flds[k2].length ≤ 1000 := by have := LL.out; have := HRW.out _ (List.getElem_mem hlt2); omega
     have HLL : Hid (lr.length = flds[k2].length) := by show _ = _; rw [← elr, List.length_map]
     have HNR := hideH hnr
     have HLR := hideH elr
     clear C1 J1 hnr elr
     go_wp2_with (at_builtin; refine wpList_append_any _ rfl _ _ 25 rfl w2.heap.size 61 ti (.agg #[.bool false, .bool false, .int .i64 0, .int .i64 0, .bool false, .bool false, .slice none 0 0]) 7 64 Tryz.underlying25 hi hz0 hz1 hz2 rfl (by decide) _ _ _ rfl CL.1 r1 flds[k2].length rc1 (rowCells lr) rfl hlr hnnr ?qb2 (rowCells_one _) ?qb4 ?qb5 ?qb6 ?_)
     case qb2 => exact HNR.out
     case qb4 => unfold maxLen; omega
     case qb5 => omega
     (try (case qb6 => exact hby.size))
     intro v1 w5 hown5 hgrow5 hat5
     have hb5 : Below w2.heap.size w2 w5 := hby.grown hgrow5 hby.size (fun k hk => (ownsI_lt CL.1 hk).2)
     have CR5 : CRow w5 w2.heap.size v1 (l ++ lr) := CL.grown hgr (by rw [HLL.out]; exact hown5) hgrow5
     clear hown5 hgrow5 hat5 HNR hnnr hgr hlr x0 x1 x2 xz C1' CL
     go_wp2
     go_roundw
     case rel => exact ⟨k2 + 1, _, l ++ lr, by omega, by go_num, rfl, hb5, by show _ = _; rw [List.map_append, HE.out, HLR.out, flat_take _ _ hlt2, List.append_assoc], CR5⟩
     case measure => simp [intOf]; omega
    ·have n1 : ¬ (k2 : Int) < (flds.length : Int) := by omega
     have et : flds.take k2 = flds := List.take_of_length_le (by omega)
     obtain ⟨va, vb, rfl, kv1, kv2, GA, -⟩ := CL.at
     have HEA : Hid (l.map Gc.g = vars ++ flds.flatten) := by show _ = _; rw [HE.out, et]
     rw [HEA.out] at GA
     have la : l.length = (vars ++ flds.flatten).length := by rw [← HEA.out, List.length_map]
     have ll := LL.out
     rw [la] at ll ⊢
     clear LL
     have P3' := P2.call hby
     have X3 := X2.call hby
     have C2 := C2'.below hby (Nat.le_refl _)
     have RW3 := RW2.below hby (Nat.le_refl _)
     have H3 := H2.trans (hby.mono H2.size)
     clear CL HE HEA et la kv1 P2 X2 C2' RW2 hby
     generalize vars ++ flds.flatten = all at *
     have lal : all.length ≤ 1000 := by omega
     clear ll
     go_wp2
     clear x0 x1 x2 xz
     go_loopw [8] (fun i wz => ∃ k : Nat, k ≤ all.length ∧ i = .int .i64 k ∧ Below wy.heap.size wy wz ∧ Hid (ckGss c all = ckGss c (all.drop k))) (fun i _ => all.length - (intOf i).toNat)
     case atStart => exact ⟨0, Nat.zero_le _, rfl, Below.refl _ _, rfl⟩
     case round =>
      obtain ⟨k3, hk3, rfl, hbz, HK⟩ := hrel
      by_cases hlt3 : k3 < all.length
      ·have n0 : (0 : Int) ≤ (k3 : Int) := by omega
       have n1 : (k3 : Int) < (all.length : Int) := by omega
       obtain ⟨b, off, rfl, ss, gc, GR, IR, hg1, hg2⟩ := GA.below hbz (Nat.le_refl _) k3 hlt3
       have hgl : all[k3].s.length ≤ 9223372036854775807 := by unfold maxLen at hg2; omega
       have HKZ : Hid (∀ wx, Below wr.heap.size wr wx → (wx.cell? ⟨w.heap.size, 0, none⟩ = some (.int .i64 (vars.length : Int)) ∧ wx.cell? ⟨w.heap.size, 1, none⟩ = some (.int .i64 (f : Int)) ∧ wx.cell? ⟨w.heap.size, 2, none⟩ = some (.slice s c.length cap)) ∧ (wx.cell? ⟨b, off + k3 * 7, none⟩ = some (.bool all[k3].n) ∧ wx.cell? ⟨b, off + k3 * 7 + 1, none⟩ = some (.bool all[k3].sp.n) ∧ wx.cell? ⟨b, off + k3 * 7 + 2, none⟩ = some (.int .i64 all[k3].sp.lo) ∧ wx.cell? ⟨b, off + k3 * 7 + 3, none⟩ = some (.int .i64 all[k3].sp.hi) ∧ wx.cell? ⟨b, off + k3 * 7 + 4, none⟩ = some (.bool all[k3].t) ∧ wx.cell? ⟨b, off + k3 * 7 + 5, none⟩ = some (.bool all[k3].f) ∧ wx.cell? ⟨b, off + k3 * 7 + 6, none⟩ = some (.slice ss all[k3].s.length gc))) := fun wx hx => ⟨((P3'.call hbz).call hx).1, (GR.call hx).1⟩
       have HD : Below wr.heap.size wr wr.drew := (Below.refl _ _).drew
       have HS := hideH (ckGss_drop c all k3 hlt3)
       go_wp2
       refine wp_region_z (S := (fun wx => (wx.cell? ⟨w.heap.size, 0, none⟩ = some (.int .i64 (vars.length : Int)) ∧ wx.cell? ⟨w.heap.size, 1, none⟩ = some (.int .i64 (f : Int)) ∧ wx.cell? ⟨w.heap.size, 2, none⟩ = some (.slice s c.length cap)) ∧ (wx.cell? ⟨b, off + k3 * 7, none⟩ = some (.bool all[k3].n) ∧ wx.cell? ⟨b, off + k3 * 7 + 1, none⟩ = some (.bool all[k3].sp.n) ∧ wx.cell? ⟨b, off + k3 * 7 + 2, none⟩ = some (.int .i64 all[k3].sp.lo) ∧ wx.cell? ⟨b, off + k3 * 7 + 3, none⟩ = some (.int .i64 all[k3].sp.hi) ∧ wx.cell? ⟨b, off + k3 * 7 + 4, none⟩ = some (.bool all[k3].t) ∧ wx.cell? ⟨b, off + k3 * 7 + 5, none⟩ = some (.bool all[k3].f) ∧ wx.cell? ⟨b, off + k3 * 7 + 6, none⟩ = some (.slice ss all[k3].s.length gc)))) [] (by kernel_rfl) (HKZ.out _ HD) (fun hHeld => ?_)
       refine tZ 0 ?_ ?_;refine sm ?_
       refine tZ 1 ?_ ?_;refine sm ?_
       refine tZ 2 ?_ ?_;refine sm ?_
       refine tZ 3 ?_ ?_;refine sm ?_
       refine tZ 4 ?_ ?_;refine sm ?_
       refine wpAnyZ_one (i := 5) rfl (by kernel_rfl) (fun K hK => ?_)
       go_simp
       go_at_call 55
       refine (checkGuess_any (vars.length : Int) (f : Int) s c cap all[k3] ss gc _ (C2.call (hbz.trans (HD.mono hbz.size))) h60 (IR.call HD) hgl).mono ?_
       rintro e w5 ⟨rfl, hb5⟩
       have HB5 : Below wr.heap.size wr w5 := HD.trans (hb5.mono HD.size)
       go_wp2_with fail
       refine hK.out _ _ (HKZ.out _ HB5) (fun hHeld => ?_)
       clear hK K
       refine sm ?_
       refine tZ 6 ?_ ?_;refine sm ?_
       refine wpAnyZ_done (by kernel_rfl) ?_ _
       generalize ckGs c all[k3] = ce at *
       by_cases hz : ce = 0
       ·have e1 : (ce != 0) = false := by simpa using hz
        go_wp2
        go_roundw
        case rel => exact ⟨k3 + 1, by omega, by go_num, hbz.trans (HB5.mono hbz.size), by show _ = _; rw [HK.out, HS.out, if_pos hz]⟩
        case measure => simp [intOf]; omega
       ·have e1 : (ce != 0) = true := by simpa using hz
        go_wp2
        go_ret
        refine ⟨ret_int ?_, hb0.trans ((H3.trans ((hbz.trans (HB5.mono hbz.size)).mono H3.size)).mono hb0.size)⟩
        rw [HR.out, HK.out, HS.out, if_neg hz, if_pos hz]
      ·have n1 : ¬ (k3 : Int) < (all.length : Int) := by omega
       have HZ : Hid (ckGss c all = 0) := by show _ = _; rw [HK.out, List.drop_eq_nil_of_le (by omega)]; rfl
       have HR2 : Hid (res = if strayAt c (fun g => !nothingGs g) 0 flds then 4 else 0) := by show _ = _; rw [HR.out, HZ.out]; rfl
       have P4 := P3'.call hbz
       have X4 := X3.call hbz
       have C4 := C2.call hbz
       have RW4 := RW3.below hbz (Nat.le_refl _)
       have H4 := H3.trans (hbz.mono H3.size)
       generalize wr = wz at *
       clear wr HK HR HZ P3' X3 C2 RW3 H3 hbz GA
       obtain ⟨⟨x0, x1, x2⟩, xz, -⟩ := id X4
       go_wp2
       clear x0 x1 x2 xz
       go_loopw [10] (fun i wq => ∃ k : Nat, k ≤ flds.length ∧ i = .int .i64 k ∧ Below wz.heap.size wz wq ∧ Hid (strayAt c (fun g => !nothingGs g) 0 flds = strayAt c (fun g => !nothingGs g) k (flds.drop k))) (fun i _ => flds.length - (intOf i).toNat)
       case atStart => exact ⟨0, Nat.zero_le _, rfl, Below.refl _ _, rfl⟩
       case round =>
        obtain ⟨k4, hk4, rfl, hbq, HT⟩ := hrel
        generalize wr = wq at *
        clear wr
        obtain ⟨⟨x0, x1, x2⟩, xz, -⟩ := id (X4.call hbq)
        obtain ⟨⟨p0, p1', p2⟩, pz⟩ := id (P4.call hbq)
        by_cases hlt4 : k4 < flds.length
        ·have n0 : (0 : Int) ≤ (k4 : Int) := by omega
         have n1 : (k4 : Int) < (flds.length : Int) := by omega
         have HU := hideH (strayAt_step c (fun g => !nothingGs g) flds k4 hlt4)
         go_wp2
         clear x0 x1 x2 xz p0 p1' p2 pz
         go_loopw [11] (fun j wo => ∃ m : Nat, m ≤ f ∧ j = .int .i64 m ∧ Below wz.heap.size wz wo ∧ Hid (strayAt c (fun g => !nothingGs g) 0 flds = ((!isSite c k4 && (flds[k4].drop m).any (fun g => !nothingGs g)) || strayAt c (fun g => !nothingGs g) (k4 + 1) (flds.drop (k4 + 1))))) (fun j _ => f - (intOf j).toNat)
         case atStart => exact ⟨0, Nat.zero_le _, rfl, hbq, by show _ = _; rw [HT.out, HU.out]; rfl⟩
         case round =>
          obtain ⟨m, hm, rfl, hbo, HV⟩ := hrel
          obtain ⟨⟨x0, x1, x2⟩, xz, -⟩ := id (X4.call hbo)
          obtain ⟨⟨p0, p1', p2⟩, pz⟩ := id (P4.call hbo)
          by_cases hltm : m < f
          ·have m0 : (0 : Int) ≤ (m : Int) := by omega
           have m1 : (m : Int) < (f : Int) := by omega
           have hmk : m < flds[k4].length := by have := HRW.out _ (List.getElem_mem hlt4); omega
           have m2 : (m : Int) < (flds[k4].length : Int) := by omega
           have HY : Hid ((flds[k4].drop m).any (fun g => !nothingGs g) = (!nothingGs flds[k4][m] || (flds[k4].drop (m + 1)).any (fun g => !nothingGs g))) := any_drop_stepJ flds[k4] (fun g => !nothingGs g) m hmk
           go_wp2_with (go_at_call 56; fail)
           refine (isSite_any (vars.length : Int) (f : Int) s c cap (k4 : Int) _ (C4.call hbo) h60).mono ?_
           rintro e wp ⟨rfl, hbp⟩
           have hbs := hbo.trans (hbp.mono hbo.size)
           clear x0 x1 x2 xz p0 p1' p2 pz
           rcases (show isSite c (k4 : Int) = false ∨ isSite c (k4 : Int) = true by cases isSite c (k4 : Int) <;> simp) with hs | hs <;> have HSG := hideH hs <;> rw [hs] <;> clear hs
           ·obtain ⟨⟨x0, x1, x2⟩, xz, -⟩ := id (X4.call hbs)
            obtain ⟨p1, q1, rfl, zp1, r1, rc1, C1, k1, mm1, J1⟩ := RW4.below hbs (Nat.le_refl _) k4 hlt4
            obtain ⟨b, off, rfl, ss, gc, GR, IR, hg1, hg2⟩ := J1 m hmk
            obtain ⟨⟨g0, g1, g2, g3, g4, g5, g6⟩, gz⟩ := id GR
            go_wp2_with (go_at_call 28; fail)
            refine (isNothing_any flds[k4][m] ss gc _).mono ?_
            rintro e wn ⟨rfl, hbn⟩
            have hbt := hbs.trans (hbn.mono hbs.size)
            clear x0 x1 x2 xz g0 g1 g2 g3 g4 g5 g6 gz GR IR C1 J1
            rcases (show nothingGs flds[k4][m] = false ∨ nothingGs flds[k4][m] = true by cases nothingGs flds[k4][m] <;> simp) with hn | hn <;> have HNG := hideH hn <;> rw [hn] <;> clear hn
            ·go_wp2
             go_ret
             refine ⟨ret_int ?_, hb0.trans ((H4.trans (hbt.mono H4.size)).mono hb0.size)⟩
             rw [HR2.out, HV.out, HY.out, HSG.out, HNG.out]
             rfl
            ·go_wp2
             go_roundw
             case rel => exact ⟨m + 1, by omega, by go_num, hbt, by show _ = _; rw [HV.out, HY.out, HNG.out]; rfl⟩
             case measure => simp [intOf]; omega
           ·go_wp2
            go_roundw
            case rel => exact ⟨m + 1, by omega, by go_num, hbs, by show _ = _; rw [HV.out, HSG.out]; rfl⟩
            case measure => simp [intOf]; omega
          ·have m1 : ¬ (m : Int) < (f : Int) := by omega
           go_wp2
           go_roundw
           case rel => exact ⟨k4 + 1, by omega, by go_num, hbo, by show _ = _; rw [HV.out, List.drop_eq_nil_of_le (by have := HRW.out _ (List.getElem_mem hlt4); omega)]; simp⟩
           case measure => simp [intOf]; omega
        ·have n1 : ¬ (k4 : Int) < (flds.length : Int) := by omega
         go_wp2
         go_ret
         refine ⟨ret_int ?_, hb0.trans ((H4.trans (hbq.mono H4.size)).mono hb0.size)⟩
         rw [HR2.out, HT.out, List.drop_eq_nil_of_le (by omega)]
         rfl
end
section
set_option maxHeartbeats 4000000
set_option maxRecDepth 10000
open Go.RowKit
attribute [local go_sem ↓] Go.wp_at_zero Go.wp_at_succ

theorem ckProg_lim {V F : Int} {c : List Ins} (h : ckProg V F c = 0) : (1 ≤ V ∧ V ≤ 8) ∧ (0 ≤ F ∧ F ≤ 3) ∧ c.length ≤ 60 := by
 unfold ckProg at h
 split at h
 ·cases h
 ·rename_i h3
  split at h
  ·cases h
  ·rename_i h60
   simp [btw] at h3
   exact ⟨⟨by omega, by omega⟩, ⟨by omega, by omega⟩, by omega⟩
theorem checkPicture_any (V F : Int) (s : Option Addr) (c : List Ins) (cap : Nat) (x : Pic) (vs : Option Addr) (vc : Nat) (fs : Option Addr) (fc : Nat) (w : World) (hc : CodeAt w s c) (hP : PicAt w x vs fs) (h0 : ckProg V F c = 0) :
  Calls Tryz.prog 19 #[pv V F s c cap, xv x vs vc fs fc] w fun e w' => e = .returned (.int .i64 (ckPic V F c x)) ∧ Below w.heap.size w w' := by
 obtain ⟨⟨hV1, hV8⟩, ⟨hF0, hF3⟩, h60⟩ := ckProg_lim h0
 obtain ⟨n, vars, flds⟩ := x
 cases n with
 | true => exact checkPicture_none V F s c cap vars flds vs vc fs fc w
 | false =>
  by_cases h1 : (vars.length : Int) = V
  ·by_cases h2 : flds.length = c.length
   ·by_cases h3 : ∃ r ∈ flds, ¬ (r.length : Int) = F
    ·have e1 : ckPic V F c ⟨false, vars, flds⟩ = 1 := by
      unfold ckPic formedPic
      have : (flds.any fun r => !decide ((r.length : Int) = F)) = true := by
       obtain ⟨r, hr, hne⟩ := h3
       exact List.any_eq_true.2 ⟨r, hr, by simpa using hne⟩
      simp [this]
     rw [e1]
     subst h1
     exact checkPicture_row F s c cap vars flds vs vc fs fc w hP h60 h2 h3
    ·have hr : ∀ r ∈ flds, (r.length : Int) = F := fun r hr => Decidable.not_not.1 fun hne => h3 ⟨r, hr, hne⟩
     obtain ⟨f, rfl⟩ := Int.eq_ofNat_of_zero_le hF0
     have hr' : ∀ r ∈ flds, r.length = f := fun r h => by have := hr r h; omega
     have e1 : ckPic V f c ⟨false, vars, flds⟩ = (if ckGss c (vars ++ flds.flatten) ≠ 0 then ckGss c (vars ++ flds.flatten) else if strayAt c (fun g => !nothingGs g) 0 flds then 4 else 0) := by
      have : (flds.any fun r => !decide ((r.length : Int) = (f : Int))) = false := by
       rw [List.any_eq_false]
       intro r h
       simp [hr r h]
      unfold ckPic formedPic allPic
      simp only [this, h1, h2, decide_true, Bool.not_false, Bool.and_true]
      rfl
     rw [e1]
     subst h1
     exact checkPicture_main f s c cap vars flds vs vc fs fc w hc hP h60 (by omega) (by omega) h2 hr'
   ·have e1 : ckPic V F c ⟨false, vars, flds⟩ = 1 := by
     unfold ckPic formedPic
     simp [h2]
    rw [e1]
    exact checkPicture_flds V F s c cap vars flds vs vc fs fc w h1 h2
  ·have e1 : ckPic V F c ⟨false, vars, flds⟩ = 1 := by
    unfold ckPic formedPic
    simp [h1]
   rw [e1]
   exact checkPicture_vars V F s c cap vars flds vs vc fs fc w h1

/-- A list of pictures behind a slice's address. -/
def XsAt (w : World) (ls : Option Addr) (L : List Pic) : Prop :=
 ∀ i (h : i < L.length), ∃ b off, ls = some ⟨b, off, none⟩ ∧ b < w.heap.size ∧ ∃ vs vc fs fc, (w.cell? ⟨b, off + i * 3, none⟩ = some (.bool L[i].none) ∧ w.cell? ⟨b, off + i * 3 + 1, none⟩ = some (.slice vs L[i].vars.length vc) ∧ w.cell? ⟨b, off + i * 3 + 2, none⟩ = some (.slice fs L[i].flds.length fc)) ∧ PicAt w L[i] vs fs ∧ (L[i].vars.length ≤ vc ∧ vc ≤ maxLen) ∧ (L[i].flds.length ≤ fc ∧ fc ≤ maxLen)
theorem XsAt.below {B : Nat} {w w' : World} {ls : Option Addr} {L : List Pic} (h : XsAt w ls L) (hb : Below B w w') (hB : w.heap.size ≤ B) : XsAt w' ls L := by
 intro i hi
 obtain ⟨b, off, e, hz, vs, vc, fs, fc, ⟨h0, h1, h2⟩, hP, hQ⟩ := h i hi
 exact ⟨b, off, e, Nat.lt_of_lt_of_le hz hb.size, vs, vc, fs, fc, ⟨by rw [hb.cell (by simp only; omega)]; exact h0, by rw [hb.cell (by simp only; omega)]; exact h1, by rw [hb.cell (by simp only; omega)]; exact h2⟩, hP.below hb hB, hQ⟩
theorem ckPicL_drop (V F : Int) (c : List Ins) (L : List Pic) (k : Nat) (h : k < L.length) : ckPicL V F c (L.drop k) = if ckPic V F c L[k] = 0 then ckPicL V F c (L.drop (k + 1)) else ckPic V F c L[k] := by
 rw [List.drop_eq_getElem_cons h]
 rfl

theorem checkPictures_any (V F : Int) (s : Option Addr) (c : List Ins) (cap : Nat) (ls : Option Addr) (L : List Pic) (lc : Nat) (w : World) (hc : CodeAt w s c) (hL : XsAt w ls L) (hl : L.length ≤ 9223372036854775807) :
  Calls Tryz.prog 6 #[pv V F s c cap, .slice ls L.length lc] w fun e w' => e = .returned (.int .i64 (ckPics V F c L)) ∧ Below w.heap.size w w' := by
 have P0 := PrAt.new w V F s c cap
 have B0 : Below w.heap.size w (w.alloc (.cells #[.int .i64 V, .int .i64 F, .slice s c.length cap] 24)) := by go_grown
 have C0 := hc.below B0 (Nat.le_refl _)
 have L0 := hL.below B0 (Nat.le_refl _)
 have HR : Hid (ckPics V F c L = if ckProg V F c = 0 then ckPicL V F c L else ckProg V F c) := rfl
 clear hc hL
 generalize ckPics V F c L = res at HR ⊢
 go_enter Tryz.func6, Tryz.ntmps6
 go_wp2_with (go_at_call 12; fail)
 refine (checkProgram_any V F s cap c _ C0).mono ?_
 rintro e w1 ⟨rfl, hb1⟩
 have P1 := P0.call hb1
 have C1 := C0.call hb1
 have L1 := L0.below hb1 (Nat.le_refl _)
 have B1 : Below w.heap.size w w1 := B0.trans (hb1.mono (by simp))
 clear hb1 P0 C0 L0 B0
 have H60 : Hid (ckProg V F c = 0 → ckProg V F c = 0) := fun h => h
 have HR : Hid (∀ ce, ce = ckProg V F c → res = if ce = 0 then ckPicL V F c L else ce) := fun ce h => by rw [h]; exact HR.out
 have H0 : Hid (∀ ce, ce = ckProg V F c → ce = 0 → ckProg V F c = 0) := fun ce h e => by rw [← h]; exact e
 generalize hcp : ckProg V F c = cp at *
 have HR1 := hideH (HR.out cp rfl)
 have H01 : Hid (cp = 0 → ckProg V F c = 0) := fun e => by rw [hcp]; exact e
 clear HR H0 H60 hcp
 go_wp2
 go_loopw [5, 6] (fun e i wr => ∃ (k : Nat) (ce : Int), k ≤ L.length ∧ i = .int .i64 k ∧ e = .int .i64 ce ∧ PrAt wr w.heap.size V F s c cap ∧ CodeAt wr s c ∧ XsAt wr ls L ∧ Below w.heap.size w wr ∧ Hid (res = if ce = 0 then ckPicL V F c (L.drop k) else ce) ∧ Hid (ce = 0 → ckProg V F c = 0)) (fun _ i _ => L.length - (intOf i).toNat)
 case atStart => exact ⟨0, cp, Nat.zero_le _, rfl, rfl, P1, C1, L1, B1, HR1, H01⟩
 case round =>
  obtain ⟨k, ce, hk, rfl, rfl, PR, CR, LR, BR, HK, HL⟩ := hrel
  clear P1 C1 L1 B1 HR1 H01
  by_cases hlt : k < L.length
  ·have n1 : (k : Int) < (L.length : Int) := by omega
   by_cases hz : ce = 0
   ·subst hz
    have HH0 := hideH (HL.out rfl)
    have HS := hideH (ckPicL_drop V F c L k hlt)
    have HK0 : Hid (res = ckPicL V F c (L.drop k)) := by show _ = _; rw [HK.out, if_pos rfl]
    clear HK HL
    obtain ⟨b, off, rfl, zb, vs, vc, fs, fc, ⟨g0, g1, g2⟩, hP, -⟩ := LR k hlt
    have n0 : (0 : Int) ≤ (k : Int) := by omega
    have HKZ : Hid (∀ wx, Below wr.heap.size wr wx → (wx.cell? ⟨w.heap.size, 0, none⟩ = some (.int .i64 V) ∧ wx.cell? ⟨w.heap.size, 1, none⟩ = some (.int .i64 F) ∧ wx.cell? ⟨w.heap.size, 2, none⟩ = some (.slice s c.length cap)) ∧ (wx.cell? ⟨b, off + k * 3, none⟩ = some (.bool L[k].none) ∧ wx.cell? ⟨b, off + k * 3 + 1, none⟩ = some (.slice vs L[k].vars.length vc) ∧ wx.cell? ⟨b, off + k * 3 + 2, none⟩ = some (.slice fs L[k].flds.length fc))) := fun wx hx => ⟨(PR.call hx).1, by rw [hx.cell (by simp only; exact zb)]; exact g0, by rw [hx.cell (by simp only; exact zb)]; exact g1, by rw [hx.cell (by simp only; exact zb)]; exact g2⟩
    have HD : Below wr.heap.size wr wr.drew := (Below.refl _ _).drew
    clear g0 g1 g2
    go_wp2
    refine wp_region_z (S := (fun wx => (wx.cell? ⟨w.heap.size, 0, none⟩ = some (.int .i64 V) ∧ wx.cell? ⟨w.heap.size, 1, none⟩ = some (.int .i64 F) ∧ wx.cell? ⟨w.heap.size, 2, none⟩ = some (.slice s c.length cap)) ∧ (wx.cell? ⟨b, off + k * 3, none⟩ = some (.bool L[k].none) ∧ wx.cell? ⟨b, off + k * 3 + 1, none⟩ = some (.slice vs L[k].vars.length vc) ∧ wx.cell? ⟨b, off + k * 3 + 2, none⟩ = some (.slice fs L[k].flds.length fc)))) [] (by kernel_rfl) (HKZ.out _ HD) (fun hHeld => ?_)
    refine tZ 0 ?_ ?_;refine sm ?_
    refine tZ 1 ?_ ?_;refine sm ?_
    refine tZ 2 ?_ ?_;refine sm ?_
    refine tZ 3 ?_ ?_;refine sm ?_
    refine tZ 4 ?_ ?_;refine sm ?_
    refine wpAnyZ_one (i := 5) rfl (by kernel_rfl) (fun K hK => ?_)
    go_simp
    go_at_call 19
    refine (checkPicture_any V F s c cap L[k] vs vc fs fc _ (CR.call HD) (hP.call HD) HH0.out).mono ?_
    rintro e w5 ⟨rfl, hb5⟩
    have HB : Below wr.heap.size wr w5 := HD.trans (hb5.mono HD.size)
    go_wp2_with fail
    refine hK.out _ _ (HKZ.out _ HB) (fun hHeld => ?_)
    clear hK K
    refine sm ?_
    refine tZ 6 ?_ ?_;refine sm ?_
    refine wpAnyZ_done (by kernel_rfl) ?_ _
    have P2 := PR.call HB
    have C2 := CR.call HB
    have L2 := LR.below HB (Nat.le_refl _)
    have B2 := BR.trans (HB.mono BR.size)
    clear hb5 PR CR LR BR HB HKZ hP
    go_wp2
    go_roundw
    case rel => exact ⟨k + 1, ckPic V F c L[k], by omega, by go_num, rfl, P2, C2, L2, B2, by show _ = _; rw [HK0.out, HS.out], fun _ => HH0.out⟩
    case measure => simp [intOf]; omega
   ·have hz' : (ce == 0) = false := by simpa using hz
    go_wp2
    go_ret
    exact ⟨ret_int (by rw [HK.out, if_neg hz]), BR⟩
  ·go_wp2
   go_ret
   refine ⟨ret_int ?_, BR⟩
   rw [HK.out, List.drop_eq_nil_of_le (by omega)]
   by_cases hz : ce = 0
   ·rw [if_pos hz, hz]; rfl
   ·rw [if_neg hz]
end
section
set_option maxRecDepth 100000
open Go.RowKit

/-- The two guesses, the answer's variable, and the document's own 'out'; all else is as it was. -/
def DG (w : World) (g : Gs) (ss : Option Addr) (gc : Nat) (h : Gs) (st : Option Addr) (hc : Nat) (ob : Nat) (o : Gs) (wx : World) : Prop :=
 GuAt wx w.heap.size 0 g ss gc ∧ GuAt wx (w.heap.size + 1) 0 h st hc ∧ GuAt wx (w.heap.size + 1 + 1) 0 zeroG none 0 ∧ Fr7 wx (w.heap.size + 1 + 1) ∧ GuAt wx ob 0 o none 0 ∧ Fr7 wx ob ∧ Below w.heap.size w wx ∧ w.heap.size + 1 + 1 < ob
theorem DG.call {w : World} {g : Gs} {ss : Option Addr} {gc : Nat} {h : Gs} {st : Option Addr} {hc : Nat} {ob : Nat} {o : Gs} {wx wy : World} (d : DG w g ss gc h st hc ob o wx) (hb : Below wx.heap.size wx wy) : DG w g ss gc h st hc ob o wy :=
 ⟨d.1.call hb, d.2.1.call hb, d.2.2.1.call hb, d.2.2.2.1.call hb, d.2.2.2.2.1.call hb, d.2.2.2.2.2.1.call hb, d.2.2.2.2.2.2.1.trans (hb.mono d.2.2.2.2.2.2.1.size), d.2.2.2.2.2.2.2⟩
theorem DG.drew {w : World} {g : Gs} {ss : Option Addr} {gc : Nat} {h : Gs} {st : Option Addr} {hc : Nat} {ob : Nat} {o : Gs} {wx : World} (d : DG w g ss gc h st hc ob o wx) : DG w g ss gc h st hc ob o wx.drew := d.call (Below.refl _ _).drew

theorem doW_at (w : World) (g : Gs) (ss : Option Addr) (gc : Nat) (h : Gs) (st : Option Addr) (hc : Nat) : GuAt (((w.alloc (.cells #[.bool g.n, .bool g.sp.n, .int .i64 g.sp.lo, .int .i64 g.sp.hi, .bool g.t, .bool g.f, .slice ss g.s.length gc] 61)).alloc (.cells #[.bool h.n, .bool h.sp.n, .int .i64 h.sp.lo, .int .i64 h.sp.hi, .bool h.t, .bool h.f, .slice st h.s.length hc] 61)).alloc (.cells #[.bool false, .bool false, .int .i64 0, .int .i64 0, .bool false, .bool false, .slice none 0 0] 61)) w.heap.size 0 g ss gc ∧ GuAt (((w.alloc (.cells #[.bool g.n, .bool g.sp.n, .int .i64 g.sp.lo, .int .i64 g.sp.hi, .bool g.t, .bool g.f, .slice ss g.s.length gc] 61)).alloc (.cells #[.bool h.n, .bool h.sp.n, .int .i64 h.sp.lo, .int .i64 h.sp.hi, .bool h.t, .bool h.f, .slice st h.s.length hc] 61)).alloc (.cells #[.bool false, .bool false, .int .i64 0, .int .i64 0, .bool false, .bool false, .slice none 0 0] 61)) (w.heap.size + 1) 0 h st hc ∧ GuAt (((w.alloc (.cells #[.bool g.n, .bool g.sp.n, .int .i64 g.sp.lo, .int .i64 g.sp.hi, .bool g.t, .bool g.f, .slice ss g.s.length gc] 61)).alloc (.cells #[.bool h.n, .bool h.sp.n, .int .i64 h.sp.lo, .int .i64 h.sp.hi, .bool h.t, .bool h.f, .slice st h.s.length hc] 61)).alloc (.cells #[.bool false, .bool false, .int .i64 0, .int .i64 0, .bool false, .bool false, .slice none 0 0] 61)) (w.heap.size + 1 + 1) 0 zeroG none 0 ∧ Fr7 (((w.alloc (.cells #[.bool g.n, .bool g.sp.n, .int .i64 g.sp.lo, .int .i64 g.sp.hi, .bool g.t, .bool g.f, .slice ss g.s.length gc] 61)).alloc (.cells #[.bool h.n, .bool h.sp.n, .int .i64 h.sp.lo, .int .i64 h.sp.hi, .bool h.t, .bool h.f, .slice st h.s.length hc] 61)).alloc (.cells #[.bool false, .bool false, .int .i64 0, .int .i64 0, .bool false, .bool false, .slice none 0 0] 61)) (w.heap.size + 1 + 1) ∧ Below w.heap.size w (((w.alloc (.cells #[.bool g.n, .bool g.sp.n, .int .i64 g.sp.lo, .int .i64 g.sp.hi, .bool g.t, .bool g.f, .slice ss g.s.length gc] 61)).alloc (.cells #[.bool h.n, .bool h.sp.n, .int .i64 h.sp.lo, .int .i64 h.sp.hi, .bool h.t, .bool h.f, .slice st h.s.length hc] 61)).alloc (.cells #[.bool false, .bool false, .int .i64 0, .int .i64 0, .bool false, .bool false, .slice none 0 0] 61)) := by
 obtain ⟨G0, H0, B0⟩ := two_at w g ss gc h st hc
 have R0 := GuAt.new ((w.alloc (.cells #[.bool g.n, .bool g.sp.n, .int .i64 g.sp.lo, .int .i64 g.sp.hi, .bool g.t, .bool g.f, .slice ss g.s.length gc] 61)).alloc (.cells #[.bool h.n, .bool h.sp.n, .int .i64 h.sp.lo, .int .i64 h.sp.hi, .bool h.t, .bool h.f, .slice st h.s.length hc] 61)) zeroG none 0
 rw [World.size_alloc, World.size_alloc] at R0
 exact ⟨G0.alloc _, H0.alloc _, R0, ⟨fun j => by simp [go_sem], by simp⟩, by go_grown⟩
/-- Behind the call of Nothing: the answer lies in a new block. -/
theorem doW_out {w : World} {g : Gs} {ss : Option Addr} {gc : Nat} {h : Gs} {st : Option Addr} {hc : Nat} {w1 : World} (hb : Below (((w.alloc (.cells #[.bool g.n, .bool g.sp.n, .int .i64 g.sp.lo, .int .i64 g.sp.hi, .bool g.t, .bool g.f, .slice ss g.s.length gc] 61)).alloc (.cells #[.bool h.n, .bool h.sp.n, .int .i64 h.sp.lo, .int .i64 h.sp.hi, .bool h.t, .bool h.f, .slice st h.s.length hc] 61)).alloc (.cells #[.bool false, .bool false, .int .i64 0, .int .i64 0, .bool false, .bool false, .slice none 0 0] 61)).heap.size (((w.alloc (.cells #[.bool g.n, .bool g.sp.n, .int .i64 g.sp.lo, .int .i64 g.sp.hi, .bool g.t, .bool g.f, .slice ss g.s.length gc] 61)).alloc (.cells #[.bool h.n, .bool h.sp.n, .int .i64 h.sp.lo, .int .i64 h.sp.hi, .bool h.t, .bool h.f, .slice st h.s.length hc] 61)).alloc (.cells #[.bool false, .bool false, .int .i64 0, .int .i64 0, .bool false, .bool false, .slice none 0 0] 61)) w1) : DG w g ss gc h st hc w1.heap.size noneG (w1.alloc (.cells #[.bool noneG.n, .bool noneG.sp.n, .int .i64 noneG.sp.lo, .int .i64 noneG.sp.hi, .bool noneG.t, .bool noneG.f, .slice none noneG.s.length 0] 61)) := by
 obtain ⟨G0, H0, R0, F0, B0⟩ := doW_at w g ss gc h st hc
 have G1 := (G0.call hb).alloc (.cells #[.bool noneG.n, .bool noneG.sp.n, .int .i64 noneG.sp.lo, .int .i64 noneG.sp.hi, .bool noneG.t, .bool noneG.f, .slice none noneG.s.length 0] 61)
 have H1 := (H0.call hb).alloc (.cells #[.bool noneG.n, .bool noneG.sp.n, .int .i64 noneG.sp.lo, .int .i64 noneG.sp.hi, .bool noneG.t, .bool noneG.f, .slice none noneG.s.length 0] 61)
 have z := (R0.call hb).2
 have R1 := (R0.call hb).alloc (.cells #[.bool noneG.n, .bool noneG.sp.n, .int .i64 noneG.sp.lo, .int .i64 noneG.sp.hi, .bool noneG.t, .bool noneG.f, .slice none noneG.s.length 0] 61)
 have F1 := (F0.call hb).alloc (.cells #[.bool noneG.n, .bool noneG.sp.n, .int .i64 noneG.sp.lo, .int .i64 noneG.sp.hi, .bool noneG.t, .bool noneG.f, .slice none noneG.s.length 0] 61)
 have B1 := B0.trans (hb.mono B0.size)
 exact ⟨G1, H1, R1, F1, GuAt.new w1 noneG none 0, ⟨fun j => by simp [go_sem], by simp⟩, B1.alloc B1.size _, z⟩
/-- .. and stores to it: .. -/
theorem DG.out {w : World} {g : Gs} {ss : Option Addr} {gc : Nat} {h : Gs} {st : Option Addr} {hc : Nat} {ob : Nat} {o o' : Gs} {wx wy : World} (d : DG w g ss gc h st hc ob o wx) (hb : ∀ k, k ≠ ob → wy.heap[k]? = wx.heap[k]?) (hz : wy.heap.size = wx.heap.size) (hf : Fr7 wy ob) (ho : GuAt wy ob 0 o' none 0) (hB : Below w.heap.size w wy) : DG w g ss gc h st hc ob o' wy := by
 have hg : ∀ {k : Nat} {x : Gs} {xs : Option Addr} {xc : Nat}, k ≠ ob → GuAt wx k 0 x xs xc → GuAt wy k 0 x xs xc := by
  intro k x xs xc hk hg
  obtain ⟨⟨h0, h1, h2, h3, h4, h5, h6⟩, hz'⟩ := hg
  have hc : ∀ j, wy.cell? ⟨k, j, none⟩ = wx.cell? ⟨k, j, none⟩ := fun j => World.cell?_of_block (a := ⟨k, j, none⟩) (hb k hk)
  exact ⟨⟨(hc _).trans h0, (hc _).trans h1, (hc _).trans h2, (hc _).trans h3, (hc _).trans h4, (hc _).trans h5, (hc _).trans h6⟩, by rw [hz]; exact hz'⟩
 have z := d.2.2.2.2.2.2.2
 refine ⟨hg (by omega) d.1, hg (by omega) d.2.1, hg (by omega) d.2.2.1, ⟨fun j => ?_, by rw [hz]; exact d.2.2.2.1.2⟩, ho, hf, hB, z⟩
 rw [World.frozen?_of_block (a := ⟨w.heap.size + 1 + 1, j, none⟩) (hb _ (by show w.heap.size + 1 + 1 ≠ ob; omega))]
 exact d.2.2.2.1.1 j
theorem prf_3190b5 {p : Prop} (h : p := by
 obtain ⟨⟨h0, h1, h2, h3, h4, h5, h6⟩, hz⟩ := d.2.2.2.2.1
 simp only [Nat.zero_add] at h0 h1 h2 h3 h4 h5 h6
 exact ⟨⟨by simp [go_sem, h0], by simp [go_sem, h1], by simp [go_sem, h2], by simp [go_sem, h3], by simp [go_sem, h4], by simp [go_sem, h5], by simp [go_sem, h6]⟩, by simpa using hz⟩) : p := h
theorem DG.t {w : World} {g : Gs} {ss : Option Addr} {gc : Nat} {h : Gs} {st : Option Addr} {hc : Nat} {ob : Nat} {o : Gs} {wx : World} {y : Bool} (d : DG w g ss gc h st hc ob o wx) : DG w g ss gc h st hc ob ⟨o.n, o.sp, y, o.f, o.s⟩ (wx.setCell ⟨ob, 4, none⟩ (.bool y)) := by
 have z := d.2.2.2.2.2.2.2
 refine d.out (fun k hk => Below.heap_setCell _ _ _ _ hk) (by simp) d.2.2.2.2.2.1.set ?_ (d.2.2.2.2.2.2.1.setCell (by simp; omega) _)
 exact prf_3190b5
theorem DG.f {w : World} {g : Gs} {ss : Option Addr} {gc : Nat} {h : Gs} {st : Option Addr} {hc : Nat} {ob : Nat} {o : Gs} {wx : World} {y : Bool} (d : DG w g ss gc h st hc ob o wx) : DG w g ss gc h st hc ob ⟨o.n, o.sp, o.t, y, o.s⟩ (wx.setCell ⟨ob, 5, none⟩ (.bool y)) := by
 have z := d.2.2.2.2.2.2.2
 refine d.out (fun k hk => Below.heap_setCell _ _ _ _ hk) (by simp) d.2.2.2.2.2.1.set ?_ (d.2.2.2.2.2.2.1.setCell (by simp; omega) _)
 exact prf_3190b5
theorem DG.sp {w : World} {g : Gs} {ss : Option Addr} {gc : Nat} {h : Gs} {st : Option Addr} {hc : Nat} {ob : Nat} {o : Gs} {wx : World} {s : Sp} (d : DG w g ss gc h st hc ob o wx) : DG w g ss gc h st hc ob ⟨o.n, s, o.t, o.f, o.s⟩ (((wx.setCell ⟨ob, 1, none⟩ (.bool s.n)).setCell ⟨ob, 2, none⟩ (.int .i64 s.lo)).setCell ⟨ob, 3, none⟩ (.int .i64 s.hi)) := by
 have z := d.2.2.2.2.2.2.2
 refine d.out (fun k hk => by rw [Below.heap_setCell _ _ _ _ hk, Below.heap_setCell _ _ _ _ hk, Below.heap_setCell _ _ _ _ hk]) (by simp) d.2.2.2.2.2.1.set.set.set ?_ (((d.2.2.2.2.2.2.1.setCell (by simp; omega) _).setCell (by simp; omega) _).setCell (by simp; omega) _)
 exact prf_3190b5
end
section
set_option maxHeartbeats 4000000
set_option maxRecDepth 10000
open Go.RowKit

theorem doR_4 (w : World) (g : Gs) (ss : Option Addr) (gc : Nat) (h : Gs) (st : Option Addr) (hc : Nat) :
  Calls Tryz.prog 27 #[.int .i64 4, gv g ss gc, gv h st hc] w fun e w' => e = .returned (if nothingGs g = true then .tuple #[gv noneG none 0, .bool false] else .tuple #[gv g ss gc, .bool false]) ∧ Below w.heap.size w w' := by
 generalize hnn : nothingGs g = nn
 have Hnn := hideH hnn
 clear hnn
 have HNg := hideH (fun w => isNothing_any g ss gc w)
 have HNh := hideH (fun w => isNothing_any h st hc w)
 generalize nothingGs g = ng at *
 generalize nothingGs h = nh at *
 go_enter Tryz.func27, Tryz.ntmps27
 go_upto_region 1 with fail
 go_cut [8] (fun t wy => ∃ ob, t = .pointer (some ⟨ob, 0, none⟩) ∧ DG w g ss gc h st hc ob noneG wy)
 case first =>
  go_wp2_with (go_at_call 21; fail)
  refine (nothingR_any _).mono ?_
  rintro e w1 ⟨rfl, hb1⟩
  have D1 := doW_out hb1
  go_wp2_with fail
  go_meet
  refine ⟨w1.heap.size, rfl, ?_⟩
  exact D1
 obtain ⟨ob, rfl, D1⟩ := hcut
 obtain ⟨⟨g0, g1, g2, g3, g4, g5, g6⟩, gz⟩ := id D1.1
 simp only [Nat.zero_add] at g0 g1 g2 g3 g4 g5 g6
 obtain ⟨⟨k0, k1, k2, k3, k4, k5, k6⟩, kz⟩ := id D1.2.1
 simp only [Nat.zero_add] at k0 k1 k2 k3 k4 k5 k6
 have fz := D1.2.2.2.1.1
 have fo := D1.2.2.2.2.2.1.1
 have zo := D1.2.2.2.2.2.2.2
 go_upto_region 2 with fail
 go_cut [27] (fun t wy => t = .bool nn ∧ DG w g ss gc h st hc ob noneG wy)
 case first =>
  go_wp2_with (go_at_call 28; fail)
  refine (HNg.out _).mono ?_
  rintro e w2 ⟨rfl, hb2⟩
  have D2 := D1.call hb2
  clear g0 g1 g2 g3 g4 g5 g6 gz k0 k1 k2 k3 k4 k5 k6 kz fz fo
  cases ng with
  | true =>
   go_wp2_with fail
   go_meet
   exact ⟨by rw [← Hnn.out]; first | done | rfl | simp, D2⟩
  | false =>
   go_wp2_with fail
   go_meet
   exact ⟨by rw [← Hnn.out]; first | done | rfl | simp, D2⟩
 obtain ⟨rfl, D2⟩ := hcut
 clear g0 g1 g2 g3 g4 g5 g6 gz k0 k1 k2 k3 k4 k5 k6 kz fz fo zo D1 HNg HNh Hnn
 cases nn with
 | true =>
  obtain ⟨⟨g0, g1, g2, g3, g4, g5, g6⟩, gz⟩ := id D2.1
  simp only [Nat.zero_add] at g0 g1 g2 g3 g4 g5 g6
  obtain ⟨⟨r0, r1, r2, r3, r4, r5, r6⟩, rz⟩ := id D2.2.2.1
  simp only [Nat.zero_add] at r0 r1 r2 r3 r4 r5 r6
  obtain ⟨⟨o0, o1, o2, o3, o4, o5, o6⟩, oz⟩ := id D2.2.2.2.2.1
  simp only [Nat.zero_add] at o0 o1 o2 o3 o4 o5 o6
  simp only [zeroG] at r0 r1 r2 r3 r4 r5 r6
  have fz := D2.2.2.2.1.1
  have fo := D2.2.2.2.2.2.1.1
  have zo := D2.2.2.2.2.2.2.2
  simp only [noneG] at o0 o1 o2 o3 o4 o5 o6
  go_wp2
  refine bodyPost_ret (v := .tuple #[gv noneG none 0, .bool false]) (by simp [results, Tryz.results27, go_sem, r0, r1, r2, r3, r4, r5, r6, noneG]) rfl ⟨?_, ?_⟩
  ·rfl
  ·exact below_put7 D2.2.2.2.2.2.2.1 (by omega)
 | false =>
  obtain ⟨⟨g0, g1, g2, g3, g4, g5, g6⟩, gz⟩ := id D2.1
  simp only [Nat.zero_add] at g0 g1 g2 g3 g4 g5 g6
  obtain ⟨⟨r0, r1, r2, r3, r4, r5, r6⟩, rz⟩ := id D2.2.2.1
  simp only [Nat.zero_add] at r0 r1 r2 r3 r4 r5 r6
  simp only [zeroG] at r0 r1 r2 r3 r4 r5 r6
  have fz := D2.2.2.2.1.1
  have fo := D2.2.2.2.2.2.1.1
  have zo := D2.2.2.2.2.2.2.2
  go_wp2
  refine bodyPost_ret (v := .tuple #[gv g ss gc, .bool false]) (by simp [results, Tryz.results27, go_sem, r0, r1, r2, r3, r4, r5, r6]) rfl ⟨?_, ?_⟩
  ·rfl
  ·exact below_put7 D2.2.2.2.2.2.2.1 (by omega)
end
section
set_option maxRecDepth 100000
open Go.RowKit

/-- What the last region reads. -/
def regR (b ob : Nat) (g : Gs) (ss : Option Addr) (gc : Nat) (h : Gs) (st : Option Addr) (hc : Nat) (o : Gs) (w' : World) : Prop :=
 (w'.cell? ⟨b, 0, none⟩ = some (.bool g.n) ∧ w'.cell? ⟨b, 1, none⟩ = some (.bool g.sp.n) ∧ w'.cell? ⟨b, 2, none⟩ = some (.int .i64 g.sp.lo) ∧ w'.cell? ⟨b, 3, none⟩ = some (.int .i64 g.sp.hi) ∧ w'.cell? ⟨b, 4, none⟩ = some (.bool g.t) ∧ w'.cell? ⟨b, 5, none⟩ = some (.bool g.f) ∧ w'.cell? ⟨b, 6, none⟩ = some (.slice ss g.s.length gc)) ∧ (w'.cell? ⟨b + 1, 0, none⟩ = some (.bool h.n) ∧ w'.cell? ⟨b + 1, 1, none⟩ = some (.bool h.sp.n) ∧ w'.cell? ⟨b + 1, 2, none⟩ = some (.int .i64 h.sp.lo) ∧ w'.cell? ⟨b + 1, 3, none⟩ = some (.int .i64 h.sp.hi) ∧ w'.cell? ⟨b + 1, 4, none⟩ = some (.bool h.t) ∧ w'.cell? ⟨b + 1, 5, none⟩ = some (.bool h.f) ∧ w'.cell? ⟨b + 1, 6, none⟩ = some (.slice st h.s.length hc)) ∧ (w'.cell? ⟨ob, 0, none⟩ = some (.bool o.n) ∧ w'.cell? ⟨ob, 1, none⟩ = some (.bool o.sp.n) ∧ w'.cell? ⟨ob, 2, none⟩ = some (.int .i64 o.sp.lo) ∧ w'.cell? ⟨ob, 3, none⟩ = some (.int .i64 o.sp.hi) ∧ w'.cell? ⟨ob, 4, none⟩ = some (.bool o.t) ∧ w'.cell? ⟨ob, 5, none⟩ = some (.bool o.f) ∧ w'.cell? ⟨ob, 6, none⟩ = some (.slice none o.s.length 0))

theorem sp_same {a b : Sp} (h1 : (a.n == b.n) = true) (h2 : (a.lo == b.lo) = true) (h3 : (a.hi == b.hi) = true) : a = b := by
 obtain ⟨a1, a2, a3⟩ := a
 obtain ⟨b1, b2, b3⟩ := b
 simp only [beq_iff_eq] at h1 h2 h3
 rw [h1, h2, h3]
/-- What the region of the two singles reads. -/
def regT (b : Nat) (g : Gs) (ss : Option Addr) (gc : Nat) (h : Gs) (st : Option Addr) (hc : Nat) (w' : World) : Prop :=
 (w'.cell? ⟨b, 0, none⟩ = some (.bool g.n) ∧ w'.cell? ⟨b, 1, none⟩ = some (.bool g.sp.n) ∧ w'.cell? ⟨b, 2, none⟩ = some (.int .i64 g.sp.lo) ∧ w'.cell? ⟨b, 3, none⟩ = some (.int .i64 g.sp.hi) ∧ w'.cell? ⟨b, 4, none⟩ = some (.bool g.t) ∧ w'.cell? ⟨b, 5, none⟩ = some (.bool g.f) ∧ w'.cell? ⟨b, 6, none⟩ = some (.slice ss g.s.length gc)) ∧ (w'.cell? ⟨b + 1, 0, none⟩ = some (.bool h.n) ∧ w'.cell? ⟨b + 1, 1, none⟩ = some (.bool h.sp.n) ∧ w'.cell? ⟨b + 1, 2, none⟩ = some (.int .i64 h.sp.lo) ∧ w'.cell? ⟨b + 1, 3, none⟩ = some (.int .i64 h.sp.hi) ∧ w'.cell? ⟨b + 1, 4, none⟩ = some (.bool h.t) ∧ w'.cell? ⟨b + 1, 5, none⟩ = some (.bool h.f) ∧ w'.cell? ⟨b + 1, 6, none⟩ = some (.slice st h.s.length hc))
theorem prf_762c0c {p : Prop} (h : p := by
 have en1 := Hn1.out
 have en2 := Hn2.out
 cases cb with
 | true =>
  have Ey : Hid (y = true) := by show _ = _; rw [← Hy.out, ← HA.out]; simp
  go_wp2_with fail
  go_meet
  rw [Ey.out]
  exact DR.t
 | false =>
  have h3 : (g.t = true ∧ h.t = true) ∨ g.t = false ∨ (g.t = true ∧ h.t = false) := by cases g.t <;> cases h.t <;> simp
  rcases h3 with ⟨et1, et2⟩ | et1 | ⟨et1, et2⟩
  ·have Ey : Hid (y = true) := by show _ = _; rw [← Hy.out, et1, et2]; simp
   go_wp2_with fail
   go_meet
   rw [Ey.out]
   exact DR.t
  ·have h3 : (g.f = true ∧ h.f = true) ∨ g.f = false ∨ (g.f = true ∧ h.f = false) := by cases g.f <;> cases h.f <;> simp
   rcases h3 with ⟨ef1, ef2⟩ | ef1 | ⟨ef1, ef2⟩
   ·have Ey : Hid (y = true) := by show _ = _; rw [← Hy.out, ef1, ef2]; simp
    go_wp2_with fail
    go_meet
    rw [Ey.out]
    exact DR.t
   ·have Ey : Hid (y = !ms.n) := by show _ = _; first | (rw [← Hy.out, ← HA.out, en1, en2, et1, ef1]; simp; done) | (rw [← Hy.out, ← HA.out, en1, et1, ef1]; simp)
    go_wp2_with (go_at_call 60; fail)
    refine (HM.out _).mono ?_
    rintro e w5 ⟨rfl, hb5⟩
    have D5 := DR.call hb5
    clear g0 g1 g2 g3 g4 g5 g6 gz k0 k1 k2 k3 k4 k5 k6 kz fz fo zo o0 o1 o2 o3 o4 o5 o6 oz
    have fz := D5.2.2.2.1.1
    have fo := D5.2.2.2.2.2.1.1
    have zo := D5.2.2.2.2.2.2.2
    have o0 := D5.2.2.2.2.1.1
    simp only [noneG, Nat.zero_add] at o0
    obtain ⟨o0, o1, o2, o3, o4, o5, o6⟩ := o0
    go_wp2_with fail
    go_meet
    rw [Ey.out]
    exact D5.t
   ·have Ey : Hid (y = !ms.n) := by show _ = _; first | (rw [← Hy.out, ← HA.out, en1, en2, et1, ef1, ef2]; simp; done) | (rw [← Hy.out, ← HA.out, en1, et1, ef1, ef2]; simp)
    go_wp2_with (go_at_call 60; fail)
    refine (HM.out _).mono ?_
    rintro e w5 ⟨rfl, hb5⟩
    have D5 := DR.call hb5
    clear g0 g1 g2 g3 g4 g5 g6 gz k0 k1 k2 k3 k4 k5 k6 kz fz fo zo o0 o1 o2 o3 o4 o5 o6 oz
    have fz := D5.2.2.2.1.1
    have fo := D5.2.2.2.2.2.1.1
    have zo := D5.2.2.2.2.2.2.2
    have o0 := D5.2.2.2.2.1.1
    simp only [noneG, Nat.zero_add] at o0
    obtain ⟨o0, o1, o2, o3, o4, o5, o6⟩ := o0
    go_wp2_with fail
    go_meet
    rw [Ey.out]
    exact D5.t
  ·have h3 : (g.f = true ∧ h.f = true) ∨ g.f = false ∨ (g.f = true ∧ h.f = false) := by cases g.f <;> cases h.f <;> simp
   rcases h3 with ⟨ef1, ef2⟩ | ef1 | ⟨ef1, ef2⟩
   ·have Ey : Hid (y = true) := by show _ = _; rw [← Hy.out, ef1, ef2]; simp
    go_wp2_with fail
    go_meet
    rw [Ey.out]
    exact DR.t
   ·have Ey : Hid (y = !ms.n) := by show _ = _; first | (rw [← Hy.out, ← HA.out, en1, en2, et1, et2, ef1]; simp; done) | (rw [← Hy.out, ← HA.out, en1, et1, et2, ef1]; simp)
    go_wp2_with (go_at_call 60; fail)
    refine (HM.out _).mono ?_
    rintro e w5 ⟨rfl, hb5⟩
    have D5 := DR.call hb5
    clear g0 g1 g2 g3 g4 g5 g6 gz k0 k1 k2 k3 k4 k5 k6 kz fz fo zo o0 o1 o2 o3 o4 o5 o6 oz
    have fz := D5.2.2.2.1.1
    have fo := D5.2.2.2.2.2.1.1
    have zo := D5.2.2.2.2.2.2.2
    have o0 := D5.2.2.2.2.1.1
    simp only [noneG, Nat.zero_add] at o0
    obtain ⟨o0, o1, o2, o3, o4, o5, o6⟩ := o0
    go_wp2_with fail
    go_meet
    rw [Ey.out]
    exact D5.t
   ·have Ey : Hid (y = !ms.n) := by show _ = _; first | (rw [← Hy.out, ← HA.out, en1, en2, et1, et2, ef1, ef2]; simp; done) | (rw [← Hy.out, ← HA.out, en1, et1, et2, ef1, ef2]; simp)
    go_wp2_with (go_at_call 60; fail)
    refine (HM.out _).mono ?_
    rintro e w5 ⟨rfl, hb5⟩
    have D5 := DR.call hb5
    clear g0 g1 g2 g3 g4 g5 g6 gz k0 k1 k2 k3 k4 k5 k6 kz fz fo zo o0 o1 o2 o3 o4 o5 o6 oz
    have fz := D5.2.2.2.1.1
    have fo := D5.2.2.2.2.2.1.1
    have zo := D5.2.2.2.2.2.2.2
    have o0 := D5.2.2.2.2.1.1
    simp only [noneG, Nat.zero_add] at o0
    obtain ⟨o0, o1, o2, o3, o4, o5, o6⟩ := o0
    go_wp2_with fail
    go_meet
    rw [Ey.out]
    exact D5.t) : p := h
theorem prf_d31000 {p : Prop} (h : p := by
 have JR := ht.below DR.2.2.2.2.2.2.1 (Nat.le_refl _)
 obtain ⟨b, off, rfl, hb, hcell⟩ := IR.get k hlt
 have c0 := hcell k hlt
 have n0 : (0 : Int) ≤ (k : Int) := by omega
 have n1 : (k : Int) < (g.s.length : Int) := by omega
 clear hcell
 cases cb with
 | true =>
  have HN : Hid (true = (g.s.take (k + 1)).any fun x => h.s.contains x) := by
   show _ = _
   rw [List.take_add_one, List.any_append, ← HC.out]; rfl
  go_wp2
  refine wp_region_held_drew (S := fun _ => True) (by kernel_rfl) trivial (fun hHeld => ?_)
  refine tH 0 ?_ ?_;refine sm ?_
  refine tH 1 ?_ ?_;refine sm ?_
  refine uH 2 ?_;refine sm ?_
  refine uH 3 ?_;refine sm ?_
  refine uH 4 ?_;refine sm ?_
  refine uH 5 ?_;refine sm ?_
  refine uH 6 ?_;refine sm ?_
  refine uH 7 ?_;refine sm ?_
  refine uH 8 ?_;refine sm ?_
  refine uH 9 ?_;refine sm ?_
  refine tH 10 ?_ ?_;refine sm ?_
  refine tH 11 ?_ ?_;refine sm ?_
  refine wpAnyH_done (by kernel_rfl) ?_ _
  go_wp2
  go_roundw
  case rel => exact ⟨k + 1, true, by omega, by go_num, rfl, HN, DR.drew⟩
  case measure => simp [intOf]; omega
 | false =>
  have HN : Hid (decide (g.s[k] ∈ h.s) = (g.s.take (k + 1)).any fun x => h.s.contains x) := by
   show _ = _
   rw [List.take_add_one, List.any_append, ← HC.out, List.getElem?_eq_getElem hlt]; simp
  go_wp2
  go_region_held3 (fun wx => wx.cell? ⟨w.heap.size, 6, none⟩ = some (.slice (some ⟨b, off, none⟩) g.s.length gc) ∧ wx.cell? ⟨w.heap.size + 1, 6, none⟩ = some (.slice st h.s.length hc) ∧ wx.cell? ⟨b, off + k, none⟩ = some (.int .i64 g.s[k]))
   (exact ⟨g6, k6, c0⟩)
   ((go_at_call 59; refine (hasR_any g.s[k] st hc h.s _ hhl JR.drew).mono ?_; rintro e w2 ⟨rfl, hw2⟩; have hw3 := hw2.symm; subst hw3))
  go_wp2
  go_roundw
  case rel => exact ⟨k + 1, decide (g.s[k] ∈ h.s), by omega, by go_num, rfl, HN, DR.drew⟩
  case measure => simp [intOf]; omega) : p := h
theorem prf_485914 {p : Prop} (h : p := by
 go_wp2_with (go_at_call 28; fail)
 refine (HNg.out _).mono ?_
 rintro e w2 ⟨rfl, hb2⟩
 have D2 := D1.call hb2
 clear g0 g1 g2 g3 g4 g5 g6 gz k0 k1 k2 k3 k4 k5 k6 kz fz fo
 cases ng with
 | true =>
  go_wp2_with fail
  go_meet
  exact ⟨by rw [← Hnn.out]; first | done | rfl | simp, D2⟩
 | false =>
  obtain ⟨⟨k0, k1, k2, k3, k4, k5, k6⟩, kz⟩ := id D2.2.1
  simp only [Nat.zero_add] at k0 k1 k2 k3 k4 k5 k6
  have fz := D2.2.2.2.1.1
  have fo := D2.2.2.2.2.2.1.1
  have zo2 := D2.2.2.2.2.2.2.2
  go_wp2_with (go_at_call 28; fail)
  refine (HNh.out _).mono ?_
  rintro e w3 ⟨rfl, hb3⟩
  have D3 := D2.call hb3
  go_wp2_with fail
  go_meet
  exact ⟨by rw [← Hnn.out]; first | done | rfl | simp, D3⟩) : p := h
theorem prf_3a00b6 {p : Prop} (h : p := by
 obtain ⟨⟨g0, g1, g2, g3, g4, g5, g6⟩, gz⟩ := id D2.1
 simp only [Nat.zero_add] at g0 g1 g2 g3 g4 g5 g6
 obtain ⟨⟨r0, r1, r2, r3, r4, r5, r6⟩, rz⟩ := id D2.2.2.1
 simp only [Nat.zero_add] at r0 r1 r2 r3 r4 r5 r6
 obtain ⟨⟨o0, o1, o2, o3, o4, o5, o6⟩, oz⟩ := id D2.2.2.2.2.1
 simp only [Nat.zero_add] at o0 o1 o2 o3 o4 o5 o6
 simp only [zeroG] at r0 r1 r2 r3 r4 r5 r6
 have fz := D2.2.2.2.1.1
 have fo := D2.2.2.2.2.2.1.1
 have zo := D2.2.2.2.2.2.2.2
 simp only [noneG] at o0 o1 o2 o3 o4 o5 o6
 go_wp2
 refine bodyPost_ret (v := .tuple #[gv noneG none 0, .bool false]) (by simp [results, Tryz.results27, go_sem, r0, r1, r2, r3, r4, r5, r6, noneG]) rfl ⟨?_, ?_⟩
 ·rfl
 ·exact below_put7 D2.2.2.2.2.2.2.1 (by omega)) : p := h
theorem prf_r9s0 {p : Prop} (h : p := by
 have HM : Hid (∀ w, Calls Tryz.prog 60 #[sv g.sp, sv h.sp] w fun e w' => e = .returned (.agg #[.bool (meetSp g.sp h.sp).n, .int .i64 (meetSp g.sp h.sp).lo, .int .i64 (meetSp g.sp h.sp).hi]) ∧ Below w.heap.size w w') := fun w => meetSpan_any g.sp h.sp w
 have HSg := hideH (fun w => single_any g ss gc w)
 have HSh := hideH (fun w => single_any h st hc w)
 generalize hy : ((g.n && h.n) || (!(meetSp g.sp h.sp).n || ((g.t && h.t) || ((g.f && h.f) || g.s.any fun x => h.s.contains x)))) = y
 have Hy := hideH hy
 generalize hal : (!alikeGs g h) = al
 have Hal : Hid (al = (decide (oneGs g < 0) || (decide (oneGs g ≠ oneGs h) || @decide _ (@instDecidableNot _ (g.sp.dq h.sp))))) := by show _ = _; rw [← hal, alike_one]
 clear hy hal
 generalize oneGs g = x1 at *
 generalize oneGs h = x2 at *
 generalize meetSp g.sp h.sp = ms at *
 have hfld : ∀ wx : World, (Instr.field 58 (.agg #[.bool ms.n, .int .i64 ms.lo, .int .i64 ms.hi]) 0).run Tryz.prog wx = .ok (.bool ms.n) wx := fun _ => by kernel_rfl
 generalize hnn : (nothingGs g || nothingGs h) = nn
 have Hnn := hideH hnn
 clear hnn
 have HNg := hideH (fun w => isNothing_any g ss gc w)
 have HNh := hideH (fun w => isNothing_any h st hc w)
 generalize nothingGs g = ng at *
 generalize nothingGs h = nh at *
 go_enter Tryz.func27, Tryz.ntmps27
 go_upto_region 1 with fail
 go_cut [8] (fun t wy => ∃ ob, t = .pointer (some ⟨ob, 0, none⟩) ∧ DG w g ss gc h st hc ob noneG wy)
 case first =>
  go_wp2_with (go_at_call 21; fail)
  refine (nothingR_any _).mono ?_
  rintro e w1 ⟨rfl, hb1⟩
  have D1 := doW_out hb1
  go_wp2_with fail
  go_meet
  refine ⟨w1.heap.size, rfl, ?_⟩
  exact D1
 obtain ⟨ob, rfl, D1⟩ := hcut
 obtain ⟨⟨g0, g1, g2, g3, g4, g5, g6⟩, gz⟩ := id D1.1
 simp only [Nat.zero_add] at g0 g1 g2 g3 g4 g5 g6
 obtain ⟨⟨k0, k1, k2, k3, k4, k5, k6⟩, kz⟩ := id D1.2.1
 simp only [Nat.zero_add] at k0 k1 k2 k3 k4 k5 k6
 have fz := D1.2.2.2.1.1
 have fo := D1.2.2.2.2.2.1.1
 have zo := D1.2.2.2.2.2.2.2
 go_upto_region 2 with fail
 go_cut [27] (fun t wy => t = .bool nn ∧ DG w g ss gc h st hc ob noneG wy)
 case first =>
  exact prf_485914
 obtain ⟨rfl, D2⟩ := hcut
 clear g0 g1 g2 g3 g4 g5 g6 gz k0 k1 k2 k3 k4 k5 k6 kz fz fo zo D1 HNg HNh Hnn
 cases nn with
 | true =>
  exact prf_3a00b6
 | false =>
  go_wp2_with fail
  go_loopw [11, 12] (fun cm i wr => ∃ (k : Nat) (cb : Bool), k ≤ g.s.length ∧ i = .int .i64 k ∧ cm = .bool cb ∧ Hid (cb = (g.s.take k).any fun x => h.s.contains x) ∧ DG w g ss gc h st hc ob noneG wr) (fun _ i _ => g.s.length - (intOf i).toNat)
  case atStart => exact ⟨0, false, Nat.zero_le _, rfl, rfl, (by show _ = _; simp), D2⟩
  case round =>
   obtain ⟨k, cb, hk, rfl, rfl, HC, DR⟩ := hrel
   clear D2
   obtain ⟨⟨g0, g1, g2, g3, g4, g5, g6⟩, gz⟩ := id DR.1
   simp only [Nat.zero_add] at g0 g1 g2 g3 g4 g5 g6
   obtain ⟨⟨k0, k1, k2, k3, k4, k5, k6⟩, kz⟩ := id DR.2.1
   simp only [Nat.zero_add] at k0 k1 k2 k3 k4 k5 k6
   have fz := DR.2.2.2.1.1
   have fo := DR.2.2.2.2.2.1.1
   have zo := DR.2.2.2.2.2.2.2
   by_cases hlt : k < g.s.length
   ·have IR := hs.below DR.2.2.2.2.2.2.1 (Nat.le_refl _)
    exact prf_d31000
   ·have ek : k = g.s.length := by omega
    have HA : Hid (cb = g.s.any fun x => h.s.contains x) := by show _ = _; rw [HC.out, ek, List.take_length]
    subst ek
    clear hlt
    clear HC
    obtain ⟨⟨o0, o1, o2, o3, o4, o5, o6⟩, oz⟩ := id DR.2.2.2.2.1
    simp only [Nat.zero_add] at o0 o1 o2 o3 o4 o5 o6
    simp only [noneG] at o0 o1 o2 o3 o4 o5 o6
    go_upto_region 17 with fail
    go_cut [11, 98] (fun t t' wy => DG w g ss gc h st hc ob ⟨false, ⟨true, 0, 0⟩, y, false, []⟩ wy)
    case first =>
     exact prf_762c0c
    have D6 := hcut
    clear DR g0 g1 g2 g3 g4 g5 g6 gz k0 k1 k2 k3 k4 k5 k6 kz fz fo zo o0 o1 o2 o3 o4 o5 o6 oz hcut Hy HA HM
    go_wp2_with fail
    have KS : ∀ {o : Gs} wx, DG w g ss gc h st hc ob o wx → regT w.heap.size g ss gc h st hc wx := fun wx a => ⟨by simpa using a.1.1, by simpa using a.2.1.1⟩
    generalize wc = w6 at *
    have D7 := D6.drew
    refine wp_region_held_drew (S := regT w.heap.size g ss gc h st hc) (by kernel_rfl) (KS _ D7) (fun hHeld => ?_)
    unfold regT at hHeld KS ⊢
    clear D6
    generalize w6.drew = w7 at *
    refine tH 0 ?_ ?_;refine sm ?_
    refine wpAnyH_ready (rs := [1]) (by kernel_rfl) (by simp) ?_
    refine AllReadyH.cons rfl (fun K hK => ?_) AllReadyH.nil
    go_simp
    refine (HSg.out _).mono ?_
    rintro e w8 ⟨rfl, hb8⟩
    have D8 := D7.call hb8
    refine hK.out _ _ (KS _ D8) (fun hHeld8 => ?_)
    clear hK K hb8 D7
    refine sm ?_
    refine tH 2 ?_ ?_;refine sm ?_
    have Hlt : ∃ lt : Bool, Hid (decide (x1 < 0) = lt) := ⟨_, rfl⟩
    obtain ⟨lt, Hlt⟩ := Hlt
    rw [Hlt.out]
    cases lt with
    | true =>
     have Eal : Hid (al = true) := by show _ = _; rw [Hal.out, Hlt.out]; rfl
     refine tH 3 ?_ ?_;refine sm ?_
     refine uH 4 ?_;refine sm ?_
     refine uH 5 ?_;refine sm ?_
     refine uH 6 ?_;refine sm ?_
     refine uH 7 ?_;refine sm ?_
     refine uH 8 ?_;refine sm ?_
     refine tH 9 ?_ ?_;refine sm ?_
     refine tH 10 ?_ ?_;refine sm ?_
     refine uH 11 ?_;refine sm ?_
     refine uH 12 ?_;refine sm ?_
     refine uH 13 ?_;refine sm ?_
     refine uH 14 ?_;refine sm ?_
     refine uH 15 ?_;refine sm ?_
     refine tH 16 ?_ ?_;refine sm ?_
     refine tH 17 ?_ ?_;refine sm ?_
     obtain ⟨⟨o0, o1, o2, o3, o4, o5, o6⟩, oz⟩ := id D8.2.2.2.2.1
     simp only [Nat.zero_add] at o0 o1 o2 o3 o4 o5 o6
     have fo := D8.2.2.2.2.2.1.1
     have D9 := D8.f (y := true)
     refine wpAnyH_ready (rs := [18]) (by kernel_rfl) (by simp) ?_
     refine AllReadyH.cons rfl (fun K hK => ?_) AllReadyH.nil
     go_simp
     refine hK.out _ (w8.setCell ⟨ob, 5, none⟩ (.bool true)) (KS _ D9) (fun hHeldz => ?_)
     clear hK K o0 o1 o2 o3 o4 o5 o6 oz fo D8
     refine sm ?_
     generalize w8.setCell ⟨ob, 5, none⟩ (.bool true) = w9 at *
     refine wpAnyH_done (by kernel_rfl) ?_ _
     obtain ⟨⟨r0, r1, r2, r3, r4, r5, r6⟩, rz⟩ := id D9.2.2.1
     simp only [Nat.zero_add] at r0 r1 r2 r3 r4 r5 r6
     obtain ⟨⟨o0, o1, o2, o3, o4, o5, o6⟩, oz⟩ := id D9.2.2.2.2.1
     simp only [Nat.zero_add] at o0 o1 o2 o3 o4 o5 o6
     simp only [zeroG] at r0 r1 r2 r3 r4 r5 r6
     have fz := D9.2.2.2.1.1
     have fo := D9.2.2.2.2.2.1.1
     have zo := D9.2.2.2.2.2.2.2
     go_wp2
     refine bodyPost_ret (v := .tuple #[gv ⟨false, ⟨true, 0, 0⟩, y, true, []⟩ none 0, .bool false]) (by simp [results, Tryz.results27, go_sem, r0, r1, r2, r3, r4, r5, r6]) rfl ⟨?_, ?_⟩
     ·rw [show al = true from Eal.out]
     ·exact below_put7 D9.2.2.2.2.2.2.1 (by omega)
    | false =>
     have hne : x1 ≠ x2 := by
      rcases hS.out with h | h
      ·exact absurd h (of_decide_eq_false Hlt.out)
      ·exact h
     refine tH 3 ?_ ?_;refine sm ?_
     refine tH 4 ?_ ?_;refine sm ?_
     refine tH 6 ?_ ?_;refine sm ?_
     refine wpAnyH_ready (rs := [5]) (by kernel_rfl) (by simp) ?_
     refine AllReadyH.cons rfl (fun K hK => ?_) AllReadyH.nil
     go_simp
     refine (HSg.out _).mono ?_
     rintro e w9 ⟨rfl, hb9⟩
     have D9 := D8.call hb9
     refine hK.out _ _ (KS _ D9) (fun hHeld9 => ?_)
     clear hK K hb9 D8
     refine sm ?_
     refine wpAnyH_ready (rs := [7]) (by kernel_rfl) (by simp) ?_
     refine AllReadyH.cons rfl (fun K hK => ?_) AllReadyH.nil
     go_simp
     refine (HSh.out _).mono ?_
     rintro e w10 ⟨rfl, hb10⟩
     have D10 := D9.call hb10
     refine hK.out _ _ (KS _ D10) (fun hHeld10 => ?_)
     clear hK K hb10 D9
     refine sm ?_
     have hneb : (x1 != x2) = true := by simpa using hne
     have Eal : Hid (al = true) := by show _ = _; rw [Hal.out, Hlt.out, decide_eq_true (p := x1 ≠ x2) hne]; simp
     refine tH 8 ?_ ?_;refine sm ?_
     refine tH 9 ?_ ?_;refine sm ?_
     refine tH 10 ?_ ?_;refine sm ?_
     refine uH 11 ?_;refine sm ?_
     refine uH 12 ?_;refine sm ?_
     refine uH 13 ?_;refine sm ?_
     refine uH 14 ?_;refine sm ?_
     refine uH 15 ?_;refine sm ?_
     refine tH 16 ?_ ?_;refine sm ?_
     refine tH 17 ?_ ?_;refine sm ?_
     obtain ⟨⟨o0, o1, o2, o3, o4, o5, o6⟩, oz⟩ := id D10.2.2.2.2.1
     simp only [Nat.zero_add] at o0 o1 o2 o3 o4 o5 o6
     have fo := D10.2.2.2.2.2.1.1
     have D9 := D10.f (y := true)
     refine wpAnyH_ready (rs := [18]) (by kernel_rfl) (by simp) ?_
     refine AllReadyH.cons rfl (fun K hK => ?_) AllReadyH.nil
     go_simp
     refine hK.out _ (w10.setCell ⟨ob, 5, none⟩ (.bool true)) (KS _ D9) (fun hHeldz => ?_)
     clear hK K o0 o1 o2 o3 o4 o5 o6 oz fo D10
     refine sm ?_
     generalize w10.setCell ⟨ob, 5, none⟩ (.bool true) = w9 at *
     refine wpAnyH_done (by kernel_rfl) ?_ _
     obtain ⟨⟨r0, r1, r2, r3, r4, r5, r6⟩, rz⟩ := id D9.2.2.1
     simp only [Nat.zero_add] at r0 r1 r2 r3 r4 r5 r6
     obtain ⟨⟨o0, o1, o2, o3, o4, o5, o6⟩, oz⟩ := id D9.2.2.2.2.1
     simp only [Nat.zero_add] at o0 o1 o2 o3 o4 o5 o6
     simp only [zeroG] at r0 r1 r2 r3 r4 r5 r6
     have fz := D9.2.2.2.1.1
     have fo := D9.2.2.2.2.2.1.1
     have zo := D9.2.2.2.2.2.2.2
     go_wp2
     refine bodyPost_ret (v := .tuple #[gv ⟨false, ⟨true, 0, 0⟩, y, true, []⟩ none 0, .bool false]) (by simp [results, Tryz.results27, go_sem, r0, r1, r2, r3, r4, r5, r6]) rfl ⟨?_, ?_⟩
     ·rw [show al = true from Eal.out]
     ·exact below_put7 D9.2.2.2.2.2.2.1 (by omega)) : p := h
theorem prf_9261ef {p : Prop} (h : p := by
 refine tH 15 ?_ ?_;refine sm ?_
 refine tH 16 ?_ ?_;refine sm ?_
 refine tH 17 ?_ ?_;refine sm ?_
 obtain ⟨⟨o0, o1, o2, o3, o4, o5, o6⟩, oz⟩ := id D10.2.2.2.2.1
 simp only [Nat.zero_add] at o0 o1 o2 o3 o4 o5 o6
 have fo := D10.2.2.2.2.2.1.1
 have D9 := D10.f (y := true)
 refine wpAnyH_ready (rs := [18]) (by kernel_rfl) (by simp) ?_
 refine AllReadyH.cons rfl (fun K hK => ?_) AllReadyH.nil
 go_simp
 refine hK.out _ (w10.setCell ⟨ob, 5, none⟩ (.bool true)) (KS _ D9) (fun hHeldz => ?_)
 clear hK K o0 o1 o2 o3 o4 o5 o6 oz fo D10
 refine sm ?_
 generalize w10.setCell ⟨ob, 5, none⟩ (.bool true) = w9 at *
 refine wpAnyH_done (by kernel_rfl) ?_ _
 obtain ⟨⟨r0, r1, r2, r3, r4, r5, r6⟩, rz⟩ := id D9.2.2.1
 simp only [Nat.zero_add] at r0 r1 r2 r3 r4 r5 r6
 obtain ⟨⟨o0, o1, o2, o3, o4, o5, o6⟩, oz⟩ := id D9.2.2.2.2.1
 simp only [Nat.zero_add] at o0 o1 o2 o3 o4 o5 o6
 simp only [zeroG] at r0 r1 r2 r3 r4 r5 r6
 have fz := D9.2.2.2.1.1
 have fo := D9.2.2.2.2.2.1.1
 have zo := D9.2.2.2.2.2.2.2
 go_wp2
 refine bodyPost_ret (v := .tuple #[gv ⟨false, ⟨true, 0, 0⟩, y, true, []⟩ none 0, .bool false]) (by simp [results, Tryz.results27, go_sem, r0, r1, r2, r3, r4, r5, r6]) rfl ⟨?_, ?_⟩
 ·rw [show al = true from Eal.out]
 ·exact below_put7 D9.2.2.2.2.2.2.1 (by omega)) : p := h
theorem prf_r9s1 {p : Prop} (h : p := by
 have HM : Hid (∀ w, Calls Tryz.prog 60 #[sv g.sp, sv h.sp] w fun e w' => e = .returned (.agg #[.bool (meetSp g.sp h.sp).n, .int .i64 (meetSp g.sp h.sp).lo, .int .i64 (meetSp g.sp h.sp).hi]) ∧ Below w.heap.size w w') := fun w => meetSpan_any g.sp h.sp w
 have HSg := hideH (fun w => single_any g ss gc w)
 have HSh := hideH (fun w => single_any h st hc w)
 generalize hy : ((g.n && h.n) || (!(meetSp g.sp h.sp).n || ((g.t && h.t) || ((g.f && h.f) || g.s.any fun x => h.s.contains x)))) = y
 have Hy := hideH hy
 generalize hal : (!alikeGs g h) = al
 have Hal : Hid (al = (decide (oneGs g < 0) || (decide (oneGs g ≠ oneGs h) || @decide _ (@instDecidableNot _ (g.sp.dq h.sp))))) := by show _ = _; rw [← hal, alike_one]
 clear hy hal
 generalize oneGs g = x1 at *
 generalize oneGs h = x2 at *
 generalize meetSp g.sp h.sp = ms at *
 have hfld : ∀ wx : World, (Instr.field 58 (.agg #[.bool ms.n, .int .i64 ms.lo, .int .i64 ms.hi]) 0).run Tryz.prog wx = .ok (.bool ms.n) wx := fun _ => by kernel_rfl
 generalize hnn : (nothingGs g || nothingGs h) = nn
 have Hnn := hideH hnn
 clear hnn
 have HNg := hideH (fun w => isNothing_any g ss gc w)
 have HNh := hideH (fun w => isNothing_any h st hc w)
 generalize nothingGs g = ng at *
 generalize nothingGs h = nh at *
 go_enter Tryz.func27, Tryz.ntmps27
 go_upto_region 1 with fail
 go_cut [8] (fun t wy => ∃ ob, t = .pointer (some ⟨ob, 0, none⟩) ∧ DG w g ss gc h st hc ob noneG wy)
 case first =>
  go_wp2_with (go_at_call 21; fail)
  refine (nothingR_any _).mono ?_
  rintro e w1 ⟨rfl, hb1⟩
  have D1 := doW_out hb1
  go_wp2_with fail
  go_meet
  refine ⟨w1.heap.size, rfl, ?_⟩
  exact D1
 obtain ⟨ob, rfl, D1⟩ := hcut
 obtain ⟨⟨g0, g1, g2, g3, g4, g5, g6⟩, gz⟩ := id D1.1
 simp only [Nat.zero_add] at g0 g1 g2 g3 g4 g5 g6
 obtain ⟨⟨k0, k1, k2, k3, k4, k5, k6⟩, kz⟩ := id D1.2.1
 simp only [Nat.zero_add] at k0 k1 k2 k3 k4 k5 k6
 have fz := D1.2.2.2.1.1
 have fo := D1.2.2.2.2.2.1.1
 have zo := D1.2.2.2.2.2.2.2
 go_upto_region 2 with fail
 go_cut [27] (fun t wy => t = .bool nn ∧ DG w g ss gc h st hc ob noneG wy)
 case first =>
  exact prf_485914
 obtain ⟨rfl, D2⟩ := hcut
 clear g0 g1 g2 g3 g4 g5 g6 gz k0 k1 k2 k3 k4 k5 k6 kz fz fo zo D1 HNg HNh Hnn
 cases nn with
 | true =>
  exact prf_3a00b6
 | false =>
  go_wp2_with fail
  go_loopw [11, 12] (fun cm i wr => ∃ (k : Nat) (cb : Bool), k ≤ g.s.length ∧ i = .int .i64 k ∧ cm = .bool cb ∧ Hid (cb = (g.s.take k).any fun x => h.s.contains x) ∧ DG w g ss gc h st hc ob noneG wr) (fun _ i _ => g.s.length - (intOf i).toNat)
  case atStart => exact ⟨0, false, Nat.zero_le _, rfl, rfl, (by show _ = _; simp), D2⟩
  case round =>
   obtain ⟨k, cb, hk, rfl, rfl, HC, DR⟩ := hrel
   clear D2
   obtain ⟨⟨g0, g1, g2, g3, g4, g5, g6⟩, gz⟩ := id DR.1
   simp only [Nat.zero_add] at g0 g1 g2 g3 g4 g5 g6
   obtain ⟨⟨k0, k1, k2, k3, k4, k5, k6⟩, kz⟩ := id DR.2.1
   simp only [Nat.zero_add] at k0 k1 k2 k3 k4 k5 k6
   have fz := DR.2.2.2.1.1
   have fo := DR.2.2.2.2.2.1.1
   have zo := DR.2.2.2.2.2.2.2
   by_cases hlt : k < g.s.length
   ·have IR := hs.below DR.2.2.2.2.2.2.1 (Nat.le_refl _)
    exact prf_d31000
   ·have ek : k = g.s.length := by omega
    have HA : Hid (cb = g.s.any fun x => h.s.contains x) := by show _ = _; rw [HC.out, ek, List.take_length]
    subst ek
    clear hlt
    clear HC
    obtain ⟨⟨o0, o1, o2, o3, o4, o5, o6⟩, oz⟩ := id DR.2.2.2.2.1
    simp only [Nat.zero_add] at o0 o1 o2 o3 o4 o5 o6
    simp only [noneG] at o0 o1 o2 o3 o4 o5 o6
    go_upto_region 17 with fail
    go_cut [11, 98] (fun t t' wy => DG w g ss gc h st hc ob ⟨false, ⟨true, 0, 0⟩, y, false, []⟩ wy)
    case first =>
     exact prf_762c0c
    have D6 := hcut
    clear DR g0 g1 g2 g3 g4 g5 g6 gz k0 k1 k2 k3 k4 k5 k6 kz fz fo zo o0 o1 o2 o3 o4 o5 o6 oz hcut Hy HA HM
    go_wp2_with fail
    have KS : ∀ {o : Gs} wx, DG w g ss gc h st hc ob o wx → regT w.heap.size g ss gc h st hc wx := fun wx a => ⟨by simpa using a.1.1, by simpa using a.2.1.1⟩
    generalize wc = w6 at *
    have D7 := D6.drew
    refine wp_region_held_drew (S := regT w.heap.size g ss gc h st hc) (by kernel_rfl) (KS _ D7) (fun hHeld => ?_)
    unfold regT at hHeld KS ⊢
    clear D6
    generalize w6.drew = w7 at *
    refine tH 0 ?_ ?_;refine sm ?_
    refine wpAnyH_ready (rs := [1]) (by kernel_rfl) (by simp) ?_
    refine AllReadyH.cons rfl (fun K hK => ?_) AllReadyH.nil
    go_simp
    refine (HSg.out _).mono ?_
    rintro e w8 ⟨rfl, hb8⟩
    have D8 := D7.call hb8
    refine hK.out _ _ (KS _ D8) (fun hHeld8 => ?_)
    clear hK K hb8 D7
    refine sm ?_
    refine tH 2 ?_ ?_;refine sm ?_
    have Hlt : Hid (decide (x1 < 0) = false) := decide_eq_false (by have := hS0.out; omega)
    rw [Hlt.out]
    have hne := hS1.out
    clear hS0 hS1
    ·
     refine tH 3 ?_ ?_;refine sm ?_
     refine tH 4 ?_ ?_;refine sm ?_
     refine tH 6 ?_ ?_;refine sm ?_
     refine wpAnyH_ready (rs := [5]) (by kernel_rfl) (by simp) ?_
     refine AllReadyH.cons rfl (fun K hK => ?_) AllReadyH.nil
     go_simp
     refine (HSg.out _).mono ?_
     rintro e w9 ⟨rfl, hb9⟩
     have D9 := D8.call hb9
     refine hK.out _ _ (KS _ D9) (fun hHeld9 => ?_)
     clear hK K hb9 D8
     refine sm ?_
     refine wpAnyH_ready (rs := [7]) (by kernel_rfl) (by simp) ?_
     refine AllReadyH.cons rfl (fun K hK => ?_) AllReadyH.nil
     go_simp
     refine (HSh.out _).mono ?_
     rintro e w10 ⟨rfl, hb10⟩
     have D10 := D9.call hb10
     refine hK.out _ _ (KS _ D10) (fun hHeld10 => ?_)
     clear hK K hb10 D9
     refine sm ?_
     subst hne
     refine tH 8 ?_ ?_;refine sm ?_
     refine tH 9 ?_ ?_;refine sm ?_
     refine tH 10 ?_ ?_;refine sm ?_
     refine tH 11 ?_ ?_;refine sm ?_
     refine tH 12 ?_ ?_;refine sm ?_
     refine tH 13 ?_ ?_;refine sm ?_
     refine tH 14 ?_ ?_;refine sm ?_
     have h4 : (g.sp.n == h.sp.n) = false ∨ ((g.sp.n == h.sp.n) = true ∧ (g.sp.lo == h.sp.lo) = false) ∨ ((g.sp.n == h.sp.n) = true ∧ (g.sp.lo == h.sp.lo) = true ∧ (g.sp.hi == h.sp.hi) = false) ∨ ((g.sp.n == h.sp.n) = true ∧ (g.sp.lo == h.sp.lo) = true ∧ (g.sp.hi == h.sp.hi) = true) := by
      cases (g.sp.n == h.sp.n) <;> cases (g.sp.lo == h.sp.lo) <;> cases (g.sp.hi == h.sp.hi) <;> simp
     rcases h4 with q1 | ⟨q1, q2⟩ | ⟨q1, q2, q3⟩ | ⟨q1, q2, q3⟩
     ·have Eal : Hid (al = true) := by show _ = _; rw [Hal.out, Hlt.out, @decide_eq_true (g.sp≠h.sp) (@instDecidableNot _ (g.sp.dq h.sp)) (fun e => by rw [e] at q1; simp at q1)]; simp
      exact prf_9261ef
     ·have Eal : Hid (al = true) := by show _ = _; rw [Hal.out, Hlt.out, @decide_eq_true (g.sp≠h.sp) (@instDecidableNot _ (g.sp.dq h.sp)) (fun e => by rw [e] at q2; simp at q2)]; simp
      exact prf_9261ef
     ·have Eal : Hid (al = true) := by show _ = _; rw [Hal.out, Hlt.out, @decide_eq_true (g.sp≠h.sp) (@instDecidableNot _ (g.sp.dq h.sp)) (fun e => by rw [e] at q3; simp at q3)]; simp
      exact prf_9261ef
     ·have Eal : Hid (al = false) := by show _ = _; rw [Hal.out, Hlt.out, sp_same q1 q2 q3]; simp
      refine tH 15 ?_ ?_;refine sm ?_
      refine tH 16 ?_ ?_;refine sm ?_
      refine tH 17 ?_ ?_;refine sm ?_
      obtain ⟨⟨o0, o1, o2, o3, o4, o5, o6⟩, oz⟩ := id D10.2.2.2.2.1
      simp only [Nat.zero_add] at o0 o1 o2 o3 o4 o5 o6
      have fo := D10.2.2.2.2.2.1.1
      have D9 := D10.f (y := false)
      refine wpAnyH_ready (rs := [18]) (by kernel_rfl) (by simp) ?_
      refine AllReadyH.cons rfl (fun K hK => ?_) AllReadyH.nil
      go_simp
      refine hK.out _ (w10.setCell ⟨ob, 5, none⟩ (.bool false)) (KS _ D9) (fun hHeldz => ?_)
      clear hK K o0 o1 o2 o3 o4 o5 o6 oz fo D10
      refine sm ?_
      generalize w10.setCell ⟨ob, 5, none⟩ (.bool false) = w9 at *
      refine wpAnyH_done (by kernel_rfl) ?_ _
      obtain ⟨⟨r0, r1, r2, r3, r4, r5, r6⟩, rz⟩ := id D9.2.2.1
      simp only [Nat.zero_add] at r0 r1 r2 r3 r4 r5 r6
      obtain ⟨⟨o0, o1, o2, o3, o4, o5, o6⟩, oz⟩ := id D9.2.2.2.2.1
      simp only [Nat.zero_add] at o0 o1 o2 o3 o4 o5 o6
      simp only [zeroG] at r0 r1 r2 r3 r4 r5 r6
      have fz := D9.2.2.2.1.1
      have fo := D9.2.2.2.2.2.1.1
      have zo := D9.2.2.2.2.2.2.2
      go_wp2
      refine bodyPost_ret (v := .tuple #[gv ⟨false, ⟨true, 0, 0⟩, y, false, []⟩ none 0, .bool false]) (by simp [results, Tryz.results27, go_sem, r0, r1, r2, r3, r4, r5, r6]) rfl ⟨?_, ?_⟩
      ·rw [show al = false from Eal.out]
      ·exact below_put7 D9.2.2.2.2.2.2.1 (by omega)) : p := h
theorem prf_898718 {p : Prop} (h : p := by
 generalize hnn : (nothingGs g || nothingGs h) = nn
 have Hnn := hideH hnn
 clear hnn
 have HNg := hideH (fun w => isNothing_any g ss gc w)
 have HNh := hideH (fun w => isNothing_any h st hc w)
 generalize nothingGs g = ng at *
 generalize nothingGs h = nh at *
 go_enter Tryz.func27, Tryz.ntmps27
 go_upto_region 1 with fail
 go_cut [8] (fun t wy => ∃ ob, t = .pointer (some ⟨ob, 0, none⟩) ∧ DG w g ss gc h st hc ob noneG wy)
 case first =>
  go_wp2_with (go_at_call 21; fail)
  refine (nothingR_any _).mono ?_
  rintro e w1 ⟨rfl, hb1⟩
  have D1 := doW_out hb1
  go_wp2_with fail
  go_meet
  refine ⟨w1.heap.size, rfl, ?_⟩
  exact D1
 obtain ⟨ob, rfl, D1⟩ := hcut
 obtain ⟨⟨g0, g1, g2, g3, g4, g5, g6⟩, gz⟩ := id D1.1
 simp only [Nat.zero_add] at g0 g1 g2 g3 g4 g5 g6
 obtain ⟨⟨k0, k1, k2, k3, k4, k5, k6⟩, kz⟩ := id D1.2.1
 simp only [Nat.zero_add] at k0 k1 k2 k3 k4 k5 k6
 have fz := D1.2.2.2.1.1
 have fo := D1.2.2.2.2.2.1.1
 have zo := D1.2.2.2.2.2.2.2
 go_upto_region 2 with fail
 go_cut [27] (fun t wy => t = .bool nn ∧ DG w g ss gc h st hc ob noneG wy)
 case first =>
  go_wp2_with (go_at_call 28; fail)
  refine (HNg.out _).mono ?_
  rintro e w2 ⟨rfl, hb2⟩
  have D2 := D1.call hb2
  clear g0 g1 g2 g3 g4 g5 g6 gz k0 k1 k2 k3 k4 k5 k6 kz fz fo
  cases ng with
  | true =>
   go_wp2_with fail
   go_meet
   exact ⟨by rw [← Hnn.out]; first | done | rfl | simp, D2⟩
  | false =>
   obtain ⟨⟨k0, k1, k2, k3, k4, k5, k6⟩, kz⟩ := id D2.2.1
   simp only [Nat.zero_add] at k0 k1 k2 k3 k4 k5 k6
   have fz := D2.2.2.2.1.1
   have fo := D2.2.2.2.2.2.1.1
   have zo2 := D2.2.2.2.2.2.2.2
   go_wp2_with (go_at_call 28; fail)
   refine (HNh.out _).mono ?_
   rintro e w3 ⟨rfl, hb3⟩
   have D3 := D2.call hb3
   go_wp2_with fail
   go_meet
   exact ⟨by rw [← Hnn.out]; first | done | rfl | simp, D3⟩
 obtain ⟨rfl, D2⟩ := hcut
 clear g0 g1 g2 g3 g4 g5 g6 gz k0 k1 k2 k3 k4 k5 k6 kz fz fo zo D1 HNg HNh Hnn
 cases nn with
 | true =>
  obtain ⟨⟨g0, g1, g2, g3, g4, g5, g6⟩, gz⟩ := id D2.1
  simp only [Nat.zero_add] at g0 g1 g2 g3 g4 g5 g6
  obtain ⟨⟨r0, r1, r2, r3, r4, r5, r6⟩, rz⟩ := id D2.2.2.1
  simp only [Nat.zero_add] at r0 r1 r2 r3 r4 r5 r6
  obtain ⟨⟨o0, o1, o2, o3, o4, o5, o6⟩, oz⟩ := id D2.2.2.2.2.1
  simp only [Nat.zero_add] at o0 o1 o2 o3 o4 o5 o6
  simp only [zeroG] at r0 r1 r2 r3 r4 r5 r6
  have fz := D2.2.2.2.1.1
  have fo := D2.2.2.2.2.2.1.1
  have zo := D2.2.2.2.2.2.2.2
  simp only [noneG] at o0 o1 o2 o3 o4 o5 o6
  go_wp2
  refine bodyPost_ret (v := .tuple #[gv noneG none 0, .bool false]) (by simp [results, Tryz.results27, go_sem, r0, r1, r2, r3, r4, r5, r6, noneG]) rfl ⟨?_, ?_⟩
  ·rfl
  ·exact below_put7 D2.2.2.2.2.2.2.1 (by omega)
 | false =>
  obtain ⟨⟨g0, g1, g2, g3, g4, g5, g6⟩, gz⟩ := id D2.1
  simp only [Nat.zero_add] at g0 g1 g2 g3 g4 g5 g6
  obtain ⟨⟨k0, k1, k2, k3, k4, k5, k6⟩, kz⟩ := id D2.2.1
  simp only [Nat.zero_add] at k0 k1 k2 k3 k4 k5 k6
  have fz := D2.2.2.2.1.1
  have fo := D2.2.2.2.2.2.1.1
  have zo := D2.2.2.2.2.2.2.2
  go_upto_region 25 with fail
  go_cut [159] (fun t wy => DG w g ss gc h st hc ob ⟨false, sp, false, false, []⟩ wy)
  case first =>
   go_wp2_with (go_at_call 63; fail)
   refine (HD.out _).mono ?_
   rintro e w3 ⟨rfl, hb3⟩
   have D3 := D2.call hb3
   clear hb3 D2 g0 g1 g2 g3 g4 g5 g6 gz k0 k1 k2 k3 k4 k5 k6 kz fz fo zo
   obtain ⟨⟨o0, o1, o2, o3, o4, o5, o6⟩, oz⟩ := id D3.2.2.2.2.1
   simp only [Nat.zero_add] at o0 o1 o2 o3 o4 o5 o6
   have fz := D3.2.2.2.1.1
   have fo := D3.2.2.2.2.2.1.1
   have zo := D3.2.2.2.2.2.2.2
   simp only [noneG] at o0 o1 o2 o3 o4 o5 o6
   go_wp2_with fail
   go_meet
   exact D3.sp
  have D3 := hcut
  clear D2 g0 g1 g2 g3 g4 g5 g6 gz k0 k1 k2 k3 k4 k5 k6 kz fz fo zo hcut
  generalize ho : (⟨false, sp, false, false, []⟩ : Gs) = o at D3
  have HO : Hid (Ending.returned (.tuple #[gv o none 0, .bool wr]) = Ending.returned (.tuple #[gv ⟨false, sp, false, false, []⟩ none 0, .bool wr])) := by show _ = _; rw [← ho]
  clear ho
  go_wp2_with fail
  generalize wc = w3 at *
  have KS : ∀ wx, DG w g ss gc h st hc ob o wx → regR w.heap.size ob g ss gc h st hc o wx := fun wx a => ⟨by simpa using a.1.1, by simpa using a.2.1.1, by simpa using a.2.2.2.2.1.1⟩
  have KSp : ∀ wx, DG w g ss gc h st hc ob o wx → regR w.heap.size ob g ss gc h st hc o (Go.Proofs.YtmapdpcfanecdabGreat.put7 wx (w.heap.size + 1 + 1) (.bool o.n) (.bool o.sp.n) (.int .i64 o.sp.lo) (.int .i64 o.sp.hi) (.bool o.t) (.bool o.f) (.slice none o.s.length 0)) := fun wx a => ⟨by simpa using (GuAt.put7 a.1 (by omega)).1, by simpa using (GuAt.put7 a.2.1 (by omega)).1, by simpa using (GuAt.put7 a.2.2.2.2.1 (by have := a.2.2.2.2.2.2.2; omega)).1⟩
  have D4 := D3.drew
  refine wp_region_held_drew (S := regR w.heap.size ob g ss gc h st hc o) (by kernel_rfl) (KS _ D4) (fun hHeld => ?_)
  unfold regR at hHeld KS KSp ⊢
  clear D3
  generalize w3.drew = w4 at *
  refine tH 0 ?_ ?_;refine sm ?_
  refine tH 1 ?_ ?_;refine sm ?_
  refine wpAnyH_ready (rs := [2]) (by kernel_rfl) (by simp) ?_
  refine AllReadyH.cons rfl (fun K hK => ?_) AllReadyH.nil
  go_simp
  refine (HOg.out _).mono ?_
  rintro e w5 ⟨rfl, hb5⟩
  have D5 := D4.call hb5
  refine hK.out _ _ (KS _ D5) (fun hHeld5 => ?_)
  clear hK K hb5 D4
  refine sm ?_
  cases og with
  | true =>
   have ewr : wr = true := by rw [HWr.out]; rfl
   subst ewr
   refine tH 3 ?_ ?_;refine sm ?_
   refine uH 4 ?_;refine sm ?_
   refine uH 5 ?_;refine sm ?_
   refine tH 6 ?_ ?_;refine sm ?_
   obtain ⟨⟨r0, r1, r2, r3, r4, r5, r6⟩, rz⟩ := id D5.2.2.1
   simp only [Nat.zero_add] at r0 r1 r2 r3 r4 r5 r6
   simp only [zeroG] at r0 r1 r2 r3 r4 r5 r6
   have fz := D5.2.2.2.1.1
   have zo := D5.2.2.2.2.2.2.2
   refine wpAnyH_ready (rs := [7]) (by kernel_rfl) (by simp) ?_
   refine AllReadyH.cons rfl (fun K hK => ?_) AllReadyH.nil
   go_simp
   refine hK.out _ (Go.Proofs.YtmapdpcfanecdabGreat.put7 w5 (w.heap.size + 1 + 1) (.bool o.n) (.bool o.sp.n) (.int .i64 o.sp.lo) (.int .i64 o.sp.hi) (.bool o.t) (.bool o.f) (.slice none o.s.length 0)) (KSp _ D5) (fun hHeldz => ?_)
   clear hK K
   refine sm ?_
   refine tH 8 ?_ ?_;refine sm ?_
   refine wpAnyH_done (by kernel_rfl) ?_ _
   go_wp2
   refine bodyPost_ret (v := .tuple #[gv o none 0, .bool true]) (by simp [results, Tryz.results27, go_sem, Go.Proofs.YtmapdpcfanecdabGreat.put7, r0, r1, r2, r3, r4, r5, r6]) rfl ⟨HO.out, ?_⟩
   exact below_put7 D5.2.2.2.2.2.2.1 (by omega)
  | false =>
   have ewr : wr = oh := by rw [HWr.out]; rfl
   subst ewr
   refine tH 3 ?_ ?_;refine sm ?_
   refine tH 4 ?_ ?_;refine sm ?_
   refine wpAnyH_ready (rs := [5]) (by kernel_rfl) (by simp) ?_
   refine AllReadyH.cons rfl (fun K hK => ?_) AllReadyH.nil
   go_simp
   refine (HOh.out _).mono ?_
   rintro e w6 ⟨rfl, hb6⟩
   have D6 := D5.call hb6
   refine hK.out _ _ (KS _ D6) (fun hHeld6 => ?_)
   clear hK K hb6 D5
   refine sm ?_
   refine tH 6 ?_ ?_;refine sm ?_
   obtain ⟨⟨r0, r1, r2, r3, r4, r5, r6⟩, rz⟩ := id D6.2.2.1
   simp only [Nat.zero_add] at r0 r1 r2 r3 r4 r5 r6
   simp only [zeroG] at r0 r1 r2 r3 r4 r5 r6
   have fz := D6.2.2.2.1.1
   have zo := D6.2.2.2.2.2.2.2
   refine wpAnyH_ready (rs := [7]) (by kernel_rfl) (by simp) ?_
   refine AllReadyH.cons rfl (fun K hK => ?_) AllReadyH.nil
   go_simp
   refine hK.out _ (Go.Proofs.YtmapdpcfanecdabGreat.put7 w6 (w.heap.size + 1 + 1) (.bool o.n) (.bool o.sp.n) (.int .i64 o.sp.lo) (.int .i64 o.sp.hi) (.bool o.t) (.bool o.f) (.slice none o.s.length 0)) (KSp _ D6) (fun hHeldz => ?_)
   clear hK K
   refine sm ?_
   refine tH 8 ?_ ?_;refine sm ?_
   refine wpAnyH_done (by kernel_rfl) ?_ _
   go_wp2
   refine bodyPost_ret (v := .tuple #[gv o none 0, .bool wr]) (by simp [results, Tryz.results27, go_sem, Go.Proofs.YtmapdpcfanecdabGreat.put7, r0, r1, r2, r3, r4, r5, r6]) rfl ⟨HO.out, ?_⟩
   exact below_put7 D6.2.2.2.2.2.2.1 (by omega)) : p := h
end
section
set_option maxHeartbeats 4000000
set_option maxRecDepth 10000
open Go.RowKit

theorem doR_10 (w : World) (g : Gs) (ss : Option Addr) (gc : Nat) (h : Gs) (st : Option Addr) (hc : Nat) :
  Calls Tryz.prog 27 #[.int .i64 10, gv g ss gc, gv h st hc] w fun e w' => e = .returned (if nothingGs g = true then .tuple #[gv noneG none 0, .bool false] else .tuple #[gv ⟨false, ⟨true, 0, 0⟩, noGs g, yesGs g, []⟩ none 0, .bool false]) ∧ Below w.heap.size w w' := by
 have HT := hideH (fun w => truthOf_any g ss gc w)
 generalize yesGs g = yy at *
 generalize noGs g = no at *
 generalize hnn : nothingGs g = nn
 have Hnn := hideH hnn
 clear hnn
 have HNg := hideH (fun w => isNothing_any g ss gc w)
 have HNh := hideH (fun w => isNothing_any h st hc w)
 generalize nothingGs g = ng at *
 generalize nothingGs h = nh at *
 go_enter Tryz.func27, Tryz.ntmps27
 go_upto_region 1 with fail
 go_cut [8] (fun t wy => ∃ ob, t = .pointer (some ⟨ob, 0, none⟩) ∧ DG w g ss gc h st hc ob noneG wy)
 case first =>
  go_wp2_with (go_at_call 21; fail)
  refine (nothingR_any _).mono ?_
  rintro e w1 ⟨rfl, hb1⟩
  have D1 := doW_out hb1
  go_wp2_with fail
  go_meet
  refine ⟨w1.heap.size, rfl, ?_⟩
  exact D1
 obtain ⟨ob, rfl, D1⟩ := hcut
 obtain ⟨⟨g0, g1, g2, g3, g4, g5, g6⟩, gz⟩ := id D1.1
 simp only [Nat.zero_add] at g0 g1 g2 g3 g4 g5 g6
 obtain ⟨⟨k0, k1, k2, k3, k4, k5, k6⟩, kz⟩ := id D1.2.1
 simp only [Nat.zero_add] at k0 k1 k2 k3 k4 k5 k6
 have fz := D1.2.2.2.1.1
 have fo := D1.2.2.2.2.2.1.1
 have zo := D1.2.2.2.2.2.2.2
 go_upto_region 2 with fail
 go_cut [27] (fun t wy => t = .bool nn ∧ DG w g ss gc h st hc ob noneG wy)
 case first =>
  go_wp2_with (go_at_call 28; fail)
  refine (HNg.out _).mono ?_
  rintro e w2 ⟨rfl, hb2⟩
  have D2 := D1.call hb2
  clear g0 g1 g2 g3 g4 g5 g6 gz k0 k1 k2 k3 k4 k5 k6 kz fz fo
  cases ng with
  | true =>
   go_wp2_with fail
   go_meet
   exact ⟨by rw [← Hnn.out]; first | done | rfl | simp, D2⟩
  | false =>
   go_wp2_with fail
   go_meet
   exact ⟨by rw [← Hnn.out]; first | done | rfl | simp, D2⟩
 obtain ⟨rfl, D2⟩ := hcut
 clear g0 g1 g2 g3 g4 g5 g6 gz k0 k1 k2 k3 k4 k5 k6 kz fz fo zo D1 HNg HNh Hnn
 cases nn with
 | true =>
  obtain ⟨⟨g0, g1, g2, g3, g4, g5, g6⟩, gz⟩ := id D2.1
  simp only [Nat.zero_add] at g0 g1 g2 g3 g4 g5 g6
  obtain ⟨⟨r0, r1, r2, r3, r4, r5, r6⟩, rz⟩ := id D2.2.2.1
  simp only [Nat.zero_add] at r0 r1 r2 r3 r4 r5 r6
  obtain ⟨⟨o0, o1, o2, o3, o4, o5, o6⟩, oz⟩ := id D2.2.2.2.2.1
  simp only [Nat.zero_add] at o0 o1 o2 o3 o4 o5 o6
  simp only [zeroG] at r0 r1 r2 r3 r4 r5 r6
  have fz := D2.2.2.2.1.1
  have fo := D2.2.2.2.2.2.1.1
  have zo := D2.2.2.2.2.2.2.2
  simp only [noneG] at o0 o1 o2 o3 o4 o5 o6
  go_wp2
  refine bodyPost_ret (v := .tuple #[gv noneG none 0, .bool false]) (by simp [results, Tryz.results27, go_sem, r0, r1, r2, r3, r4, r5, r6, noneG]) rfl ⟨?_, ?_⟩
  ·rfl
  ·exact below_put7 D2.2.2.2.2.2.2.1 (by omega)
 | false =>
  obtain ⟨⟨g0, g1, g2, g3, g4, g5, g6⟩, gz⟩ := id D2.1
  simp only [Nat.zero_add] at g0 g1 g2 g3 g4 g5 g6
  have fz := D2.2.2.2.1.1
  have fo := D2.2.2.2.2.2.1.1
  have zo := D2.2.2.2.2.2.2.2
  go_wp2_with (go_at_call 24; fail)
  refine (HT.out _).mono ?_
  rintro e w3 ⟨rfl, hb3⟩
  have D3 := D2.call hb3
  clear hb3 D2 g0 g1 g2 g3 g4 g5 g6 gz fz fo zo
  obtain ⟨⟨r0, r1, r2, r3, r4, r5, r6⟩, rz⟩ := id D3.2.2.1
  simp only [Nat.zero_add] at r0 r1 r2 r3 r4 r5 r6
  obtain ⟨⟨o0, o1, o2, o3, o4, o5, o6⟩, oz⟩ := id D3.2.2.2.2.1
  simp only [Nat.zero_add] at o0 o1 o2 o3 o4 o5 o6
  simp only [zeroG] at r0 r1 r2 r3 r4 r5 r6
  have fz := D3.2.2.2.1.1
  have fo := D3.2.2.2.2.2.1.1
  have zo := D3.2.2.2.2.2.2.2
  simp only [noneG] at o0 o1 o2 o3 o4 o5 o6
  have hne : ob ≠ w.heap.size + 1 + 1 := by omega
  go_wp2
  refine bodyPost_ret (v := .tuple #[gv ⟨false, ⟨true, 0, 0⟩, no, yy, []⟩ none 0, .bool false]) (by simp [results, Tryz.results27, go_sem, r0, r1, r2, r3, r4, r5, r6]) rfl ⟨?_, ?_⟩
  ·rfl
  ·exact below_put7 ((D3.2.2.2.2.2.2.1.setCell (by simp; omega) _).setCell (by simp; omega) _) (by omega)
end
end Go.Proofs.YtmapdpcfanecdabGreat
