/- append onto a row of the call's own, of whatever slice: nil too. -/
import Derived.Test.YtmapdpcfanecdabGreatKstpxp14
import Derived.Test.YtmapdpcfanecdabGreatKstpxp15
import Derived.Test.YtmapdpcfanecdabGreatKstpxp18
import Derived.Test.YtmapdpcfanecdabGreatKstpxp19
import Derived.Test.YtmapdpcfanecdabGreatKstpxp08
import Derived.Deep.DeepCutAuto
import Derived.Test.YtmapdpcfanecdabGreatKstpxp04
import Derived.Test.YtmapdpcfanecdabGreatKstpxp16
import Derived.Test.YtmapdpcfanecdabGreatKstpxp07
import Derived.Deep.AppendLies
import Derived.Laws.OwnMore
set_option linter.unusedSimpArgs false
set_option linter.unusedVariables false
namespace Go.Proofs.YtmapdpcfanecdabGreat
section
open Go.RowKit

/-- Two guesses put together. -/
def togGs (op : Sp → Sp → Sp) (g h : Gs) : Gs := ⟨g.n || h.n, op g.sp h.sp, g.t || h.t, g.f || h.f, sitesOf [g, h]⟩

theorem ckAllG_two {V F : Int} {c : List Ins} {g h : Gs} (hk : ckAllG V F c [g, h] = 0) : ckProg V F c = 0 ∧ ckGs c g = 0 ∧ ckGs c h = 0 := by
 unfold ckAllG at hk
 split at hk
 ·rename_i hp
  simp only [ckGss] at hk
  split at hk
  ·rename_i hg
   split at hk
   ·rename_i hh
    exact ⟨hp, hg, hh⟩
   ·contradiction
  ·contradiction
 ·contradiction

theorem ckAllG_sites {V F : Int} {c : List Ins} {g h : Gs} (hk : ckAllG V F c [g, h] = 0) : ((∀ x ∈ g.s, 0 ≤ x ∧ x < 60) ∧ rising g.s = true) ∧ ((∀ x ∈ h.s, 0 ≤ x ∧ x < 60) ∧ rising h.s = true) := by
 obtain ⟨a, b, d⟩ := ckAllG_two hk
 have hl : c.length ≤ 60 := by
  unfold ckProg at a
  split at a
  ·contradiction
  ·split at a
   ·contradiction
   ·omega
 exact ⟨ckGs_sites hl b, ckGs_sites hl d⟩
end
section
set_option maxHeartbeats 4000000
set_option maxRecDepth 10000
open Go.RowKit
attribute [local go_sem ↓] Go.wp_at_zero Go.wp_at_succ

/-- What a stepper may rely on: program and picture are right, and it stands at an instruction. -/
structure SCtx (V F : Int) (c : List Ins) (x : Pic) (vc fc : Nat) (i : Ins) (at_ : Int) : Prop where
 h0 : ckProg V F c = 0
 kx : PicOk V F c x
 hi : i = insAt c at_
 a0 : 0 ≤ at_
 a1 : at_ < c.length
 cv : x.vars.length ≤ vc ∧ vc ≤ maxLen
 cf : x.flds.length ≤ fc ∧ fc ≤ maxLen
section
variable {V F : Int} {c : List Ins} {x : Pic} {vc fc : Nat} {i : Ins} {at_ : Int}
theorem SCtx.one (K : SCtx V F c x vc fc i at_) : ckOne V F c.length i = 0 := by rw [K.hi]; exact (progOk_of K.h0).each _ (insAt_mem K.a0 K.a1)
theorem SCtx.lens (K : SCtx V F c x vc fc i at_) : x.vars.length ≤ 8 ∧ c.length ≤ 60 ∧ x.flds.length = c.length ∧ 0 ≤ F ∧ F ≤ 3 ∧ 0 ≤ V := by
 have hp := progOk_of K.h0
 have := hp.v1
 have := hp.v8
 have := hp.f0
 have := hp.f3
 have := hp.len
 have := K.kx.vars
 have := K.kx.flds
 omega
theorem gAt_get {x : Pic} {k : Nat} (h : k < x.vars.length) : gAt x (k : Int) = x.vars[k] := by unfold gAt; simp [List.getD, List.getElem?_eq_getElem h]
theorem SCtx.varA (K : SCtx V F c x vc fc i at_) (hA : nA i.k = true) : ∃ k : Nat, i.a = k ∧ k < x.vars.length := by
 have := (ckOne_parts K.one).2.2.1 hA
 have hv := K.kx.vars
 obtain ⟨k, hk⟩ := Int.eq_ofNat_of_zero_le this.1
 exact ⟨k, hk, by omega⟩
theorem SCtx.varB (K : SCtx V F c x vc fc i at_) (hB : nB i.k = true) : ∃ k : Nat, i.b = k ∧ k < x.vars.length := by
 have := (ckOne_parts K.one).2.2.2.1 hB
 have hv := K.kx.vars
 obtain ⟨k, hk⟩ := Int.eq_ofNat_of_zero_le this.1
 exact ⟨k, hk, by omega⟩
theorem SCtx.varTo (K : SCtx V F c x vc fc i at_) (hT : nTo i.k = true) : ∃ k : Nat, i.to = k ∧ k < x.vars.length := by
 have := (ckOne_parts K.one).2.1 hT
 have hv := K.kx.vars
 obtain ⟨k, hk⟩ := Int.eq_ofNat_of_zero_le this.1
 exact ⟨k, hk, by omega⟩
theorem SCtx.uno (K : SCtx V F c x vc fc i at_) {g : Gs} (hg : ckGs c g = 0) : ckAllG V F c [g] = 0 := by unfold ckAllG; rw [if_pos K.h0]; unfold ckGss; rw [if_pos hg]; rfl
theorem SCtx.duo (K : SCtx V F c x vc fc i at_) {g h : Gs} (hg : ckGs c g = 0) (hh : ckGs c h = 0) : ckAllG V F c [g, h] = 0 := by unfold ckAllG; rw [if_pos K.h0]; unfold ckGss; rw [if_pos hg]; unfold ckGss; rw [if_pos hh]; rfl
end
theorem truthS_any (sb : Nat) (i : Ins) (V F : Int) (s : Option Addr) (c : List Ins) (cap : Nat) (at_ : Int) (x : Pic) (vs : Option Addr) (vc : Nat) (fs : Option Addr) (fc : Nat) (ev : Value) (wr fl : Bool) (w : World) (hS : Cells w sb (stpC i V F s c cap at_ x vs vc fs fc ev wr fl)) (hc : CodeAt w s c) (hx : PicAt w x vs fs) (K : SCtx V F c x vc fc i at_) (hA : nA i.k = true) :
  Calls Tryz.prog 51 #[.pointer (some ⟨sb, 0, none⟩)] w fun e w' => e = .returned (.tuple #[.bool (yesGs (gAt x i.a)), .bool (noGs (gAt x i.a))]) ∧ Below w.heap.size w w' := by
 obtain ⟨k, ek, hk⟩ := K.varA hA
 have eg : gAt x i.a = x.vars[k] := by rw [ek, gAt_get hk]
 rw [eg]
 have hgk := K.kx.gv _ (List.getElem_mem hk)
 obtain ⟨b1, o1, e1, ss1, g1, G1, I1, k1, m1⟩ := hx.1 k hk
 subst e1
 have n0 : (0 : Int) ≤ (k : Int) := by omega
 have n1 : (k : Int) < (x.vars.length : Int) := by omega
 have HT : Hid (∀ wx, Below w.heap.size w wx → Calls Tryz.prog 88 #[pv V F s c cap, gv x.vars[k] ss1 g1] wx fun e w' => e = .returned (.tuple #[.bool (yesGs x.vars[k]), .bool (noGs x.vars[k]), .int .i64 0]) ∧ Below wx.heap.size wx w') := fun wx hb => truthF_ok V F s c cap x.vars[k] ss1 g1 wx (hc.call hb) (I1.call hb) k1 m1 (K.uno hgk)
 have HKZ : Hid (∀ wx, Below w.heap.size w wx → (wx.cell? ⟨sb, 6, none⟩ = some (.int .i64 V) ∧ wx.cell? ⟨sb, 7, none⟩ = some (.int .i64 F) ∧ wx.cell? ⟨sb, 8, none⟩ = some (.slice s c.length cap)) ∧ (wx.cell? ⟨sb, 2, none⟩ = some (.int .i64 (k : Int)) ∧ wx.cell? ⟨sb, 11, none⟩ = some (.slice (some ⟨b1, o1, none⟩) x.vars.length vc)) ∧ (wx.cell? ⟨b1, o1 + k * 7, none⟩ = some (.bool x.vars[k].n) ∧ wx.cell? ⟨b1, o1 + k * 7 + 1, none⟩ = some (.bool x.vars[k].sp.n) ∧ wx.cell? ⟨b1, o1 + k * 7 + 2, none⟩ = some (.int .i64 x.vars[k].sp.lo) ∧ wx.cell? ⟨b1, o1 + k * 7 + 3, none⟩ = some (.int .i64 x.vars[k].sp.hi) ∧ wx.cell? ⟨b1, o1 + k * 7 + 4, none⟩ = some (.bool x.vars[k].t) ∧ wx.cell? ⟨b1, o1 + k * 7 + 5, none⟩ = some (.bool x.vars[k].f) ∧ wx.cell? ⟨b1, o1 + k * 7 + 6, none⟩ = some (.slice ss1 x.vars[k].s.length g1))) := fun wx hb => ⟨⟨(hS.call hb).1 6 _ rfl, (hS.call hb).1 7 _ rfl, (hS.call hb).1 8 _ rfl⟩, ⟨by rw [← ek]; exact (hS.call hb).1 2 _ rfl, (hS.call hb).1 11 _ rfl⟩, (G1.call hb).1⟩
 clear hS hc hx eg ek hA
 go_enter Tryz.func51, Tryz.ntmps51
 go_upto_region 1 with fail
 have B1 : Below w.heap.size w w.drew := (Below.refl _ _).drew
 refine wp_region_held_drew (S := (fun wx => (wx.cell? ⟨sb, 6, none⟩ = some (.int .i64 V) ∧ wx.cell? ⟨sb, 7, none⟩ = some (.int .i64 F) ∧ wx.cell? ⟨sb, 8, none⟩ = some (.slice s c.length cap)) ∧ (wx.cell? ⟨sb, 2, none⟩ = some (.int .i64 (k : Int)) ∧ wx.cell? ⟨sb, 11, none⟩ = some (.slice (some ⟨b1, o1, none⟩) x.vars.length vc)) ∧ (wx.cell? ⟨b1, o1 + k * 7, none⟩ = some (.bool x.vars[k].n) ∧ wx.cell? ⟨b1, o1 + k * 7 + 1, none⟩ = some (.bool x.vars[k].sp.n) ∧ wx.cell? ⟨b1, o1 + k * 7 + 2, none⟩ = some (.int .i64 x.vars[k].sp.lo) ∧ wx.cell? ⟨b1, o1 + k * 7 + 3, none⟩ = some (.int .i64 x.vars[k].sp.hi) ∧ wx.cell? ⟨b1, o1 + k * 7 + 4, none⟩ = some (.bool x.vars[k].t) ∧ wx.cell? ⟨b1, o1 + k * 7 + 5, none⟩ = some (.bool x.vars[k].f) ∧ wx.cell? ⟨b1, o1 + k * 7 + 6, none⟩ = some (.slice ss1 x.vars[k].s.length g1)))) (by kernel_rfl) (HKZ.out _ B1) (fun hHeld => ?_)
 generalize w.drew = w1 at *
 refine tH 0 ?_ ?_;refine sm ?_
 refine tH 1 ?_ ?_;refine sm ?_
 refine tH 2 ?_ ?_;refine sm ?_
 refine tH 3 ?_ ?_;refine sm ?_
 refine tH 4 ?_ ?_;refine sm ?_
 refine tH 5 ?_ ?_;refine sm ?_
 refine tH 6 ?_ ?_;refine sm ?_
 refine tH 7 ?_ ?_;refine sm ?_
 refine tH 8 ?_ ?_;refine sm ?_
 refine tH 9 ?_ ?_;refine sm ?_
 refine tH 10 ?_ ?_;refine sm ?_
 refine tH 11 ?_ ?_;refine sm ?_
 refine tH 12 ?_ ?_;refine sm ?_
 refine tH 13 ?_ ?_;refine sm ?_
 refine tH 14 ?_ ?_;refine sm ?_
 refine tH 15 ?_ ?_;refine sm ?_
 refine wpAnyH_ready (rs := [16]) (by kernel_rfl) (by simp) ?_
 refine AllReadyH.cons rfl (fun K hK => ?_) AllReadyH.nil
 go_simp
 refine (HT.out w1 B1).mono ?_
 rintro e w2 ⟨rfl, hb2⟩
 have B2 := B1.trans (hb2.mono (B1.size))
 refine hK.out _ _ (HKZ.out _ B2) (fun hHeld2 => ?_)
 clear hK K hb2  B1
 refine sm ?_
 refine tH 17 ?_ ?_;refine sm ?_
 refine tH 18 ?_ ?_;refine sm ?_
 refine tH 19 ?_ ?_;refine sm ?_
 refine tH 20 ?_ ?_;refine sm ?_
 refine tH 21 ?_ ?_;refine sm ?_
 refine tH 22 ?_ ?_;refine sm ?_
 refine tH 23 ?_ ?_;refine sm ?_
 refine wpAnyH_done (by kernel_rfl) ?_ _
 go_wp2
 refine bodyPost_ret (v := .tuple #[.bool (yesGs x.vars[k]), .bool (noGs x.vars[k])]) (by simp [results, Tryz.results51, go_sem]) rfl ⟨rfl, B2⟩
/-- A block is changed, and new ones are made. -/
def ModS (sb : Nat) (w w' : World) : Prop := Below sb w w' ∧ ∀ b, b < w.heap.size → b ≠ sb → w'.heap[b]? = w.heap[b]?
theorem ModS.of {sb : Nat} {w w' : World} (h : Below w.heap.size w w') (hs : sb < w.heap.size) : ModS sb w w' := ⟨h.mono (Nat.le_of_lt hs), fun b hb _ => h.block b hb⟩
theorem ModS.trans {sb : Nat} {w w1 w2 : World} (h : ModS sb w w1) (h' : ModS sb w1 w2) : ModS sb w w2 := ⟨h.1.trans h'.1, fun b hb hne => by rw [h'.2 b (Nat.lt_of_lt_of_le hb h.1.size) hne, h.2 b hb hne]⟩
theorem ModS.put {sb : Nat} {w w1 : World} (h : ModS sb w w1) (j : Nat) (u : Value) : ModS sb w (w1.setCell ⟨sb, j, none⟩ u) := ⟨h.1.setCell (Nat.le_refl _) _, fun b hb hne => by rw [Below.heap_setCell _ _ _ _ hne]; exact h.2 b hb hne⟩
theorem things_any (sb : Nat) (i : Ins) (V F : Int) (s : Option Addr) (c : List Ins) (cap : Nat) (at_ : Int) (x : Pic) (vs : Option Addr) (vc : Nat) (fs : Option Addr) (fc : Nat) (ev : Value) (wr fl : Bool) (w0 w : World) (hS : Cells w sb (stpC i V F s c cap at_ x vs vc fs fc ev wr fl)) (hc0 : CodeAt w0 s c) (hx0 : PicAt w0 x vs fs) (hz0 : w0.heap.size ≤ sb) (hB0 : Below w0.heap.size w0 w) (K : SCtx V F c x vc fc i at_) (hA : nA i.k = true) :
  Calls Tryz.prog 80 #[.pointer (some ⟨sb, 0, none⟩)] w fun e w' => (∃ ss gc, e = .returned (.slice ss (gAt x i.a).s.length gc) ∧ IntsAt w0 ss (gAt x i.a).s ∧ (gAt x i.a).s.length ≤ gc ∧ gc ≤ maxLen) ∧ Cells w' sb (stpC i V F s c cap at_ x vs vc fs fc ev (noThing (gAt x i.a)) fl) ∧ ModS sb w w' := by
 have hx := hx0
 obtain ⟨k, ek, hk⟩ := K.varA hA
 have eg : gAt x i.a = x.vars[k] := by rw [ek, gAt_get hk]
 rw [eg]
 have hgk := K.kx.gv _ (List.getElem_mem hk)
 obtain ⟨b1, o1, e1, ss1, g1, G1, I1, k1, m1⟩ := hx.1 k hk
 subst e1
 have n0 : (0 : Int) ≤ (k : Int) := by omega
 have n1 : (k : Int) < (x.vars.length : Int) := by omega
 have I0 := I1
 have HKZ : Hid (∀ wx, Below w.heap.size w wx → (wx.cell? ⟨sb, 2, none⟩ = some (.int .i64 (k : Int)) ∧ wx.cell? ⟨sb, 11, none⟩ = some (.slice (some ⟨b1, o1, none⟩) x.vars.length vc)) ∧ (wx.cell? ⟨b1, o1 + k * 7, none⟩ = some (.bool x.vars[k].n) ∧ wx.cell? ⟨b1, o1 + k * 7 + 1, none⟩ = some (.bool x.vars[k].sp.n) ∧ wx.cell? ⟨b1, o1 + k * 7 + 2, none⟩ = some (.int .i64 x.vars[k].sp.lo) ∧ wx.cell? ⟨b1, o1 + k * 7 + 3, none⟩ = some (.int .i64 x.vars[k].sp.hi) ∧ wx.cell? ⟨b1, o1 + k * 7 + 4, none⟩ = some (.bool x.vars[k].t) ∧ wx.cell? ⟨b1, o1 + k * 7 + 5, none⟩ = some (.bool x.vars[k].f) ∧ wx.cell? ⟨b1, o1 + k * 7 + 6, none⟩ = some (.slice ss1 x.vars[k].s.length g1))) := fun wx hb => ⟨⟨by rw [← ek]; exact (hS.call hb).1 2 _ rfl, (hS.call hb).1 11 _ rfl⟩, ((G1.call hB0).call hb).1⟩
 have HSS := hideH hS
 clear hS hc0 hx hx0 eg ek hA hgk G1
 go_enter Tryz.func80, Tryz.ntmps80
 go_upto_region 1 with fail
 go_cut [3] (fun t3 wc => ∃ ab, t3 = .pointer (some ⟨ab, 0, none⟩) ∧ w.heap.size ≤ ab ∧ Cells wc ab [.bool x.vars[k].n, .bool x.vars[k].sp.n, .int .i64 x.vars[k].sp.lo, .int .i64 x.vars[k].sp.hi, .bool x.vars[k].t, .bool x.vars[k].f, .slice ss1 x.vars[k].s.length g1] ∧ Below w.heap.size w wc)
 case first =>
  rename_i J1 K1 hJ1 hK1
  have B1 : Below w.heap.size w w.drew := (Below.refl _ _).drew
  refine wp_region_held_drew (S := (fun wx => (wx.cell? ⟨sb, 2, none⟩ = some (.int .i64 (k : Int)) ∧ wx.cell? ⟨sb, 11, none⟩ = some (.slice (some ⟨b1, o1, none⟩) x.vars.length vc)) ∧ (wx.cell? ⟨b1, o1 + k * 7, none⟩ = some (.bool x.vars[k].n) ∧ wx.cell? ⟨b1, o1 + k * 7 + 1, none⟩ = some (.bool x.vars[k].sp.n) ∧ wx.cell? ⟨b1, o1 + k * 7 + 2, none⟩ = some (.int .i64 x.vars[k].sp.lo) ∧ wx.cell? ⟨b1, o1 + k * 7 + 3, none⟩ = some (.int .i64 x.vars[k].sp.hi) ∧ wx.cell? ⟨b1, o1 + k * 7 + 4, none⟩ = some (.bool x.vars[k].t) ∧ wx.cell? ⟨b1, o1 + k * 7 + 5, none⟩ = some (.bool x.vars[k].f) ∧ wx.cell? ⟨b1, o1 + k * 7 + 6, none⟩ = some (.slice ss1 x.vars[k].s.length g1)))) (by kernel_rfl) (HKZ.out _ B1) (fun hHeld => ?_)
  generalize w.drew = w1 at *
  refine tH 0 ?_ ?_;refine sm ?_
  refine tH 1 ?_ ?_;refine sm ?_
  refine tH 2 ?_ ?_;refine sm ?_
  refine tH 3 ?_ ?_;refine sm ?_
  refine tH 4 ?_ ?_;refine sm ?_
  refine tH 5 ?_ ?_;refine sm ?_
  refine tH 6 ?_ ?_;refine sm ?_
  refine tH 7 ?_ ?_;refine sm ?_
  refine tH 8 ?_ ?_;refine sm ?_
  refine tH 9 ?_ ?_;refine sm ?_
  refine tH 10 ?_ ?_;refine sm ?_
  refine tH 11 ?_ ?_;refine sm ?_
  refine wpAnyH_ready (rs := [12]) (by kernel_rfl) (by simp) ?_
  refine AllReadyH.cons rfl (fun K hK => ?_) AllReadyH.nil
  go_simp
  have hb2 : Below w1.heap.size w1 (w1.alloc (.cells #[.bool false, .bool false, .int .i64 0, .int .i64 0, .bool false, .bool false, .slice none 0 0] 61)) := by go_grown
  have B2 := B1.trans (hb2.mono (B1.size))
  have A2 : Cells (w1.alloc (.cells #[.bool false, .bool false, .int .i64 0, .int .i64 0, .bool false, .bool false, .slice none 0 0] 61)) w1.heap.size [.bool false, .bool false, .int .i64 0, .int .i64 0, .bool false, .bool false, .slice none 0 0] := Cells.new w1 61 [.bool false, .bool false, .int .i64 0, .int .i64 0, .bool false, .bool false, .slice none 0 0]
  have zab := B1.size
  clear B1
  refine hK.out _ _ (HKZ.out _ B2) (fun hHeld2 => ?_)
  clear hK K hb2 
  refine sm ?_
  generalize w1.alloc (.cells #[.bool false, .bool false, .int .i64 0, .int .i64 0, .bool false, .bool false, .slice none 0 0] 61) = w2 at *
  generalize w1.heap.size = ab at *
  refine wpAnyH_ready (rs := [13]) (by kernel_rfl) (by simp) ?_
  refine AllReadyH.cons rfl (fun K hK => ?_) AllReadyH.nil
  have r0 := A2.1 0 _ rfl
  have r1 := A2.1 1 _ rfl
  have r2 := A2.1 2 _ rfl
  have r3 := A2.1 3 _ rfl
  have r4 := A2.1 4 _ rfl
  have r5 := A2.1 5 _ rfl
  have r6 := A2.1 6 _ rfl
  have f0 := A2.2.2 0
  have f1 := A2.2.2 1
  have f2 := A2.2.2 2
  have f3 := A2.2.2 3
  have f4 := A2.2.2 4
  have f5 := A2.2.2 5
  have f6 := A2.2.2 6
  go_simp
  have A3 : Cells (((((((w2.setCell ⟨ab, 0, none⟩ (.bool x.vars[k].n)).setCell ⟨ab, 1, none⟩ (.bool x.vars[k].sp.n)).setCell ⟨ab, 2, none⟩ (.int .i64 x.vars[k].sp.lo)).setCell ⟨ab, 3, none⟩ (.int .i64 x.vars[k].sp.hi)).setCell ⟨ab, 4, none⟩ (.bool x.vars[k].t)).setCell ⟨ab, 5, none⟩ (.bool x.vars[k].f)).setCell ⟨ab, 6, none⟩ (.slice ss1 x.vars[k].s.length g1)) ab [.bool x.vars[k].n, .bool x.vars[k].sp.n, .int .i64 x.vars[k].sp.lo, .int .i64 x.vars[k].sp.hi, .bool x.vars[k].t, .bool x.vars[k].f, .slice ss1 x.vars[k].s.length g1] := (((((((A2.put 0 (by simp) _).put 1 (by simp) _).put 2 (by simp) _).put 3 (by simp) _).put 4 (by simp) _).put 5 (by simp) _).put 6 (by simp) _)
  have B3 : Below w.heap.size w (((((((w2.setCell ⟨ab, 0, none⟩ (.bool x.vars[k].n)).setCell ⟨ab, 1, none⟩ (.bool x.vars[k].sp.n)).setCell ⟨ab, 2, none⟩ (.int .i64 x.vars[k].sp.lo)).setCell ⟨ab, 3, none⟩ (.int .i64 x.vars[k].sp.hi)).setCell ⟨ab, 4, none⟩ (.bool x.vars[k].t)).setCell ⟨ab, 5, none⟩ (.bool x.vars[k].f)).setCell ⟨ab, 6, none⟩ (.slice ss1 x.vars[k].s.length g1)) := (((((((B2.setCell (by simp only; omega) _).setCell (by simp only; omega) _).setCell (by simp only; omega) _).setCell (by simp only; omega) _).setCell (by simp only; omega) _).setCell (by simp only; omega) _).setCell (by simp only; omega) _)
  refine hK.out _ _ (HKZ.out _ B3) (fun hHeld3 => ?_)
  clear hK K r0 f0 r1 f1 r2 f2 r3 f3 r4 f4 r5 f5 r6 f6 A2 B2
  refine sm ?_
  generalize (((((((w2.setCell ⟨ab, 0, none⟩ (.bool x.vars[k].n)).setCell ⟨ab, 1, none⟩ (.bool x.vars[k].sp.n)).setCell ⟨ab, 2, none⟩ (.int .i64 x.vars[k].sp.lo)).setCell ⟨ab, 3, none⟩ (.int .i64 x.vars[k].sp.hi)).setCell ⟨ab, 4, none⟩ (.bool x.vars[k].t)).setCell ⟨ab, 5, none⟩ (.bool x.vars[k].f)).setCell ⟨ab, 6, none⟩ (.slice ss1 x.vars[k].s.length g1)) = w3 at *
  refine wpAnyH_done (by kernel_rfl) ?_ _
  first | refine hK1 _ _ (Met.intro (hJ1 _ _ ?_)) | refine Met.intro (hJ1 _ _ ?_) | refine hJ1 _ _ ?_
  (repeat apply Exists.intro)
  refine ⟨?_, rfl⟩
  exact ⟨ab, rfl, zab, A3, B3⟩
 obtain ⟨ab, rfl, zab, A1, B1⟩ := hcut
 have S1 := HSS.out.call B1
 have M1 := ModS.of B1 HSS.out.2.1
 have zsb := HSS.out.2.1
 have a0 := A1.1 0 _ rfl
 have a1 := A1.1 1 _ rfl
 have a4 := A1.1 4 _ rfl
 have a5 := A1.1 5 _ rfl
 have a6 := A1.1 6 _ rfl
 have s14 := S1.1 14 _ rfl
 have f14 := S1.2.2 14
 cases hn : x.vars[k].n with
 | true =>
  rw [hn] at a0
  go_wp2
  go_ret
  exact ⟨⟨ss1, g1, rfl, I0, k1, m1⟩, by rw [show noThing x.vars[k] = true by simp [noThing, hn]]; exact S1.put 14 (by simp [stpC]) _, M1.put 14 _⟩
 | false =>
  rw [hn] at a0
  cases hp : x.vars[k].sp.n with
  | false =>
   rw [hp] at a1
   go_wp2
   go_ret
   exact ⟨⟨ss1, g1, rfl, I0, k1, m1⟩, by rw [show noThing x.vars[k] = true by simp [noThing, hn, hp]]; exact S1.put 14 (by simp [stpC]) _, M1.put 14 _⟩
  | true =>
   rw [hp] at a1
   cases ht : x.vars[k].t with
   | true =>
    rw [ht] at a4
    go_wp2
    go_ret
    exact ⟨⟨ss1, g1, rfl, I0, k1, m1⟩, by rw [show noThing x.vars[k] = true by simp [noThing, hn, hp, ht]]; exact S1.put 14 (by simp [stpC]) _, M1.put 14 _⟩
   | false =>
    rw [ht] at a4
    cases hf : x.vars[k].f with
    | true =>
     rw [hf] at a5
     go_wp2
     go_ret
     exact ⟨⟨ss1, g1, rfl, I0, k1, m1⟩, by rw [show noThing x.vars[k] = true by simp [noThing, hn, hp, ht, hf]]; exact S1.put 14 (by simp [stpC]) _, M1.put 14 _⟩
    | false =>
     rw [hf] at a5
     go_wp2
     go_ret
     exact ⟨⟨ss1, g1, rfl, I0, k1, m1⟩, by rw [show noThing x.vars[k] = false by simp [noThing, hn, hp, ht, hf]]; exact S1.put 14 (by simp [stpC]) _, M1.put 14 _⟩
end
section
set_option maxHeartbeats 4000000
set_option maxRecDepth 10000
open Go.RowKit
attribute [local go_sem ↓] Go.wp_at_zero Go.wp_at_succ

theorem checkPicture_none (V F : Int) (s : Option Addr) (c : List Ins) (cap : Nat) (vars : List Gs) (flds : List (List Gs)) (vs : Option Addr) (vc : Nat) (fs : Option Addr) (fc : Nat) (w : World) :
  Calls Tryz.prog 19 #[pv V F s c cap, xv ⟨true, vars, flds⟩ vs vc fs fc] w fun e w' => e = .returned (.int .i64 (ckPic V F c ⟨true, vars, flds⟩)) ∧ Below w.heap.size w w' := by
 have e1 : ckPic V F c ⟨true, vars, flds⟩ = if vars.length = 0 ∧ flds.length = 0 then 0 else 1 := by
  unfold ckPic formedPic
  simp only [if_true]
  by_cases h1 : vars.length = 0
  ·by_cases h2 : flds.length = 0
   ·have e1 : vars = [] := List.eq_nil_of_length_eq_zero h1
    have e2 : flds = [] := List.eq_nil_of_length_eq_zero h2
    subst e1 e2
    rfl
   ·simp [h1, h2]
  ·simp [h1]
 rw [e1]
 clear e1
 cases vars with
 | nil =>
  cases flds with
  | nil =>
   rw [if_pos ⟨rfl, rfl⟩]
   go_enter Tryz.func19, Tryz.ntmps19
   go_wp2
   go_ret
   exact ⟨rfl, by go_grown⟩
  | cons r flds =>
   rw [if_neg (fun h => by cases h.2)]
   go_enter Tryz.func19, Tryz.ntmps19
   go_wp2
   go_ret
   exact ⟨rfl, by go_grown⟩
 | cons g vars =>
  rw [if_neg (fun h => by cases h.1)]
  go_enter Tryz.func19, Tryz.ntmps19
  go_wp2
  go_ret
  exact ⟨rfl, by go_grown⟩

theorem checkPicture_vars (V F : Int) (s : Option Addr) (c : List Ins) (cap : Nat) (vars : List Gs) (flds : List (List Gs)) (vs : Option Addr) (vc : Nat) (fs : Option Addr) (fc : Nat) (w : World) (h : ¬ (vars.length : Int) = V) :
  Calls Tryz.prog 19 #[pv V F s c cap, xv ⟨false, vars, flds⟩ vs vc fs fc] w fun e w' => e = .returned (.int .i64 1) ∧ Below w.heap.size w w' := by
 have hb0 : Below w.heap.size w ((w.alloc (.cells #[.int .i64 V, .int .i64 F, .slice s c.length cap] 24)).alloc (.cells #[.bool false, .slice vs vars.length vc, .slice fs flds.length fc] 28)) := by go_grown
 have P0 := (PrAt.new w V F s c cap).call (w' := ((w.alloc (.cells #[.int .i64 V, .int .i64 F, .slice s c.length cap] 24)).alloc (.cells #[.bool false, .slice vs vars.length vc, .slice fs flds.length fc] 28))) (by go_grown)
 have X0 := XAt.new (w.alloc (.cells #[.int .i64 V, .int .i64 F, .slice s c.length cap] 24)) ⟨false, vars, flds⟩ vs vc fs fc
 rw [World.size_alloc] at X0
 simp only at X0
 have n1 : ((vars.length : Int) == V) = false := by simpa using h
 clear h
 go_enter Tryz.func19, Tryz.ntmps19
 go_wp2
 go_ret
 exact ⟨rfl, by go_grown⟩

theorem checkPicture_flds (V F : Int) (s : Option Addr) (c : List Ins) (cap : Nat) (vars : List Gs) (flds : List (List Gs)) (vs : Option Addr) (vc : Nat) (fs : Option Addr) (fc : Nat) (w : World) (h0 : (vars.length : Int) = V) (h : ¬ flds.length = c.length) :
  Calls Tryz.prog 19 #[pv V F s c cap, xv ⟨false, vars, flds⟩ vs vc fs fc] w fun e w' => e = .returned (.int .i64 1) ∧ Below w.heap.size w w' := by
 subst h0
 have hb0 : Below w.heap.size w ((w.alloc (.cells #[.int .i64 (vars.length : Int), .int .i64 F, .slice s c.length cap] 24)).alloc (.cells #[.bool false, .slice vs vars.length vc, .slice fs flds.length fc] 28)) := by go_grown
 have P0 := (PrAt.new w (vars.length : Int) F s c cap).call (w' := ((w.alloc (.cells #[.int .i64 (vars.length : Int), .int .i64 F, .slice s c.length cap] 24)).alloc (.cells #[.bool false, .slice vs vars.length vc, .slice fs flds.length fc] 28))) (by go_grown)
 have X0 := XAt.new (w.alloc (.cells #[.int .i64 (vars.length : Int), .int .i64 F, .slice s c.length cap] 24)) ⟨false, vars, flds⟩ vs vc fs fc
 rw [World.size_alloc] at X0
 simp only at X0
 have n1 : ((flds.length : Int) == (c.length : Int)) = false := by simp; omega
 clear h
 go_enter Tryz.func19, Tryz.ntmps19
 go_wp2
 go_ret
 exact ⟨rfl, by go_grown⟩

theorem checkPicture_row (F : Int) (s : Option Addr) (c : List Ins) (cap : Nat) (vars : List Gs) (flds : List (List Gs)) (vs : Option Addr) (vc : Nat) (fs : Option Addr) (fc : Nat) (w : World) (hP : PicAt w ⟨false, vars, flds⟩ vs fs) (h60 : c.length ≤ 60) (hfc : flds.length = c.length) (hb : ∃ r ∈ flds, ¬ (r.length : Int) = F) :
  Calls Tryz.prog 19 #[pv (vars.length : Int) F s c cap, xv ⟨false, vars, flds⟩ vs vc fs fc] w fun e w' => e = .returned (.int .i64 1) ∧ Below w.heap.size w w' := by
 have hb0 : Below w.heap.size w ((w.alloc (.cells #[.int .i64 (vars.length : Int), .int .i64 F, .slice s c.length cap] 24)).alloc (.cells #[.bool false, .slice vs vars.length vc, .slice fs flds.length fc] 28)) := by go_grown
 have P0 := (PrAt.new w (vars.length : Int) F s c cap).call (w' := ((w.alloc (.cells #[.int .i64 (vars.length : Int), .int .i64 F, .slice s c.length cap] 24)).alloc (.cells #[.bool false, .slice vs vars.length vc, .slice fs flds.length fc] 28))) (by go_grown)
 have X0 := XAt.new (w.alloc (.cells #[.int .i64 (vars.length : Int), .int .i64 F, .slice s c.length cap] 24)) ⟨false, vars, flds⟩ vs vc fs fc
 rw [World.size_alloc] at X0
 simp only at X0
 have hfl : ((flds.length : Int) != (c.length : Int)) = false := by simp; omega
 have hl60 : flds.length ≤ 60 := by omega
 have RW0 := hP.2.below hb0 (Nat.le_refl _)
 have HB := hideH hb
 clear hP hfc hb
 simp only at RW0
 go_enter Tryz.func19, Tryz.ntmps19
 go_upto_region 7 with fail
 generalize ((w.alloc (.cells #[.int .i64 (vars.length : Int), .int .i64 F, .slice s c.length cap] 24)).alloc (.cells #[.bool false, .slice vs vars.length vc, .slice fs flds.length fc] 28)) = w1 at *
 have P1 := P0
 have X1 := X0
 have RW := RW0
 clear P0 X0 RW0 hfl
 go_wp2
 go_loopw [5] (fun i wr => ∃ k : Nat, k ≤ flds.length ∧ i = .int .i64 k ∧ Below w1.heap.size w1 wr ∧ Hid (∀ j (h : j < flds.length), j < k → (flds[j].length : Int) = F)) (fun i _ => flds.length - (intOf i).toNat)
 case atStart => exact ⟨0, Nat.zero_le _, rfl, Below.refl _ _, fun j _ h => absurd h (by omega)⟩
 case round =>
  obtain ⟨k, hk, rfl, hbr, HJ⟩ := hrel
  obtain ⟨⟨p0, p1', p2⟩, pz⟩ := id (P1.call hbr)
  obtain ⟨⟨x0, x1, x2⟩, xz, -⟩ := id (X1.call hbr)
  by_cases hlt : k < flds.length
  ·have n0 : (0 : Int) ≤ (k : Int) := by omega
   have n1 : (k : Int) < (flds.length : Int) := by omega
   obtain ⟨p1, q1, rfl, zp1, r1, rc1, C1, k1, m1, -⟩ := RW.below hbr (Nat.le_refl _) k hlt
   have HKZ : Hid (∀ wx, Below wr.heap.size wr wx → wx.cell? ⟨w.heap.size, 1, none⟩ = some (.int .i64 F) ∧ wx.cell? ⟨w.heap.size + 1, 2, none⟩ = some (.slice (some ⟨p1, q1, none⟩) flds.length fc) ∧ wx.cell? ⟨p1, q1 + k, none⟩ = some (.slice r1 flds[k].length rc1)) := fun wx hx => ⟨by rw [hx.cell (by simp only; exact pz)]; exact p1', by rw [hx.cell (by simp only; exact xz)]; exact x2, by rw [hx.cell (by simp only; exact zp1)]; exact C1⟩
   have HD : Below wr.heap.size wr wr.drew := (Below.refl _ _).drew
   go_wp2
   refine wp_region_z (S := (fun wx => wx.cell? ⟨w.heap.size, 1, none⟩ = some (.int .i64 F) ∧ wx.cell? ⟨w.heap.size + 1, 2, none⟩ = some (.slice (some ⟨p1, q1, none⟩) flds.length fc) ∧ wx.cell? ⟨p1, q1 + k, none⟩ = some (.slice r1 flds[k].length rc1))) [] (by kernel_rfl) (HKZ.out _ HD) (fun hHeld => ?_)
   refine tZ 0 ?_ ?_;refine sm ?_
   refine tZ 1 ?_ ?_;refine sm ?_
   refine tZ 2 ?_ ?_;refine sm ?_
   refine tZ 3 ?_ ?_;refine sm ?_
   refine tZ 4 ?_ ?_;refine sm ?_
   refine tZ 5 ?_ ?_;refine sm ?_
   refine tZ 6 ?_ ?_;refine sm ?_
   refine tZ 7 ?_ ?_;refine sm ?_
   refine tZ 8 ?_ ?_;refine sm ?_
   refine wpAnyZ_done (by kernel_rfl) ?_ _
   by_cases hF : (flds[k].length : Int) = F
   ·have e1 : ((flds[k].length : Int) != F) = false := by simpa using hF
    go_wp2
    go_roundw
    case rel => exact ⟨k + 1, by omega, by go_num, hbr.trans (HD.mono hbr.size), fun j hj hjk => by
     by_cases e : j = k
     ·subst e; exact hF
     ·exact HJ.out j hj (by omega)⟩
    case measure => simp [intOf]; omega
   ·have e1 : ((flds[k].length : Int) != F) = true := by simpa using hF
    go_wp2
    go_ret
    exact ⟨rfl, hb0.trans ((hbr.trans (HD.mono hbr.size)).mono hb0.size)⟩
  ·have n1 : ¬ (k : Int) < (flds.length : Int) := by omega
   exfalso
   obtain ⟨r, hr, hne⟩ := HB.out
   obtain ⟨j, hj, rfl⟩ := List.getElem_of_mem hr
   exact hne (HJ.out j hj (by omega))
end
section
open Go

section
variable {P : Program} (w : World)
theorem run_append_any (t ty : TypeId) (base : Nat) (e : TypeId) (i : TypeInfo) (z : Value) (size bytes : Nat) (ht : P.underlying t = some (.slice e)) (hi : P.info? e = some i) (hz : i.zero = some z)
  (hsize : i.size = size) (hby : i.bytes = bytes) (hzs : z.cells.size = size) (hsz : 0 < size)
  (v : Value) (n : Nat) (xs : List Value) (hown : w.ownsRow base e size v n xs)
  (ao : Option Addr) (m c : Nat) (news : List Value) (hl : news.length = m * size) (hao : ao = none → m = 0) (hnews : ∀ ad, ao = some ad → ∀ j u, news[j]? = some u → w.cell? (ad.add j) = some u) (h1 : ∀ u ∈ news, u.oneCell' = true)
  (h63 : n + m ≤ maxLen) (hbytes : (n + m) * bytes ≤ 140737488355328) (hbase : base ≤ w.heap.size) :
  ∃ v' w', (Builtin.append_ #[t, t] ty #[v, .slice ao m c]).run P w = .ok v' w' ∧ w'.ownsRow base e size v' (n + m) (xs ++ news) ∧ w.grownBy w' v.ownBlock ∧ (v'.ownBlock = v.ownBlock ∨ v'.ownBlock = some w.heap.size) := by
 cases ao with
 | some ad =>
  obtain ⟨v', w', hr, h2, h3, _, h5⟩ := run_append_own_at (P := P) w base t ty e i z size bytes ht hi hz hsize hby hzs hsz v n xs hown ad m c news hl (hnews ad rfl) h1 h63 hbytes hbase
  exact ⟨v', w', hr, h2, h3, h5⟩
 | none =>
  obtain rfl := hao rfl
  obtain rfl : news = [] := List.eq_nil_of_length_eq_zero (by simpa using hl)
  refine ⟨v, w, ?_, by simpa using hown, ⟨rfl, rfl, rfl, Nat.le_refl _, fun _ _ _ => rfl⟩, .inl rfl⟩
  rcases hown.2 with ⟨rfl, rfl⟩ | ⟨g, cap, cur, rfl, _, _, hnc, _⟩
  ·simp [Builtin.append_, run_underlying ht, sizeOf, typeInfo, hi, Builtin.lenOf, Builtin.firstCells]
  ·simp [Builtin.append_, run_underlying ht, sizeOf, typeInfo, hi, Builtin.lenOf, Builtin.firstCells, hnc, storeCells]

theorem wp_append_any {o : Oper} {a : Act} {K : Act → World → Prop} {Q : Exit → Act → World → Prop} (s x : Operand) (t : TypeId)
  (ho : o.op = .call { callee := .builtin .append, args := #[s, x], argTypes := #[t, t] })
  (base : Nat) (e : TypeId) (i : TypeInfo) (z : Value) (size bytes : Nat) (ht : P.underlying t = some (.slice e)) (hi : P.info? e = some i) (hz : i.zero = some z)
  (hsize : i.size = size) (hby : i.bytes = bytes) (hzs : z.cells.size = size) (hsz : 0 < size)
  (v : Value) (n : Nat) (xs : List Value) (hs : a.eval s = v) (hown : w.ownsRow base e size v n xs)
  (ao : Option Addr) (m c : Nat) (news : List Value) (hx : a.eval x = .slice ao m c) (hl : news.length = m * size) (hao : ao = none → m = 0) (hnews : ∀ ad, ao = some ad → ∀ j u, news[j]? = some u → w.cell? (ad.add j) = some u) (h1 : ∀ u ∈ news, u.oneCell' = true)
  (h63 : n + m ≤ maxLen) (hbytes : (n + m) * bytes ≤ 140737488355328) (hbase : base ≤ w.heap.size)
  (h : ∀ v' w', w'.ownsRow base e size v' (n + m) (xs ++ news) → w.grownBy w' v.ownBlock → (v'.ownBlock = v.ownBlock ∨ v'.ownBlock = some w.heap.size) → K (a.put o.dst v') w') : o.wp P a w K Q := by
 obtain ⟨v', w', hr, h2, h3, h4⟩ := run_append_any (P := P) w t o.type base e i z size bytes ht hi hz hsize hby hzs hsz v n xs hown ao m c news hl hao hnews h1 h63 hbytes hbase
 unfold Oper.wp execOp
 simp only [ho, resolve, invoke, builtin, Sem.run_bind, Sem.run_pure, Result.andThen_ok, List.map_toArray, List.map_cons, List.map_nil, hs, hx, hr]
 exact h v' w' h2 h3 h4

theorem wpList_append_any {ops : Array Oper} {rest : List Oper} {o : Oper} {a : Act} {Q : Exit → Act → World → Prop} (hgd : o.guard = none) (s x : Operand) (t : TypeId)
  (ho : o.op = .call { callee := .builtin .append, args := #[s, x], argTypes := #[t, t] })
  (base : Nat) (e : TypeId) (i : TypeInfo) (z : Value) (size bytes : Nat) (ht : P.underlying t = some (.slice e)) (hi : P.info? e = some i) (hz : i.zero = some z)
  (hsize : i.size = size) (hby : i.bytes = bytes) (hzs : z.cells.size = size) (hsz : 0 < size)
  (v : Value) (n : Nat) (xs : List Value) (hs : a.eval s = v) (hown : w.ownsRow base e size v n xs)
  (ao : Option Addr) (m c : Nat) (news : List Value) (hx : a.eval x = .slice ao m c) (hl : news.length = m * size) (hao : ao = none → m = 0) (hnews : ∀ ad, ao = some ad → ∀ j u, news[j]? = some u → w.cell? (ad.add j) = some u) (h1 : ∀ u ∈ news, u.oneCell' = true)
  (h63 : n + m ≤ maxLen) (hbytes : (n + m) * bytes ≤ 140737488355328) (hbase : base ≤ w.heap.size)
  (h : ∀ v' w', w'.ownsRow base e size v' (n + m) (xs ++ news) → w.grownBy w' v.ownBlock → (v'.ownBlock = v.ownBlock ∨ v'.ownBlock = some w.heap.size) → wpList P ops Q rest (a.put o.dst v') w') : wpList P ops Q (o :: rest) a w :=
 wpList_plain hgd fun _ hK => wp_append_any w s x t ho base e i z size bytes ht hi hz hsize hby hzs hsz v n xs hs hown ao m c news hx hl hao hnews h1 h63 hbytes hbase fun v' w' h2 h3 h4 => hK _ _ (h v' w' h2 h3 h4)

/-- At a step of a region that draws its order. -/
theorem step_append_any {ops : Array Oper} {o : Oper} {a : Act} {K : Act → World → Prop} {Q : Exit → Act → World → Prop} {E : Prop} (hgd : o.guard = none) (s x : Operand) (t : TypeId)
  (ho : o.op = .call { callee := .builtin .append, args := #[s, x], argTypes := #[t, t] })
  (base : Nat) (e : TypeId) (i : TypeInfo) (z : Value) (size bytes : Nat) (ht : P.underlying t = some (.slice e)) (hi : P.info? e = some i) (hz : i.zero = some z)
  (hsize : i.size = size) (hby : i.bytes = bytes) (hzs : z.cells.size = size) (hsz : 0 < size)
  (v : Value) (n : Nat) (xs : List Value) (hs : a.eval s = v) (hown : w.ownsRow base e size v n xs)
  (ao : Option Addr) (m c : Nat) (news : List Value) (hx : a.eval x = .slice ao m c) (hl : news.length = m * size) (hao : ao = none → m = 0) (hnews : ∀ ad, ao = some ad → ∀ j u, news[j]? = some u → w.cell? (ad.add j) = some u) (h1 : ∀ u ∈ news, u.oneCell' = true)
  (h63 : n + m ≤ maxLen) (hbytes : (n + m) * bytes ≤ 140737488355328) (hbase : base ≤ w.heap.size)
  (h : ∀ v' w', w'.ownsRow base e size v' (n + m) (xs ++ news) → w.grownBy w' v.ownBlock → (v'.ownBlock = v.ownBlock ∨ v'.ownBlock = some w.heap.size) → K (a.put o.dst v') w') :
  if Region.wanted o (yielded ops a.tmps) = true then Oper.wp P o a w K Q else E := by
 have hw : Region.wanted o (yielded ops a.tmps) = true := by simp [Region.wanted, hgd]
 rw [if_pos hw]
 exact wp_append_any w s x t ho base e i z size bytes ht hi hz hsize hby hzs hsz v n xs hs hown ao m c news hx hl hao hnews h1 h63 hbytes hbase h
end
end
end Go.Proofs.YtmapdpcfanecdabGreat
