/- Walks over package step: edges that are added. -/
import Derived.Test.YtmapdpcfanecdabGreatKstpxp27
import Derived.Test.YtmapdpcfanecdabGreatKstpxp08
import Derived.Deep.DeepCutAuto
import Derived.Deep.CutBlock
import Derived.Deep.RegionHeldLaw
import Derived.Test.YtmapdpcfanecdabGreatKstpxp22
import Derived.Test.YtmapdpcfanecdabGreatKstpxp07
import Derived.Deep.RegionHeld
import Derived.WalkKit
import Derived.WalkSpells
import Derived.WalkLawsBesides
import Derived.Handy
import Derived.Test.YtmapdpcfanecdabGreatKstpxp20
set_option linter.unusedSimpArgs false
set_option linter.unusedVariables false
namespace Go.Proofs.YtmapdpcfanecdabGreat
section
set_option maxHeartbeats 2000000
set_option maxRecDepth 10000
open Go.RowKit
attribute [local go_sem ↓] Go.wp_at_zero Go.wp_at_succ

theorem ckPics_two {V F : Int} {c : List Ins} {x y : Pic} (h : ckPics V F c [x, y] = 0) : ckProg V F c = 0 ∧ ckPic V F c x = 0 ∧ ckPic V F c y = 0 := by
 have h0 : ckProg V F c = 0 := by
  unfold ckPics at h
  split at h
  ·assumption
  ·exact h
 have hl : ckPicL V F c [x, y] = 0 := by
  unfold ckPics at h
  rw [if_pos h0] at h
  exact h
 have hcx : ckPic V F c x = 0 := by
  unfold ckPicL at hl
  split at hl
  ·assumption
  ·exact hl
 refine ⟨h0, hcx, ?_⟩
 unfold ckPicL at hl
 rw [if_pos hcx] at hl
 unfold ckPicL at hl
 split at hl
 ·assumption
 ·exact hl
theorem made_join {V F : Int} {s : Option Addr} {c : List Ins} {cap : Nat} (h0 : ckProg V F c = 0) : ∀ (g : Gs) (ss : Option Addr) (gc : Nat) (h : Gs) (st : Option Addr) (hc : Nat) (wx : World), CodeAt wx s c → IntsAt wx ss g.s → g.s.length ≤ gc → gc ≤ maxLen → IntsAt wx st h.s → h.s.length ≤ hc → hc ≤ maxLen → ckGs c g = 0 → ckGs c h = 0 → Calls Tryz.prog 82 #[pv V F s c cap, gv g ss gc, gv h st hc] wx fun e w' => (∃ js jc, e = .returned (.tuple #[gv (togGs joinSp g h) js jc, .int .i64 0]) ∧ IntsAt w' js (togGs joinSp g h).s ∧ (togGs joinSp g h).s.length ≤ jc ∧ jc ≤ maxLen ∧ ∀ a, js = some a → wx.heap.size ≤ a.block) ∧ Below wx.heap.size wx w' := by
 intro g ss gc h st hc wx hcd hs h1 h2 ht h3 h4 hg0 hh0
 have hck := ckAllG_pair h0 hg0 hh0
 obtain ⟨hg, hh⟩ := ckAllG_sites hck
 have l1 := rising_len hg.2 hg.1
 have l2 := rising_len hh.2 hh.1
 refine (joinG_ok V F s c cap g ss gc h st hc wx hcd hs h1 h2 ht h3 h4 hck (by simp; omega)).mono ?_
 rintro e w' ⟨v, rfl, hown, hb⟩
 obtain ⟨js, jc, rfl, hi, k1, k2, hf⟩ := IntsAt.own hown
 exact ⟨⟨js, jc, rfl, hi, k1, k2, hf⟩, hb⟩
theorem togP_join (V F : Int) (s : Option Addr) (c : List Ins) (cap : Nat) (x : Pic) (vs1 : Option Addr) (vc1 : Nat) (fs1 : Option Addr) (fc1 : Nat) (y : Pic) (vs2 : Option Addr) (vc2 : Nat) (fs2 : Option Addr) (fc2 : Nat) (w : World) (hcd : CodeAt w s c) (hx : PicAt w x vs1 fs1) (h1 : x.vars.length ≤ vc1 ∧ vc1 ≤ maxLen) (h2 : x.flds.length ≤ fc1 ∧ fc1 ≤ maxLen) (hy : PicAt w y vs2 fs2) (h3 : y.vars.length ≤ vc2 ∧ vc2 ≤ maxLen) (h4 : y.flds.length ≤ fc2 ∧ fc2 ≤ maxLen) : Calls Tryz.prog 113 #[pv V F s c cap, xv x vs1 vc1 fs1 fc1, xv y vs2 vc2 fs2 fc2, .func (.func 82) #[] #[]] w fun e w' => PicS w.heap.size w' e (if ckPics V F c [x, y] = 0 then joinPic (togGs joinSp) x y else zeroPic) (ckPics V F c [x, y]) ∧ Below w.heap.size w w' := by
 by_cases h : ckPics V F c [x, y] = 0
 ·obtain ⟨h0, hcx, hcy⟩ := ckPics_two h
  rw [if_pos h, h]
  exact together_ok_join V F s c cap x vs1 vc1 fs1 fc1 y vs2 vc2 fs2 fc2 w hcd hx h1 h2 hy h3 h4 h hcx hcy h0 (fun g hg => tog_self joinSp_self (ckProg_lim h0).2.2 hg) (made_join h0)
 ·rw [if_neg h]
  refine (together_err_join V F s c cap x vs1 vc1 fs1 fc1 y vs2 vc2 fs2 fc2 w hcd hx h1 h2 hy h3 h4 h).mono ?_
  rintro e w1 ⟨rfl, hb⟩
  exact ⟨⟨⟨none, 0, []⟩, none, 0, [], rfl, rfl, picG_zero _ _⟩, hb⟩
theorem joinPU (V F : Int) (s : Option Addr) (c : List Ins) (cap : Nat) (x : Pic) (vs1 : Option Addr) (vc1 : Nat) (fs1 : Option Addr) (fc1 : Nat) (y : Pic) (vs2 : Option Addr) (vc2 : Nat) (fs2 : Option Addr) (fc2 : Nat) (w : World) (hcd : CodeAt w s c) (hx : PicAt w x vs1 fs1) (h1 : x.vars.length ≤ vc1 ∧ vc1 ≤ maxLen) (h2 : x.flds.length ≤ fc1 ∧ fc1 ≤ maxLen) (hy : PicAt w y vs2 fs2) (h3 : y.vars.length ≤ vc2 ∧ vc2 ≤ maxLen) (h4 : y.flds.length ≤ fc2 ∧ fc2 ≤ maxLen) : Calls Tryz.prog 87 #[pv V F s c cap, xv x vs1 vc1 fs1 fc1, xv y vs2 vc2 fs2 fc2] w fun e w' => PicS w.heap.size w' e (if ckPics V F c [x, y] = 0 then joinPic (togGs joinSp) x y else zeroPic) (ckPics V F c [x, y]) ∧ Below w.heap.size w w' := by
 have B0 : Below w.heap.size w ((((w.alloc (.cells #[.int .i64 V, .int .i64 F, .slice s c.length cap] 24)).alloc (.cells #[.bool x.none, .slice vs1 x.vars.length vc1, .slice fs1 x.flds.length fc1] 28)).alloc (.cells #[.bool y.none, .slice vs2 y.vars.length vc2, .slice fs2 y.flds.length fc2] 28)).alloc (.cells #[.bool false, .slice none 0 0, .slice none 0 0] 28)) := by go_grown
 have Z0 := X3.new (((w.alloc (.cells #[.int .i64 V, .int .i64 F, .slice s c.length cap] 24)).alloc (.cells #[.bool x.none, .slice vs1 x.vars.length vc1, .slice fs1 x.flds.length fc1] 28)).alloc (.cells #[.bool y.none, .slice vs2 y.vars.length vc2, .slice fs2 y.flds.length fc2] 28)) 28 (.bool false) (.slice none 0 0) (.slice none 0 0)
 rw [World.size_alloc, World.size_alloc, World.size_alloc] at Z0
 have HT := hideH (togP_join V F s c cap x vs1 vc1 fs1 fc1 y vs2 vc2 fs2 fc2 ((((w.alloc (.cells #[.int .i64 V, .int .i64 F, .slice s c.length cap] 24)).alloc (.cells #[.bool x.none, .slice vs1 x.vars.length vc1, .slice fs1 x.flds.length fc1] 28)).alloc (.cells #[.bool y.none, .slice vs2 y.vars.length vc2, .slice fs2 y.flds.length fc2] 28)).alloc (.cells #[.bool false, .slice none 0 0, .slice none 0 0] 28)) (hcd.below B0 (Nat.le_refl _)) (hx.below B0 (Nat.le_refl _)) h1 h2 (hy.below B0 (Nat.le_refl _)) h3 h4)
 clear hcd hx hy
 generalize (if ckPics V F c [x, y] = 0 then joinPic (togGs joinSp) x y else zeroPic) = z at *
 generalize ckPics V F c [x, y] = ce at *
 go_enter Tryz.func87, Tryz.ntmps87
 go_wp2_with (go_at_call 113; fail)
 refine HT.out.mono ?_
 rintro e w1 ⟨⟨⟨us, uc, vl⟩, gs, gc, L, hZ, rfl, PV⟩, hb1⟩
 have HZZ := hideH hZ
 clear hZ
 have Z1 := Z0.call hb1
 have B1 := B0.trans (hb1.mono B0.size)
 clear HT hb1 B0 Z0
 obtain ⟨⟨z0, z1, z2⟩, zz, zf⟩ := id Z1
 have f0 := zf 0
 have f1 := zf 1
 have f2 := zf 2
 clear zf
 have e3 : ((((w.alloc (.cells #[.int .i64 V, .int .i64 F, .slice s c.length cap] 24)).alloc (.cells #[.bool x.none, .slice vs1 x.vars.length vc1, .slice fs1 x.flds.length fc1] 28)).alloc (.cells #[.bool y.none, .slice vs2 y.vars.length vc2, .slice fs2 y.flds.length fc2] 28)).alloc (.cells #[.bool false, .slice none 0 0, .slice none 0 0] 28)).heap.size = w.heap.size + 1 + 1 + 1 + 1 := by simp
 rw [e3] at PV
 have HPV := hideH PV
 clear PV e3
 go_wp2
 refine bodyPost_ret (v := .tuple #[.agg #[.bool z.none, .slice us vl.length uc, .slice gs L.length gc], .int .i64 ce]) (by simp [results, Tryz.results87, go_sem, z0, z1, z2]) rfl ⟨⟨⟨us, uc, vl⟩, gs, gc, L, HZZ.out, rfl, ((HPV.out.same (fun b hb _ => ?_) (by simp [World.setCell])).mono fun b hb _ => by omega).down (by omega)⟩, ?_⟩
 ·rw [Below.heap_setCell _ _ _ _ (by simp only; omega), Below.heap_setCell _ _ _ _ (by simp only; omega), Below.heap_setCell _ _ _ _ (by simp only; omega)]
 ·exact ((B1.setCell (by simp only; omega) _).setCell (by simp only; omega) _).setCell (by simp only; omega) _
end
section
set_option maxHeartbeats 8000000
set_option maxRecDepth 100000
open Go.RowKit
attribute [local go_sem ↓] Go.wp_at_zero Go.wp_at_succ

theorem Tryz.info_edge : (Tryz.prog.info? 56).map (fun i => (i.zero, i.size, i.bytes)) = some (some (.agg #[.int .i64 0, .bool false, .slice none 0 0, .slice none 0 0]), 4, 64) := by kernel_rfl
/-- A change of a picture, from a world on. -/
def ChangeC (fn : Nat) (ar : Value → Array Value) (n sb : Nat) (eb : Option Nat) (w : World) (x x' : Pic) : Prop := ∀ wx xb v gs gc L, Below w.heap.size w wx → ClPre n sb eb w.heap.size wx xb v gs gc L x → Calls Tryz.prog fn (ar (.pointer (some ⟨xb, 0, none⟩))) wx fun e w' => e = .returned (.tuple #[]) ∧ (∃ v' gs' gc' L', ClPre n sb eb w.heap.size w' xb v' gs' gc' L' x') ∧ Below w.heap.size wx w'
/-- One edge in a block of its own, as what is appended. -/
theorem news4 (w : World) (e : Ed) (cs : Array Value) (t : TypeId) (hcs : cs.toList = edCells e) : ∀ ad, some (⟨w.heap.size, 0, none⟩ : Addr) = some ad → ∀ j u, (edCells e)[j]? = some u → (w.alloc (.cells cs t)).cell? (ad.add j) = some u := by
  intro ad e1 j u hj
  cases e1
  rw [Addr.add_lit, Nat.zero_add]
  rw [← hcs] at hj
  simpa [go_sem] using hj
theorem nonePic_at (w : World) : PicAt w nonePic none none := ⟨fun i hi => absurd hi (by simp [nonePic]), fun i hi => absurd hi (by simp [nonePic])⟩
theorem ckPics_none {V F : Int} {c : List Ins} {x : Pic} (h0 : ckProg V F c = 0) (hx : ckPic V F c x = 0) : ckPics V F c [x, nonePic] = 0 := by
  unfold ckPics
  rw [if_pos h0]
  unfold ckPicL
  rw [if_pos hx]
  unfold ckPicL
  rw [if_pos (show ckPic V F c nonePic = 0 from rfl)]
  rfl
theorem joinPic_none {j : Gs → Gs → Gs} {x : Pic} (hn : x.none = false) : joinPic j x nonePic = x := by
  unfold joinPic
  rw [if_neg (by rw [hn]; decide), if_pos (show nonePic.none = true from rfl)]
/-- A picture stays behind a store into a block in which it does not lie. -/
theorem picG_off {T : Nat → Prop} {H xb : Nat} {w w' : World} {v : Ro} {gs : Option Addr} {gc : Nat} {L : List Ro} (h : PicG T H w v gs gc L) (hT : ∀ b, T b → b ≠ xb) (ho : Off v (Value.slice gs L.length gc).ownBlock L xb) (hs : ∀ b, b ≠ xb → w'.heap[b]? = w.heap[b]?) (hz : w.heap.size ≤ w'.heap.size) : PicG T H w' v gs gc L :=
  ⟨h.vars.same fun b hb => hs b fun e => ho.1 (by rw [hb, e]), ownsI_same h.flds fun b hb => hs b fun e => ho.2.1 (by rw [hb, e]), fun r hr => (h.rows r hr).same fun b hb => hs b fun e => ho.2.2 r hr (by rw [hb, e]),
   fun g hg => ⟨(h.sv g hg).1.same (fun b hb _ => hs b (hT b hb.1)) hz, (h.sv g hg).2⟩, fun r hr g hg => ⟨(h.sf r hr g hg).1.same (fun b hb _ => hs b (hT b hb.1)) hz, (h.sf r hr g hg).2⟩, h.dv, h.df, h.dr⟩
theorem prf_26a11f {p : Prop} (h : p := by
  refine wpAnyH_ready (rs := [14]) (by kernel_rfl) (by simp) ?_
  refine AllReadyH.cons rfl (fun K hK => ?_) AllReadyH.nil
  have r0 := A3.1 0 _ rfl
  have r1 := A3.1 1 _ rfl
  have r2 := A3.1 2 _ rfl
  have f0 := A3.2.2 0
  have f1 := A3.2.2 1
  have f2 := A3.2.2 2
  go_simp
  have A4 : Cells (((w3.setCell ⟨xb, 0, none⟩ (.bool false)).setCell ⟨xb, 1, none⟩ (.slice v.rs v.l.length v.rc)).setCell ⟨xb, 2, none⟩ (.slice gs L0.length gc)) xb [.bool false, .slice v.rs v.l.length v.rc, .slice gs L0.length gc] := ((A3.put 0 (by simp) _).put 1 (by simp) _).put 2 (by simp) _
  have B4 : Below w.heap.size w (((w3.setCell ⟨xb, 0, none⟩ (.bool false)).setCell ⟨xb, 1, none⟩ (.slice v.rs v.l.length v.rc)).setCell ⟨xb, 2, none⟩ (.slice gs L0.length gc)) := ((B3.setCell (by simp only; omega) _).setCell (by simp only; omega) _).setCell (by simp only; omega) _
  have hch : ∀ q, q ≠ xb → (((w3.setCell ⟨xb, 0, none⟩ (.bool false)).setCell ⟨xb, 1, none⟩ (.slice v.rs v.l.length v.rc)).setCell ⟨xb, 2, none⟩ (.slice gs L0.length gc)).heap[q]? = w3.heap[q]? := fun q hq => by rw [Below.heap_setCell _ _ _ _ hq, Below.heap_setCell _ _ _ _ hq, Below.heap_setCell _ _ _ _ hq]
  have hcz : w3.heap.size ≤ (((w3.setCell ⟨xb, 0, none⟩ (.bool false)).setCell ⟨xb, 1, none⟩ (.slice v.rs v.l.length v.rc)).setCell ⟨xb, 2, none⟩ (.slice gs L0.length gc)).heap.size := by simp [World.setCell]
  have G4 : PicG (ClT n sb (Value.slice es EL.length ec).ownBlock xb) w.heap.size (((w3.setCell ⟨xb, 0, none⟩ (.bool false)).setCell ⟨xb, 1, none⟩ (.slice v.rs v.l.length v.rc)).setCell ⟨xb, 2, none⟩ (.slice gs L0.length gc)) v gs gc L0 := picG_off G3 (fun b hb => hb.2.2.1) OF3 hch hcz
  refine hK.out _ _ (HKZ.out _ B4) (fun hHeld4 => ?_)
  clear hK K r0 r1 r2 f0 f1 f2 A3 B3 G3 hch hcz
  refine sm ?_
  generalize (((w3.setCell ⟨xb, 0, none⟩ (.bool false)).setCell ⟨xb, 1, none⟩ (.slice v.rs v.l.length v.rc)).setCell ⟨xb, 2, none⟩ (.slice gs L0.length gc)) = w4 at *
  have OF4 := OF3
  have EX4 := EX3
  clear OF3 EX3
  refine tH 15 ?_ ?_;refine sm ?_
  refine wpAnyH_done (by kernel_rfl) ?_ _
  first | refine hK1 _ _ (Met.intro (hJ1 _ _ ?_)) | refine Met.intro (hJ1 _ _ ?_) | refine hJ1 _ _ ?_
  (repeat apply Exists.intro)
  refine ⟨?_, rfl⟩
  exact ⟨xb, v, gs, gc, L0, rfl, rfl, ⟨zxb, A4, G4, OF4, EX4.out.symm⟩, B4⟩) : p := h
theorem edge_f (fn : Nat) (cs : Array Value) (ar : Value → Array Value) (har : ∀ p, #[p] ++ cs = ar p) (hf : ∀ args wx, Sem.run Tryz.prog (callFunc fn args) wx = .ok (.enter fn args) wx) (n : Nat) (ta : Int) (x' : Pic) (EL : List Ed) (es : Option Addr) (ec : Nat) (sb : Nat) (i : Ins) (V F : Int) (s : Option Addr) (c : List Ins) (cap : Nat) (at_ : Int) (x : Pic) (vs : Option Addr) (vc : Nat) (fs : Option Addr) (fc : Nat) (wr fl : Bool) (w0 w : World) (hS : Cells w sb (stpC i V F s c cap at_ x vs vc fs fc (.slice es EL.length ec) wr fl)) (hc0 : CodeAt w0 s c) (hx0 : PicAt w0 x vs fs) (hz0 : w0.heap.size ≤ sb) (hB0 : Below w0.heap.size w0 w) (K : SCtx V F c x vc fc i at_) (hn : n = sb) (hER : ERow n sb w (.slice es EL.length ec) EL) (hL2 : EL.length ≤ 10)
    (hCL : ChangeC fn ar n sb (Value.slice es EL.length ec).ownBlock w x x') :
    Calls Tryz.prog 49 #[.pointer (some ⟨sb, 0, none⟩), .int .i64 ta, .func (.func fn) #[] cs] w fun e w' => e = .returned (.tuple #[]) ∧ (∃ ev' q, Cells w' sb (stpC i V F s c cap at_ x vs vc fs fc ev' wr fl) ∧ ERow n sb w' ev' (EL ++ [q]) ∧ edG q = ⟨ta, x'⟩) ∧ Below sb w w' := by
  obtain ⟨tk, hik, hik0, hik1, hik2⟩ := info_parts Tryz.info_edge
  have hnx : x.none = false := K.kx.none
  have hck : ckPic V F c x = 0 := K.kx.ck
  have HJN : Hid (∀ wx, Below w.heap.size w wx → Calls Tryz.prog 87 #[pv V F s c cap, .agg #[.bool false, .slice vs x.vars.length vc, .slice fs x.flds.length fc], .agg #[.bool true, .slice none 0 0, .slice none 0 0]] wx fun e w' => (∃ v gs gc L0, x = picOf false v L0 ∧ e = .returned (.tuple #[.agg #[.bool false, .slice v.rs v.l.length v.rc, .slice gs L0.length gc], .int .i64 0]) ∧ PicG (fun b => wx.heap.size ≤ b) wx.heap.size w' v gs gc L0) ∧ Below wx.heap.size wx w') := fun wx hb => by
    have hbb := hB0.trans (hb.mono hB0.size)
    have h := joinPU V F s c cap x vs vc fs fc nonePic none 0 none 0 wx (hc0.below hbb (Nat.le_refl _)) (hx0.below hbb (Nat.le_refl _)) K.cv K.cf (nonePic_at wx) ⟨Nat.le_refl _, Nat.zero_le _⟩ ⟨Nat.le_refl _, Nat.zero_le _⟩
    rw [ckPics_none K.h0 hck, if_pos rfl, joinPic_none hnx] at h
    have exv : xv x vs vc fs fc = .agg #[.bool false, .slice vs x.vars.length vc, .slice fs x.flds.length fc] := by unfold xv; rw [hnx]
    rw [exv] at h
    refine h.mono ?_
    rintro e w' ⟨⟨v, gs, gc, L0, h1, h2, h3⟩, h4⟩
    rw [hnx] at h1 h2
    exact ⟨⟨v, gs, gc, L0, h1, h2, h3⟩, h4⟩
  have HKZ : Hid (∀ wx, Below w.heap.size w wx → (wx.cell? ⟨sb, 6, none⟩ = some (.int .i64 V) ∧ wx.cell? ⟨sb, 7, none⟩ = some (.int .i64 F) ∧ wx.cell? ⟨sb, 8, none⟩ = some (.slice s c.length cap)) ∧ (wx.cell? ⟨sb, 10, none⟩ = some (.bool false) ∧ wx.cell? ⟨sb, 11, none⟩ = some (.slice vs x.vars.length vc) ∧ wx.cell? ⟨sb, 12, none⟩ = some (.slice fs x.flds.length fc))) := fun wx hb => by
    have h := hS.call hb
    exact ⟨⟨h.1 6 _ rfl, h.1 7 _ rfl, h.1 8 _ rfl⟩, by rw [← hnx]; exact h.1 10 _ rfl, h.1 11 _ rfl, h.1 12 _ rfl⟩
  have HSS := hideH hS
  have HCL := hideH hCL
  have zsb := hS.2.1
  clear hS hc0 hx0 hnx hck hCL
  go_enter Tryz.func49, Tryz.ntmps49
  go_upto_region 0 with fail
  go_cut [6, 7] (fun t6 t7 wc => ∃ xb v gs gc L0, t6 = .pointer (some ⟨xb, 0, none⟩) ∧ t7 = .int .i64 0 ∧ ClPre n sb (Value.slice es EL.length ec).ownBlock w.heap.size wc xb v gs gc L0 x ∧ Below w.heap.size w wc)
  case first =>
    rename_i J1 K1 hJ1 hK1
    have B1 : Below w.heap.size w w.drew := (Below.refl _ _).drew
    refine wp_region_held_drew (S := (fun wx => (wx.cell? ⟨sb, 6, none⟩ = some (.int .i64 V) ∧ wx.cell? ⟨sb, 7, none⟩ = some (.int .i64 F) ∧ wx.cell? ⟨sb, 8, none⟩ = some (.slice s c.length cap)) ∧ (wx.cell? ⟨sb, 10, none⟩ = some (.bool false) ∧ wx.cell? ⟨sb, 11, none⟩ = some (.slice vs x.vars.length vc) ∧ wx.cell? ⟨sb, 12, none⟩ = some (.slice fs x.flds.length fc)))) (by kernel_rfl) (HKZ.out _ B1) (fun hHeld => ?_)
    generalize w.drew = w1 at *
    refine tH 0 ?_ ?_;refine sm ?_
    refine tH 1 ?_ ?_;refine sm ?_
    refine tH 2 ?_ ?_;refine sm ?_
    refine tH 3 ?_ ?_;refine sm ?_
    refine tH 4 ?_ ?_;refine sm ?_
    refine tH 5 ?_ ?_;refine sm ?_
    refine tH 6 ?_ ?_;refine sm ?_
    refine tH 7 ?_ ?_;refine sm ?_
    refine tH 8 ?_ ?_;refine sm ?_
    refine wpAnyH_ready (rs := [9, 13]) (by kernel_rfl) (by simp) ?_
    refine AllReadyH.cons rfl (fun K hK => ?_) (AllReadyH.cons rfl (fun K hK => ?_) AllReadyH.nil)
    · go_simp
      refine (HJN.out w1 B1).mono ?_
      rintro e w2 ⟨⟨v, gs, gc, L0, EX, rfl, PG⟩, hb2⟩
      have B2 := B1.trans (hb2.mono (B1.size))
      have EX2 := hideH EX
      clear EX
      have P2 : PicG (fun b => w.heap.size ≤ b) w.heap.size w2 v gs gc L0 := (PG.mono fun b hb _ => by have := B1.size; omega).down B1.size
      clear PG
      refine hK.out _ _ (HKZ.out _ B2) (fun hHeld2 => ?_)
      clear hK K hb2  B1
      refine sm ?_
      refine tH 10 ?_ ?_;refine sm ?_
      refine tH 11 ?_ ?_;refine sm ?_
      refine tH 12 ?_ ?_;refine sm ?_
      refine wpAnyH_ready (rs := [13]) (by kernel_rfl) (by simp) ?_
      refine AllReadyH.cons rfl (fun K hK => ?_) AllReadyH.nil
      go_simp
      have hb3 : Below w2.heap.size w2 (w2.alloc (.cells #[.bool false, .slice none 0 0, .slice none 0 0] 28)) := by go_grown
      have B3 := B2.trans (hb3.mono (B2.size))
      have A3 : Cells (w2.alloc (.cells #[.bool false, .slice none 0 0, .slice none 0 0] 28)) w2.heap.size [.bool false, .slice none 0 0, .slice none 0 0] := Cells.new w2 28 [.bool false, .slice none 0 0, .slice none 0 0]
      have zxb := B2.size
      have G3 : PicG (ClT n sb (Value.slice es EL.length ec).ownBlock w2.heap.size) w.heap.size (w2.alloc (.cells #[.bool false, .slice none 0 0, .slice none 0 0] 28)) v gs gc L0 := (P2.mono fun b hb hlt => ⟨by omega, by omega, Nat.ne_of_lt hlt, fun e => by have := (ownsI_lt hER.own e).1; omega⟩).call hb3
      have OF3 : Off v (Value.slice gs L0.length gc).ownBlock L0 w2.heap.size := ⟨fun e => Nat.lt_irrefl _ (P2.vars.lt e).1, fun e => Nat.lt_irrefl _ (ownsI_lt P2.flds e).1, fun r hr e => Nat.lt_irrefl _ ((P2.rows r hr).lt e).1⟩
      have EX3 := EX2
      clear P2 EX2
      clear B2
      refine hK.out _ _ (HKZ.out _ B3) (fun hHeld3 => ?_)
      clear hK K hb3 
      refine sm ?_
      generalize w2.alloc (.cells #[.bool false, .slice none 0 0, .slice none 0 0] 28) = w3 at *
      generalize w2.heap.size = xb at *
      exact prf_26a11f
    · go_simp
      have hb2 : Below w1.heap.size w1 (w1.alloc (.cells #[.bool false, .slice none 0 0, .slice none 0 0] 28)) := by go_grown
      have B2 := B1.trans (hb2.mono (B1.size))
      have A2 : Cells (w1.alloc (.cells #[.bool false, .slice none 0 0, .slice none 0 0] 28)) w1.heap.size [.bool false, .slice none 0 0, .slice none 0 0] := Cells.new w1 28 [.bool false, .slice none 0 0, .slice none 0 0]
      have zxb := B1.size
      clear B1
      refine hK.out _ _ (HKZ.out _ B2) (fun hHeld2 => ?_)
      clear hK K hb2 
      refine sm ?_
      generalize w1.alloc (.cells #[.bool false, .slice none 0 0, .slice none 0 0] 28) = w2 at *
      generalize w1.heap.size = xb at *
      refine wpAnyH_ready (rs := [9]) (by kernel_rfl) (by simp) ?_
      refine AllReadyH.cons rfl (fun K hK => ?_) AllReadyH.nil
      go_simp
      refine (HJN.out w2 B2).mono ?_
      rintro e w3 ⟨⟨v, gs, gc, L0, EX, rfl, PG⟩, hb3⟩
      have A3 := A2.call hb3
      have B3 := B2.trans (hb3.mono (B2.size))
      have EX3 := hideH EX
      clear EX
      have G3 : PicG (ClT n sb (Value.slice es EL.length ec).ownBlock xb) w.heap.size w3 v gs gc L0 := ((PG.mono fun b hb _ => ⟨by have := B2.size; omega, by have := B2.size; omega, by have := A2.2.1; omega, fun e => by have := (ownsI_lt hER.own e).1; have := B2.size; omega⟩).down B2.size)
      have OF3 : Off v (Value.slice gs L0.length gc).ownBlock L0 xb := ⟨fun e => by have := (PG.vars.lt e).2; have := A2.2.1; omega, fun e => by have := (ownsI_lt PG.flds e).2; have := A2.2.1; omega, fun r hr e => by have := ((PG.rows r hr).lt e).2; have := A2.2.1; omega⟩
      clear PG
      refine hK.out _ _ (HKZ.out _ B3) (fun hHeld3 => ?_)
      clear hK K hb3 A2 B2
      refine sm ?_
      refine tH 10 ?_ ?_;refine sm ?_
      refine tH 11 ?_ ?_;refine sm ?_
      refine tH 12 ?_ ?_;refine sm ?_
      exact prf_26a11f
  obtain ⟨xb, v, gs, gc, L0, rfl, rfl, CP, B1⟩ := hcut
  generalize wc = w1 at *
  clear wc HKZ HJN
  go_wp2_with fail
  refine (HCL.out w1 xb v gs gc L0 B1 CP).mono ?_
  rintro e w2 ⟨rfl, ⟨v', gs', gc', L', CP'⟩, hb2⟩
  have B2 := B1.trans hb2
  have zxb := CP'.1
  have A2 := CP'.2.1
  have G2 := CP'.2.2.1
  have EX' := CP'.2.2.2.2
  have S2 := HSS.out.call B2
  have ER1 := hER
  have ER2 := hER.call B2
  have zs2 := S2.2.1
  have bz := B2.size
  clear CP CP' hb2 B1 HCL v gs gc L0
  have HKZ : Hid (∀ wx, Below w2.heap.size w2 wx → wx.cell? ⟨sb, 13, none⟩ = some (.slice es EL.length ec) ∧ (wx.cell? ⟨xb, 0, none⟩ = some (.bool false) ∧ wx.cell? ⟨xb, 1, none⟩ = some (.slice v'.rs v'.l.length v'.rc) ∧ wx.cell? ⟨xb, 2, none⟩ = some (.slice gs' L'.length gc'))) := fun wx hb => ⟨(S2.call hb).1 13 _ rfl, (A2.call hb).1 0 _ rfl, (A2.call hb).1 1 _ rfl, (A2.call hb).1 2 _ rfl⟩
  go_upto_region 2 with fail
  have HD : Below w2.heap.size w2 w2.drew := (Below.refl _ _).drew
  refine wp_region_z (S := (fun wx => wx.cell? ⟨sb, 13, none⟩ = some (.slice es EL.length ec) ∧ (wx.cell? ⟨xb, 0, none⟩ = some (.bool false) ∧ wx.cell? ⟨xb, 1, none⟩ = some (.slice v'.rs v'.l.length v'.rc) ∧ wx.cell? ⟨xb, 2, none⟩ = some (.slice gs' L'.length gc')))) [12] (by kernel_rfl) (HKZ.out _ HD) (fun hHeld => ?_)
  generalize w2.drew = w3 at *
  refine tZ 0 ?_ ?_;refine sm ?_
  refine tZ 1 ?_ ?_;refine sm ?_
  refine tZ 2 ?_ ?_;refine sm ?_
  refine tZ 3 ?_ ?_;refine sm ?_
  refine tZ 4 ?_ ?_;refine sm ?_
  refine tZ 5 ?_ ?_;refine sm ?_
  refine tZ 6 ?_ ?_;refine sm ?_
  refine tZ 7 ?_ ?_;refine sm ?_
  refine wpAnyZ_one (i := 8) rfl (by kernel_rfl) (fun K hK => ?_)
  go_simp
  have HB4 : Below w2.heap.size w2 (w3.alloc (.cells #[.int .i64 ta, .bool false, .slice v'.rs v'.l.length v'.rc, .slice gs' L'.length gc'] 56)) := HD.alloc HD.size _
  refine hK.out _ _ (HKZ.out _ HB4) (fun hHeld => ?_)
  clear hK K
  refine sm ?_
  refine wpAnyZ_one (i := 9) rfl (by kernel_rfl) (fun K hK => ?_)
  have R4 := ER2.call HB4
  have hfl : L'.map roG = x'.flds := by rw [← EX']; rfl
  have hvl : roG v' = x'.vars := by rw [← EX']; rfl
  have hnn : x'.none = false := by rw [← EX']; rfl
  have ln1 : x'.vars.length = v'.l.length := by rw [← hvl]; simp [roG]
  have ln2 : x'.flds.length = L'.length := by rw [← hfl]; simp
  have EDI : EdIn (fun b => n ≤ b ∧ b ≠ sb ∧ (Value.slice es EL.length ec).ownBlock ≠ some b) (w3.alloc (.cells #[.int .i64 ta, .bool false, .slice v'.rs v'.l.length v'.rc, .slice gs' L'.length gc'] 56)) ⟨ta, x', v'.rs, v'.rc, gs', gc'⟩ := by
    have h1 := (G2.call HB4).on false
    rw [EX'] at h1
    have c1 := G2.vcap false
    have c2 := G2.fcap' false
    rw [EX'] at c1 c2
    refine ⟨h1.mono fun b hb _ => ?_, c1, c2⟩
    rcases hb with hb | hb
    · exact ⟨hb.1, hb.2.1, hb.2.2.2⟩
    · exact ⟨by omega, by omega, fun e => by have := (ownsI_lt ER1.own e).1; omega⟩
  refine step_append_any _ rfl _ _ 29 rfl n 56 tk (.agg #[.int .i64 0, .bool false, .slice none 0 0, .slice none 0 0]) 4 64 Tryz.underlying29 hik hik0 hik1 hik2 rfl (by decide) _ _ _ rfl R4.own (some ⟨w3.heap.size, 0, none⟩) 1 1 (edCells ⟨ta, x', v'.rs, v'.rc, gs', gc'⟩) rfl rfl (fun h => by cases h) (news4 w3 ⟨ta, x', v'.rs, v'.rc, gs', gc'⟩ #[.int .i64 ta, .bool false, .slice v'.rs v'.l.length v'.rc, .slice gs' L'.length gc'] _ (by simp only [edCells, hnn, ln1, ln2])) (edCells_one _) (by unfold maxLen; omega) (by omega) (by rw [World.size_alloc]; have := HD.size; omega) ?_
  intro ev' w5 hown hgrow hat
  have R5 := R4.grown EDI hown hgrow hat (by rw [World.size_alloc]; have := HD.size; omega)
  have HB5 : ∀ b, b < w2.heap.size → (Value.slice es EL.length ec).ownBlock ≠ some b → w5.heap[b]? = w2.heap[b]? := fun b hb hne => by rw [hgrow.block b (by rw [World.size_alloc]; have := HD.size; omega) (fun e => hne e.symm)]; exact HB4.block b hb
  have HL5 : Below sb w2 w5 := (HB4.mono (Nat.le_of_lt zs2)).grown hgrow (by rw [World.size_alloc]; have := HD.size; omega) (fun k hk => by have := (ownsI_lt R4.own hk).2; omega)
  obtain ⟨es', ec', rfl, -, -⟩ := R5.form
  rw [show (EL ++ [(⟨ta, x', v'.rs, v'.rc, gs', gc'⟩ : Ed)]).length = EL.length + 1 by simp] at R5
  have S5 : Cells w5 sb (stpC i V F s c cap at_ x vs vc fs fc (.slice es EL.length ec) wr fl) := S2.same (HB5 sb zs2 ER1.off) HL5.size
  have X5 : Cells w5 xb [.bool false, .slice v'.rs v'.l.length v'.rc, .slice gs' L'.length gc'] := A2.same (HB5 xb A2.2.1 (fun e => by have := (ownsI_lt ER1.own e).1; omega)) HL5.size
  refine hK.out _ _ ⟨S5.1 13 _ rfl, X5.1 0 _ rfl, X5.1 1 _ rfl, X5.1 2 _ rfl⟩ (fun hHeld => ?_)
  clear hK K hown hgrow hat HB4 R4 EDI
  refine sm ?_
  refine tZ 10 ?_ ?_;refine sm ?_
  refine tZ 11 ?_ ?_;refine sm ?_
  refine wpAnyZ_last (i := 12) rfl (by kernel_rfl) (by kernel_rfl) (fun K hK => ?_)
  have s13 := S5.1 13 _ rfl
  have f13 := S5.2.2 13
  go_simp
  refine hK.out _ _ ?_
  clear hK K
  refine sm ?_
  refine wpAnyZ_done (by kernel_rfl) ?_ _
  first | go_end0 | refine bodyPost_ret (results_none rfl _ _ _) rfl ?_
  refine ⟨rfl, ⟨_, ⟨ta, x', v'.rs, v'.rc, gs', gc'⟩, S5.put 13 (by simp [stpC]) _, R5.same (fun b hb hne _ => Below.heap_setCell _ _ _ _ hne) (by simp [World.setCell]), rfl⟩, ((B2.mono (Nat.le_of_lt zsb)).trans HL5).setCell (Nat.le_refl _) _⟩
theorem cf_goto (a : Array Value) (wx : World) : Sem.run Tryz.prog (callFunc 50 a) wx = .ok (.enter 50 a) wx := by kernel_rfl
theorem edge_goto (n : Nat) (ta : Int) (x' : Pic) : type_of% (edge_f 50 #[] (fun p => #[p]) (fun _ => rfl) cf_goto n ta x') := edge_f 50 #[] (fun p => #[p]) (fun _ => rfl) cf_goto n ta x'
theorem cf_print (a : Array Value) (wx : World) : Sem.run Tryz.prog (callFunc 52 a) wx = .ok (.enter 52 a) wx := by kernel_rfl
theorem edge_print (n : Nat) (ta : Int) (x' : Pic) : type_of% (edge_f 52 #[] (fun p => #[p]) (fun _ => rfl) cf_print n ta x') := edge_f 52 #[] (fun p => #[p]) (fun _ => rfl) cf_print n ta x'
end
end Go.Proofs.YtmapdpcfanecdabGreat
