/- The document's step: a test, where it is false. -/
import Derived.Test.YtmapdpcfanecdabGreatKstpxp36
import Derived.Test.YtmapdpcfanecdabGreatKstpxp01
import Derived.Deep.DeepCutAuto
import Derived.Deep.CutBlock
import Derived.Deep.RegionHeldLaw
import Derived.Test.YtmapdpcfanecdabGreatKstpxp34
import Derived.Deep.RegionHeld
import Derived.WalkKit
import Derived.WalkSpells
import Derived.WalkLawsBesides
import Derived.Handy
import Derived.Test.YtmapdpcfanecdabGreatKstpxp32
import Derived.Test.YtmapdpcfanecdabGreatKstpxp09
import Derived.Test.YtmapdpcfanecdabGreatKstpxp28
set_option linter.unusedSimpArgs false
set_option linter.unusedVariables false
namespace Go.Proofs.YtmapdpcfanecdabGreat
section
set_option maxHeartbeats 2000000
set_option maxRecDepth 10000
open Go.RowKit
attribute [local go_sem ↓] Go.wp_at_zero Go.wp_at_succ

theorem ckPics_two {V F : Int} {c : List Ins} {x y : Pic} (h : ckPics V F c [x, y] = 0) : ckProg V F c = 0 ∧ ckPic V F c x = 0 ∧ ckPic V F c y = 0 := by
 have h0 : ckProg V F c = 0 := by
  unfold ckPics at h
  split at h
  ·assumption
  ·exact h
 have hl : ckPicL V F c [x, y] = 0 := by
  unfold ckPics at h
  rw [if_pos h0] at h
  exact h
 have hcx : ckPic V F c x = 0 := by
  unfold ckPicL at hl
  split at hl
  ·assumption
  ·exact hl
 refine ⟨h0, hcx, ?_⟩
 unfold ckPicL at hl
 rw [if_pos hcx] at hl
 unfold ckPicL at hl
 split at hl
 ·assumption
 ·exact hl
theorem made_join {V F : Int} {s : Option Addr} {c : List Ins} {cap : Nat} (h0 : ckProg V F c = 0) : ∀ (g : Gs) (ss : Option Addr) (gc : Nat) (h : Gs) (st : Option Addr) (hc : Nat) (wx : World), CodeAt wx s c → IntsAt wx ss g.s → g.s.length ≤ gc → gc ≤ maxLen → IntsAt wx st h.s → h.s.length ≤ hc → hc ≤ maxLen → ckGs c g = 0 → ckGs c h = 0 → Calls Tryz.prog 82 #[pv V F s c cap, gv g ss gc, gv h st hc] wx fun e w' => (∃ js jc, e = .returned (.tuple #[gv (togGs joinSp g h) js jc, .int .i64 0]) ∧ IntsAt w' js (togGs joinSp g h).s ∧ (togGs joinSp g h).s.length ≤ jc ∧ jc ≤ maxLen ∧ ∀ a, js = some a → wx.heap.size ≤ a.block) ∧ Below wx.heap.size wx w' := by
 intro g ss gc h st hc wx hcd hs h1 h2 ht h3 h4 hg0 hh0
 have hck := ckAllG_pair h0 hg0 hh0
 obtain ⟨hg, hh⟩ := ckAllG_sites hck
 have l1 := rising_len hg.2 hg.1
 have l2 := rising_len hh.2 hh.1
 refine (joinG_ok V F s c cap g ss gc h st hc wx hcd hs h1 h2 ht h3 h4 hck (by simp; omega)).mono ?_
 rintro e w' ⟨v, rfl, hown, hb⟩
 obtain ⟨js, jc, rfl, hi, k1, k2, hf⟩ := IntsAt.own hown
 exact ⟨⟨js, jc, rfl, hi, k1, k2, hf⟩, hb⟩
theorem togP_join (V F : Int) (s : Option Addr) (c : List Ins) (cap : Nat) (x : Pic) (vs1 : Option Addr) (vc1 : Nat) (fs1 : Option Addr) (fc1 : Nat) (y : Pic) (vs2 : Option Addr) (vc2 : Nat) (fs2 : Option Addr) (fc2 : Nat) (w : World) (hcd : CodeAt w s c) (hx : PicAt w x vs1 fs1) (h1 : x.vars.length ≤ vc1 ∧ vc1 ≤ maxLen) (h2 : x.flds.length ≤ fc1 ∧ fc1 ≤ maxLen) (hy : PicAt w y vs2 fs2) (h3 : y.vars.length ≤ vc2 ∧ vc2 ≤ maxLen) (h4 : y.flds.length ≤ fc2 ∧ fc2 ≤ maxLen) : Calls Tryz.prog 113 #[pv V F s c cap, xv x vs1 vc1 fs1 fc1, xv y vs2 vc2 fs2 fc2, .func (.func 82) #[] #[]] w fun e w' => PicS w.heap.size w' e (if ckPics V F c [x, y] = 0 then joinPic (togGs joinSp) x y else zeroPic) (ckPics V F c [x, y]) ∧ Below w.heap.size w w' := by
 by_cases h : ckPics V F c [x, y] = 0
 ·obtain ⟨h0, hcx, hcy⟩ := ckPics_two h
  rw [if_pos h, h]
  exact together_ok_join V F s c cap x vs1 vc1 fs1 fc1 y vs2 vc2 fs2 fc2 w hcd hx h1 h2 hy h3 h4 h hcx hcy h0 (fun g hg => tog_self joinSp_self (ckProg_lim h0).2.2 hg) (made_join h0)
 ·rw [if_neg h]
  refine (together_err_join V F s c cap x vs1 vc1 fs1 fc1 y vs2 vc2 fs2 fc2 w hcd hx h1 h2 hy h3 h4 h).mono ?_
  rintro e w1 ⟨rfl, hb⟩
  exact ⟨⟨⟨none, 0, []⟩, none, 0, [], rfl, rfl, picG_zero _ _⟩, hb⟩
theorem joinPU (V F : Int) (s : Option Addr) (c : List Ins) (cap : Nat) (x : Pic) (vs1 : Option Addr) (vc1 : Nat) (fs1 : Option Addr) (fc1 : Nat) (y : Pic) (vs2 : Option Addr) (vc2 : Nat) (fs2 : Option Addr) (fc2 : Nat) (w : World) (hcd : CodeAt w s c) (hx : PicAt w x vs1 fs1) (h1 : x.vars.length ≤ vc1 ∧ vc1 ≤ maxLen) (h2 : x.flds.length ≤ fc1 ∧ fc1 ≤ maxLen) (hy : PicAt w y vs2 fs2) (h3 : y.vars.length ≤ vc2 ∧ vc2 ≤ maxLen) (h4 : y.flds.length ≤ fc2 ∧ fc2 ≤ maxLen) : Calls Tryz.prog 87 #[pv V F s c cap, xv x vs1 vc1 fs1 fc1, xv y vs2 vc2 fs2 fc2] w fun e w' => PicS w.heap.size w' e (if ckPics V F c [x, y] = 0 then joinPic (togGs joinSp) x y else zeroPic) (ckPics V F c [x, y]) ∧ Below w.heap.size w w' := by
 have B0 : Below w.heap.size w ((((w.alloc (.cells #[.int .i64 V, .int .i64 F, .slice s c.length cap] 24)).alloc (.cells #[.bool x.none, .slice vs1 x.vars.length vc1, .slice fs1 x.flds.length fc1] 28)).alloc (.cells #[.bool y.none, .slice vs2 y.vars.length vc2, .slice fs2 y.flds.length fc2] 28)).alloc (.cells #[.bool false, .slice none 0 0, .slice none 0 0] 28)) := by go_grown
 have Z0 := X3.new (((w.alloc (.cells #[.int .i64 V, .int .i64 F, .slice s c.length cap] 24)).alloc (.cells #[.bool x.none, .slice vs1 x.vars.length vc1, .slice fs1 x.flds.length fc1] 28)).alloc (.cells #[.bool y.none, .slice vs2 y.vars.length vc2, .slice fs2 y.flds.length fc2] 28)) 28 (.bool false) (.slice none 0 0) (.slice none 0 0)
 rw [World.size_alloc, World.size_alloc, World.size_alloc] at Z0
 have HT := hideH (togP_join V F s c cap x vs1 vc1 fs1 fc1 y vs2 vc2 fs2 fc2 ((((w.alloc (.cells #[.int .i64 V, .int .i64 F, .slice s c.length cap] 24)).alloc (.cells #[.bool x.none, .slice vs1 x.vars.length vc1, .slice fs1 x.flds.length fc1] 28)).alloc (.cells #[.bool y.none, .slice vs2 y.vars.length vc2, .slice fs2 y.flds.length fc2] 28)).alloc (.cells #[.bool false, .slice none 0 0, .slice none 0 0] 28)) (hcd.below B0 (Nat.le_refl _)) (hx.below B0 (Nat.le_refl _)) h1 h2 (hy.below B0 (Nat.le_refl _)) h3 h4)
 clear hcd hx hy
 generalize (if ckPics V F c [x, y] = 0 then joinPic (togGs joinSp) x y else zeroPic) = z at *
 generalize ckPics V F c [x, y] = ce at *
 go_enter Tryz.func87, Tryz.ntmps87
 go_wp2_with (go_at_call 113; fail)
 refine HT.out.mono ?_
 rintro e w1 ⟨⟨⟨us, uc, vl⟩, gs, gc, L, hZ, rfl, PV⟩, hb1⟩
 have HZZ := hideH hZ
 clear hZ
 have Z1 := Z0.call hb1
 have B1 := B0.trans (hb1.mono B0.size)
 clear HT hb1 B0 Z0
 obtain ⟨⟨z0, z1, z2⟩, zz, zf⟩ := id Z1
 have f0 := zf 0
 have f1 := zf 1
 have f2 := zf 2
 clear zf
 have e3 : ((((w.alloc (.cells #[.int .i64 V, .int .i64 F, .slice s c.length cap] 24)).alloc (.cells #[.bool x.none, .slice vs1 x.vars.length vc1, .slice fs1 x.flds.length fc1] 28)).alloc (.cells #[.bool y.none, .slice vs2 y.vars.length vc2, .slice fs2 y.flds.length fc2] 28)).alloc (.cells #[.bool false, .slice none 0 0, .slice none 0 0] 28)).heap.size = w.heap.size + 1 + 1 + 1 + 1 := by simp
 rw [e3] at PV
 have HPV := hideH PV
 clear PV e3
 go_wp2
 refine bodyPost_ret (v := .tuple #[.agg #[.bool z.none, .slice us vl.length uc, .slice gs L.length gc], .int .i64 ce]) (by simp [results, Tryz.results87, go_sem, z0, z1, z2]) rfl ⟨⟨⟨us, uc, vl⟩, gs, gc, L, HZZ.out, rfl, ((HPV.out.same (fun b hb _ => ?_) (by simp [World.setCell])).mono fun b hb _ => by omega).down (by omega)⟩, ?_⟩
 ·rw [Below.heap_setCell _ _ _ _ (by simp only; omega), Below.heap_setCell _ _ _ _ (by simp only; omega), Below.heap_setCell _ _ _ _ (by simp only; omega)]
 ·exact ((B1.setCell (by simp only; omega) _).setCell (by simp only; omega) _).setCell (by simp only; omega) _
end
section
set_option maxHeartbeats 8000000
set_option maxRecDepth 100000
open Go.RowKit
attribute [local go_sem ↓] Go.wp_at_zero Go.wp_at_succ

theorem Tryz.info_edge : (Tryz.prog.info? 56).map (fun i => (i.zero, i.size, i.bytes)) = some (some (.agg #[.int .i64 0, .bool false, .slice none 0 0, .slice none 0 0]), 4, 64) := by kernel_rfl
/-- A change of a picture, from a world on. -/
def ChangeC (fn : Nat) (ar : Value → Array Value) (n sb : Nat) (eb : Option Nat) (w : World) (x x' : Pic) : Prop := ∀ wx xb v gs gc L, Below w.heap.size w wx → ClPre n sb eb w.heap.size wx xb v gs gc L x → Calls Tryz.prog fn (ar (.pointer (some ⟨xb, 0, none⟩))) wx fun e w' => e = .returned (.tuple #[]) ∧ (∃ v' gs' gc' L', ClPre n sb eb w.heap.size w' xb v' gs' gc' L' x') ∧ Below w.heap.size wx w'
/-- One edge in a block of its own, as what is appended. -/
theorem news4 (w : World) (e : Ed) (cs : Array Value) (t : TypeId) (hcs : cs.toList = edCells e) : ∀ ad, some (⟨w.heap.size, 0, none⟩ : Addr) = some ad → ∀ j u, (edCells e)[j]? = some u → (w.alloc (.cells cs t)).cell? (ad.add j) = some u := by
  intro ad e1 j u hj
  cases e1
  rw [Addr.add_lit, Nat.zero_add]
  rw [← hcs] at hj
  simpa [go_sem] using hj
theorem nonePic_at (w : World) : PicAt w nonePic none none := ⟨fun i hi => absurd hi (by simp [nonePic]), fun i hi => absurd hi (by simp [nonePic])⟩
theorem ckPics_none {V F : Int} {c : List Ins} {x : Pic} (h0 : ckProg V F c = 0) (hx : ckPic V F c x = 0) : ckPics V F c [x, nonePic] = 0 := by
  unfold ckPics
  rw [if_pos h0]
  unfold ckPicL
  rw [if_pos hx]
  unfold ckPicL
  rw [if_pos (show ckPic V F c nonePic = 0 from rfl)]
  rfl
theorem joinPic_none {j : Gs → Gs → Gs} {x : Pic} (hn : x.none = false) : joinPic j x nonePic = x := by
  unfold joinPic
  rw [if_neg (by rw [hn]; decide), if_pos (show nonePic.none = true from rfl)]
/-- A picture stays behind a store into a block in which it does not lie. -/
theorem picG_off {T : Nat → Prop} {H xb : Nat} {w w' : World} {v : Ro} {gs : Option Addr} {gc : Nat} {L : List Ro} (h : PicG T H w v gs gc L) (hT : ∀ b, T b → b ≠ xb) (ho : Off v (Value.slice gs L.length gc).ownBlock L xb) (hs : ∀ b, b ≠ xb → w'.heap[b]? = w.heap[b]?) (hz : w.heap.size ≤ w'.heap.size) : PicG T H w' v gs gc L :=
  ⟨h.vars.same fun b hb => hs b fun e => ho.1 (by rw [hb, e]), ownsI_same h.flds fun b hb => hs b fun e => ho.2.1 (by rw [hb, e]), fun r hr => (h.rows r hr).same fun b hb => hs b fun e => ho.2.2 r hr (by rw [hb, e]),
   fun g hg => ⟨(h.sv g hg).1.same (fun b hb _ => hs b (hT b hb.1)) hz, (h.sv g hg).2⟩, fun r hr g hg => ⟨(h.sf r hr g hg).1.same (fun b hb _ => hs b (hT b hb.1)) hz, (h.sf r hr g hg).2⟩, h.dv, h.df, h.dr⟩
theorem prf_26a11f {p : Prop} (h : p := by
  refine wpAnyH_ready (rs := [14]) (by kernel_rfl) (by simp) ?_
  refine AllReadyH.cons rfl (fun K hK => ?_) AllReadyH.nil
  have r0 := A3.1 0 _ rfl
  have r1 := A3.1 1 _ rfl
  have r2 := A3.1 2 _ rfl
  have f0 := A3.2.2 0
  have f1 := A3.2.2 1
  have f2 := A3.2.2 2
  go_simp
  have A4 : Cells (((w3.setCell ⟨xb, 0, none⟩ (.bool false)).setCell ⟨xb, 1, none⟩ (.slice v.rs v.l.length v.rc)).setCell ⟨xb, 2, none⟩ (.slice gs L0.length gc)) xb [.bool false, .slice v.rs v.l.length v.rc, .slice gs L0.length gc] := ((A3.put 0 (by simp) _).put 1 (by simp) _).put 2 (by simp) _
  have B4 : Below w.heap.size w (((w3.setCell ⟨xb, 0, none⟩ (.bool false)).setCell ⟨xb, 1, none⟩ (.slice v.rs v.l.length v.rc)).setCell ⟨xb, 2, none⟩ (.slice gs L0.length gc)) := ((B3.setCell (by simp only; omega) _).setCell (by simp only; omega) _).setCell (by simp only; omega) _
  have hch : ∀ q, q ≠ xb → (((w3.setCell ⟨xb, 0, none⟩ (.bool false)).setCell ⟨xb, 1, none⟩ (.slice v.rs v.l.length v.rc)).setCell ⟨xb, 2, none⟩ (.slice gs L0.length gc)).heap[q]? = w3.heap[q]? := fun q hq => by rw [Below.heap_setCell _ _ _ _ hq, Below.heap_setCell _ _ _ _ hq, Below.heap_setCell _ _ _ _ hq]
  have hcz : w3.heap.size ≤ (((w3.setCell ⟨xb, 0, none⟩ (.bool false)).setCell ⟨xb, 1, none⟩ (.slice v.rs v.l.length v.rc)).setCell ⟨xb, 2, none⟩ (.slice gs L0.length gc)).heap.size := by simp [World.setCell]
  have G4 : PicG (ClT n sb (Value.slice es EL.length ec).ownBlock xb) w.heap.size (((w3.setCell ⟨xb, 0, none⟩ (.bool false)).setCell ⟨xb, 1, none⟩ (.slice v.rs v.l.length v.rc)).setCell ⟨xb, 2, none⟩ (.slice gs L0.length gc)) v gs gc L0 := picG_off G3 (fun b hb => hb.2.2.1) OF3 hch hcz
  refine hK.out _ _ (HKZ.out _ B4) (fun hHeld4 => ?_)
  clear hK K r0 r1 r2 f0 f1 f2 A3 B3 G3 hch hcz
  refine sm ?_
  generalize (((w3.setCell ⟨xb, 0, none⟩ (.bool false)).setCell ⟨xb, 1, none⟩ (.slice v.rs v.l.length v.rc)).setCell ⟨xb, 2, none⟩ (.slice gs L0.length gc)) = w4 at *
  have OF4 := OF3
  have EX4 := EX3
  clear OF3 EX3
  refine tH 15 ?_ ?_;refine sm ?_
  refine wpAnyH_done (by kernel_rfl) ?_ _
  first | refine hK1 _ _ (Met.intro (hJ1 _ _ ?_)) | refine Met.intro (hJ1 _ _ ?_) | refine hJ1 _ _ ?_
  (repeat apply Exists.intro)
  refine ⟨?_, rfl⟩
  exact ⟨xb, v, gs, gc, L0, rfl, rfl, ⟨zxb, A4, G4, OF4, EX4.out.symm⟩, B4⟩) : p := h
theorem edge_f (fn : Nat) (cs : Array Value) (ar : Value → Array Value) (har : ∀ p, #[p] ++ cs = ar p) (hf : ∀ args wx, Sem.run Tryz.prog (callFunc fn args) wx = .ok (.enter fn args) wx) (n : Nat) (ta : Int) (x' : Pic) (EL : List Ed) (es : Option Addr) (ec : Nat) (sb : Nat) (i : Ins) (V F : Int) (s : Option Addr) (c : List Ins) (cap : Nat) (at_ : Int) (x : Pic) (vs : Option Addr) (vc : Nat) (fs : Option Addr) (fc : Nat) (wr fl : Bool) (w0 w : World) (hS : Cells w sb (stpC i V F s c cap at_ x vs vc fs fc (.slice es EL.length ec) wr fl)) (hc0 : CodeAt w0 s c) (hx0 : PicAt w0 x vs fs) (hz0 : w0.heap.size ≤ sb) (hB0 : Below w0.heap.size w0 w) (K : SCtx V F c x vc fc i at_) (hn : n = sb) (hER : ERow n sb w (.slice es EL.length ec) EL) (hL2 : EL.length ≤ 10)
    (hCL : ChangeC fn ar n sb (Value.slice es EL.length ec).ownBlock w x x') :
    Calls Tryz.prog 49 #[.pointer (some ⟨sb, 0, none⟩), .int .i64 ta, .func (.func fn) #[] cs] w fun e w' => e = .returned (.tuple #[]) ∧ (∃ ev' q, Cells w' sb (stpC i V F s c cap at_ x vs vc fs fc ev' wr fl) ∧ ERow n sb w' ev' (EL ++ [q]) ∧ edG q = ⟨ta, x'⟩) ∧ Below sb w w' := by
  obtain ⟨tk, hik, hik0, hik1, hik2⟩ := info_parts Tryz.info_edge
  have hnx : x.none = false := K.kx.none
  have hck : ckPic V F c x = 0 := K.kx.ck
  have HJN : Hid (∀ wx, Below w.heap.size w wx → Calls Tryz.prog 87 #[pv V F s c cap, .agg #[.bool false, .slice vs x.vars.length vc, .slice fs x.flds.length fc], .agg #[.bool true, .slice none 0 0, .slice none 0 0]] wx fun e w' => (∃ v gs gc L0, x = picOf false v L0 ∧ e = .returned (.tuple #[.agg #[.bool false, .slice v.rs v.l.length v.rc, .slice gs L0.length gc], .int .i64 0]) ∧ PicG (fun b => wx.heap.size ≤ b) wx.heap.size w' v gs gc L0) ∧ Below wx.heap.size wx w') := fun wx hb => by
    have hbb := hB0.trans (hb.mono hB0.size)
    have h := joinPU V F s c cap x vs vc fs fc nonePic none 0 none 0 wx (hc0.below hbb (Nat.le_refl _)) (hx0.below hbb (Nat.le_refl _)) K.cv K.cf (nonePic_at wx) ⟨Nat.le_refl _, Nat.zero_le _⟩ ⟨Nat.le_refl _, Nat.zero_le _⟩
    rw [ckPics_none K.h0 hck, if_pos rfl, joinPic_none hnx] at h
    have exv : xv x vs vc fs fc = .agg #[.bool false, .slice vs x.vars.length vc, .slice fs x.flds.length fc] := by unfold xv; rw [hnx]
    rw [exv] at h
    refine h.mono ?_
    rintro e w' ⟨⟨v, gs, gc, L0, h1, h2, h3⟩, h4⟩
    rw [hnx] at h1 h2
    exact ⟨⟨v, gs, gc, L0, h1, h2, h3⟩, h4⟩
  have HKZ : Hid (∀ wx, Below w.heap.size w wx → (wx.cell? ⟨sb, 6, none⟩ = some (.int .i64 V) ∧ wx.cell? ⟨sb, 7, none⟩ = some (.int .i64 F) ∧ wx.cell? ⟨sb, 8, none⟩ = some (.slice s c.length cap)) ∧ (wx.cell? ⟨sb, 10, none⟩ = some (.bool false) ∧ wx.cell? ⟨sb, 11, none⟩ = some (.slice vs x.vars.length vc) ∧ wx.cell? ⟨sb, 12, none⟩ = some (.slice fs x.flds.length fc))) := fun wx hb => by
    have h := hS.call hb
    exact ⟨⟨h.1 6 _ rfl, h.1 7 _ rfl, h.1 8 _ rfl⟩, by rw [← hnx]; exact h.1 10 _ rfl, h.1 11 _ rfl, h.1 12 _ rfl⟩
  have HSS := hideH hS
  have HCL := hideH hCL
  have zsb := hS.2.1
  clear hS hc0 hx0 hnx hck hCL
  go_enter Tryz.func49, Tryz.ntmps49
  go_upto_region 0 with fail
  go_cut [6, 7] (fun t6 t7 wc => ∃ xb v gs gc L0, t6 = .pointer (some ⟨xb, 0, none⟩) ∧ t7 = .int .i64 0 ∧ ClPre n sb (Value.slice es EL.length ec).ownBlock w.heap.size wc xb v gs gc L0 x ∧ Below w.heap.size w wc)
  case first =>
    rename_i J1 K1 hJ1 hK1
    have B1 : Below w.heap.size w w.drew := (Below.refl _ _).drew
    refine wp_region_held_drew (S := (fun wx => (wx.cell? ⟨sb, 6, none⟩ = some (.int .i64 V) ∧ wx.cell? ⟨sb, 7, none⟩ = some (.int .i64 F) ∧ wx.cell? ⟨sb, 8, none⟩ = some (.slice s c.length cap)) ∧ (wx.cell? ⟨sb, 10, none⟩ = some (.bool false) ∧ wx.cell? ⟨sb, 11, none⟩ = some (.slice vs x.vars.length vc) ∧ wx.cell? ⟨sb, 12, none⟩ = some (.slice fs x.flds.length fc)))) (by kernel_rfl) (HKZ.out _ B1) (fun hHeld => ?_)
    generalize w.drew = w1 at *
    refine tH 0 ?_ ?_;refine sm ?_
    refine tH 1 ?_ ?_;refine sm ?_
    refine tH 2 ?_ ?_;refine sm ?_
    refine tH 3 ?_ ?_;refine sm ?_
    refine tH 4 ?_ ?_;refine sm ?_
    refine tH 5 ?_ ?_;refine sm ?_
    refine tH 6 ?_ ?_;refine sm ?_
    refine tH 7 ?_ ?_;refine sm ?_
    refine tH 8 ?_ ?_;refine sm ?_
    refine wpAnyH_ready (rs := [9, 13]) (by kernel_rfl) (by simp) ?_
    refine AllReadyH.cons rfl (fun K hK => ?_) (AllReadyH.cons rfl (fun K hK => ?_) AllReadyH.nil)
    · go_simp
      refine (HJN.out w1 B1).mono ?_
      rintro e w2 ⟨⟨v, gs, gc, L0, EX, rfl, PG⟩, hb2⟩
      have B2 := B1.trans (hb2.mono (B1.size))
      have EX2 := hideH EX
      clear EX
      have P2 : PicG (fun b => w.heap.size ≤ b) w.heap.size w2 v gs gc L0 := (PG.mono fun b hb _ => by have := B1.size; omega).down B1.size
      clear PG
      refine hK.out _ _ (HKZ.out _ B2) (fun hHeld2 => ?_)
      clear hK K hb2  B1
      refine sm ?_
      refine tH 10 ?_ ?_;refine sm ?_
      refine tH 11 ?_ ?_;refine sm ?_
      refine tH 12 ?_ ?_;refine sm ?_
      refine wpAnyH_ready (rs := [13]) (by kernel_rfl) (by simp) ?_
      refine AllReadyH.cons rfl (fun K hK => ?_) AllReadyH.nil
      go_simp
      have hb3 : Below w2.heap.size w2 (w2.alloc (.cells #[.bool false, .slice none 0 0, .slice none 0 0] 28)) := by go_grown
      have B3 := B2.trans (hb3.mono (B2.size))
      have A3 : Cells (w2.alloc (.cells #[.bool false, .slice none 0 0, .slice none 0 0] 28)) w2.heap.size [.bool false, .slice none 0 0, .slice none 0 0] := Cells.new w2 28 [.bool false, .slice none 0 0, .slice none 0 0]
      have zxb := B2.size
      have G3 : PicG (ClT n sb (Value.slice es EL.length ec).ownBlock w2.heap.size) w.heap.size (w2.alloc (.cells #[.bool false, .slice none 0 0, .slice none 0 0] 28)) v gs gc L0 := (P2.mono fun b hb hlt => ⟨by omega, by omega, Nat.ne_of_lt hlt, fun e => by have := (ownsI_lt hER.own e).1; omega⟩).call hb3
      have OF3 : Off v (Value.slice gs L0.length gc).ownBlock L0 w2.heap.size := ⟨fun e => Nat.lt_irrefl _ (P2.vars.lt e).1, fun e => Nat.lt_irrefl _ (ownsI_lt P2.flds e).1, fun r hr e => Nat.lt_irrefl _ ((P2.rows r hr).lt e).1⟩
      have EX3 := EX2
      clear P2 EX2
      clear B2
      refine hK.out _ _ (HKZ.out _ B3) (fun hHeld3 => ?_)
      clear hK K hb3 
      refine sm ?_
      generalize w2.alloc (.cells #[.bool false, .slice none 0 0, .slice none 0 0] 28) = w3 at *
      generalize w2.heap.size = xb at *
      exact prf_26a11f
    · go_simp
      have hb2 : Below w1.heap.size w1 (w1.alloc (.cells #[.bool false, .slice none 0 0, .slice none 0 0] 28)) := by go_grown
      have B2 := B1.trans (hb2.mono (B1.size))
      have A2 : Cells (w1.alloc (.cells #[.bool false, .slice none 0 0, .slice none 0 0] 28)) w1.heap.size [.bool false, .slice none 0 0, .slice none 0 0] := Cells.new w1 28 [.bool false, .slice none 0 0, .slice none 0 0]
      have zxb := B1.size
      clear B1
      refine hK.out _ _ (HKZ.out _ B2) (fun hHeld2 => ?_)
      clear hK K hb2 
      refine sm ?_
      generalize w1.alloc (.cells #[.bool false, .slice none 0 0, .slice none 0 0] 28) = w2 at *
      generalize w1.heap.size = xb at *
      refine wpAnyH_ready (rs := [9]) (by kernel_rfl) (by simp) ?_
      refine AllReadyH.cons rfl (fun K hK => ?_) AllReadyH.nil
      go_simp
      refine (HJN.out w2 B2).mono ?_
      rintro e w3 ⟨⟨v, gs, gc, L0, EX, rfl, PG⟩, hb3⟩
      have A3 := A2.call hb3
      have B3 := B2.trans (hb3.mono (B2.size))
      have EX3 := hideH EX
      clear EX
      have G3 : PicG (ClT n sb (Value.slice es EL.length ec).ownBlock xb) w.heap.size w3 v gs gc L0 := ((PG.mono fun b hb _ => ⟨by have := B2.size; omega, by have := B2.size; omega, by have := A2.2.1; omega, fun e => by have := (ownsI_lt hER.own e).1; have := B2.size; omega⟩).down B2.size)
      have OF3 : Off v (Value.slice gs L0.length gc).ownBlock L0 xb := ⟨fun e => by have := (PG.vars.lt e).2; have := A2.2.1; omega, fun e => by have := (ownsI_lt PG.flds e).2; have := A2.2.1; omega, fun r hr e => by have := ((PG.rows r hr).lt e).2; have := A2.2.1; omega⟩
      clear PG
      refine hK.out _ _ (HKZ.out _ B3) (fun hHeld3 => ?_)
      clear hK K hb3 A2 B2
      refine sm ?_
      refine tH 10 ?_ ?_;refine sm ?_
      refine tH 11 ?_ ?_;refine sm ?_
      refine tH 12 ?_ ?_;refine sm ?_
      exact prf_26a11f
  obtain ⟨xb, v, gs, gc, L0, rfl, rfl, CP, B1⟩ := hcut
  generalize wc = w1 at *
  clear wc HKZ HJN
  go_wp2_with fail
  refine (HCL.out w1 xb v gs gc L0 B1 CP).mono ?_
  rintro e w2 ⟨rfl, ⟨v', gs', gc', L', CP'⟩, hb2⟩
  have B2 := B1.trans hb2
  have zxb := CP'.1
  have A2 := CP'.2.1
  have G2 := CP'.2.2.1
  have EX' := CP'.2.2.2.2
  have S2 := HSS.out.call B2
  have ER1 := hER
  have ER2 := hER.call B2
  have zs2 := S2.2.1
  have bz := B2.size
  clear CP CP' hb2 B1 HCL v gs gc L0
  have HKZ : Hid (∀ wx, Below w2.heap.size w2 wx → wx.cell? ⟨sb, 13, none⟩ = some (.slice es EL.length ec) ∧ (wx.cell? ⟨xb, 0, none⟩ = some (.bool false) ∧ wx.cell? ⟨xb, 1, none⟩ = some (.slice v'.rs v'.l.length v'.rc) ∧ wx.cell? ⟨xb, 2, none⟩ = some (.slice gs' L'.length gc'))) := fun wx hb => ⟨(S2.call hb).1 13 _ rfl, (A2.call hb).1 0 _ rfl, (A2.call hb).1 1 _ rfl, (A2.call hb).1 2 _ rfl⟩
  go_upto_region 2 with fail
  have HD : Below w2.heap.size w2 w2.drew := (Below.refl _ _).drew
  refine wp_region_z (S := (fun wx => wx.cell? ⟨sb, 13, none⟩ = some (.slice es EL.length ec) ∧ (wx.cell? ⟨xb, 0, none⟩ = some (.bool false) ∧ wx.cell? ⟨xb, 1, none⟩ = some (.slice v'.rs v'.l.length v'.rc) ∧ wx.cell? ⟨xb, 2, none⟩ = some (.slice gs' L'.length gc')))) [12] (by kernel_rfl) (HKZ.out _ HD) (fun hHeld => ?_)
  generalize w2.drew = w3 at *
  refine tZ 0 ?_ ?_;refine sm ?_
  refine tZ 1 ?_ ?_;refine sm ?_
  refine tZ 2 ?_ ?_;refine sm ?_
  refine tZ 3 ?_ ?_;refine sm ?_
  refine tZ 4 ?_ ?_;refine sm ?_
  refine tZ 5 ?_ ?_;refine sm ?_
  refine tZ 6 ?_ ?_;refine sm ?_
  refine tZ 7 ?_ ?_;refine sm ?_
  refine wpAnyZ_one (i := 8) rfl (by kernel_rfl) (fun K hK => ?_)
  go_simp
  have HB4 : Below w2.heap.size w2 (w3.alloc (.cells #[.int .i64 ta, .bool false, .slice v'.rs v'.l.length v'.rc, .slice gs' L'.length gc'] 56)) := HD.alloc HD.size _
  refine hK.out _ _ (HKZ.out _ HB4) (fun hHeld => ?_)
  clear hK K
  refine sm ?_
  refine wpAnyZ_one (i := 9) rfl (by kernel_rfl) (fun K hK => ?_)
  have R4 := ER2.call HB4
  have hfl : L'.map roG = x'.flds := by rw [← EX']; rfl
  have hvl : roG v' = x'.vars := by rw [← EX']; rfl
  have hnn : x'.none = false := by rw [← EX']; rfl
  have ln1 : x'.vars.length = v'.l.length := by rw [← hvl]; simp [roG]
  have ln2 : x'.flds.length = L'.length := by rw [← hfl]; simp
  have EDI : EdIn (fun b => n ≤ b ∧ b ≠ sb ∧ (Value.slice es EL.length ec).ownBlock ≠ some b) (w3.alloc (.cells #[.int .i64 ta, .bool false, .slice v'.rs v'.l.length v'.rc, .slice gs' L'.length gc'] 56)) ⟨ta, x', v'.rs, v'.rc, gs', gc'⟩ := by
    have h1 := (G2.call HB4).on false
    rw [EX'] at h1
    have c1 := G2.vcap false
    have c2 := G2.fcap' false
    rw [EX'] at c1 c2
    refine ⟨h1.mono fun b hb _ => ?_, c1, c2⟩
    rcases hb with hb | hb
    · exact ⟨hb.1, hb.2.1, hb.2.2.2⟩
    · exact ⟨by omega, by omega, fun e => by have := (ownsI_lt ER1.own e).1; omega⟩
  refine step_append_any _ rfl _ _ 29 rfl n 56 tk (.agg #[.int .i64 0, .bool false, .slice none 0 0, .slice none 0 0]) 4 64 Tryz.underlying29 hik hik0 hik1 hik2 rfl (by decide) _ _ _ rfl R4.own (some ⟨w3.heap.size, 0, none⟩) 1 1 (edCells ⟨ta, x', v'.rs, v'.rc, gs', gc'⟩) rfl rfl (fun h => by cases h) (news4 w3 ⟨ta, x', v'.rs, v'.rc, gs', gc'⟩ #[.int .i64 ta, .bool false, .slice v'.rs v'.l.length v'.rc, .slice gs' L'.length gc'] _ (by simp only [edCells, hnn, ln1, ln2])) (edCells_one _) (by unfold maxLen; omega) (by omega) (by rw [World.size_alloc]; have := HD.size; omega) ?_
  intro ev' w5 hown hgrow hat
  have R5 := R4.grown EDI hown hgrow hat (by rw [World.size_alloc]; have := HD.size; omega)
  have HB5 : ∀ b, b < w2.heap.size → (Value.slice es EL.length ec).ownBlock ≠ some b → w5.heap[b]? = w2.heap[b]? := fun b hb hne => by rw [hgrow.block b (by rw [World.size_alloc]; have := HD.size; omega) (fun e => hne e.symm)]; exact HB4.block b hb
  have HL5 : Below sb w2 w5 := (HB4.mono (Nat.le_of_lt zs2)).grown hgrow (by rw [World.size_alloc]; have := HD.size; omega) (fun k hk => by have := (ownsI_lt R4.own hk).2; omega)
  obtain ⟨es', ec', rfl, -, -⟩ := R5.form
  rw [show (EL ++ [(⟨ta, x', v'.rs, v'.rc, gs', gc'⟩ : Ed)]).length = EL.length + 1 by simp] at R5
  have S5 : Cells w5 sb (stpC i V F s c cap at_ x vs vc fs fc (.slice es EL.length ec) wr fl) := S2.same (HB5 sb zs2 ER1.off) HL5.size
  have X5 : Cells w5 xb [.bool false, .slice v'.rs v'.l.length v'.rc, .slice gs' L'.length gc'] := A2.same (HB5 xb A2.2.1 (fun e => by have := (ownsI_lt ER1.own e).1; omega)) HL5.size
  refine hK.out _ _ ⟨S5.1 13 _ rfl, X5.1 0 _ rfl, X5.1 1 _ rfl, X5.1 2 _ rfl⟩ (fun hHeld => ?_)
  clear hK K hown hgrow hat HB4 R4 EDI
  refine sm ?_
  refine tZ 10 ?_ ?_;refine sm ?_
  refine tZ 11 ?_ ?_;refine sm ?_
  refine wpAnyZ_last (i := 12) rfl (by kernel_rfl) (by kernel_rfl) (fun K hK => ?_)
  have s13 := S5.1 13 _ rfl
  have f13 := S5.2.2 13
  go_simp
  refine hK.out _ _ ?_
  clear hK K
  refine sm ?_
  refine wpAnyZ_done (by kernel_rfl) ?_ _
  first | go_end0 | refine bodyPost_ret (results_none rfl _ _ _) rfl ?_
  refine ⟨rfl, ⟨_, ⟨ta, x', v'.rs, v'.rc, gs', gc'⟩, S5.put 13 (by simp [stpC]) _, R5.same (fun b hb hne _ => Below.heap_setCell _ _ _ _ hne) (by simp [World.setCell]), rfl⟩, ((B2.mono (Nat.le_of_lt zsb)).trans HL5).setCell (Nat.le_refl _) _⟩
theorem cf_goto (a : Array Value) (wx : World) : Sem.run Tryz.prog (callFunc 50 a) wx = .ok (.enter 50 a) wx := by kernel_rfl
theorem edge_goto (n : Nat) (ta : Int) (x' : Pic) : type_of% (edge_f 50 #[] (fun p => #[p]) (fun _ => rfl) cf_goto n ta x') := edge_f 50 #[] (fun p => #[p]) (fun _ => rfl) cf_goto n ta x'
theorem cf_print (a : Array Value) (wx : World) : Sem.run Tryz.prog (callFunc 52 a) wx = .ok (.enter 52 a) wx := by kernel_rfl
theorem edge_print (n : Nat) (ta : Int) (x' : Pic) : type_of% (edge_f 52 #[] (fun p => #[p]) (fun _ => rfl) cf_print n ta x') := edge_f 52 #[] (fun p => #[p]) (fun _ => rfl) cf_print n ta x'
end
section
set_option maxHeartbeats 4000000
set_option maxRecDepth 10000
open Go.RowKit
attribute [local go_sem ↓] Go.wp_at_zero Go.wp_at_succ

theorem RoOwn.gu {w : World} {B : Nat} {r : Ro} (h : RoOwn w B r) {b : Nat} (hb : r.rs = some ⟨b, 0, none⟩) {k : Nat} (hk : k < r.l.length) : GuAt w b (k * 7) r.l[k].g r.l[k].ss r.l[k].cap := by
 obtain ⟨b', e, eb, _, hz⟩ := h.form (by omega)
 rw [hb] at e
 cases e
 have h1 : w.ownsRow B 61 7 (.slice (some ⟨b, 0, none⟩) r.l.length r.rc) r.l.length (rowCells r.l) := by rw [← hb]; exact h
 have hc : ∀ j, j < 7 → w.cell? ⟨b, k * 7 + j, none⟩ = (gcCells r.l[k])[j]? := fun j hj => by
  rw [← rowCells_get r.l k hk j hj]
  exact World.ownsRow.cellAt h1 _ (by omega)
 exact ⟨⟨hc 0 (by omega), hc 1 (by omega), hc 2 (by omega), hc 3 (by omega), hc 4 (by omega), hc 5 (by omega), hc 6 (by omega)⟩, hz⟩
theorem picOf_setV {n : Bool} {v : Ro} {L : List Ro} {k : Nat} {y : Gc} : picOf n ⟨v.rs, v.rc, v.l.set k y⟩ L = setVar (picOf n v L) (k : Int) y.g := by simp [picOf, roG, setVar, List.map_set]
/-- Where a new guess's sites lie, if they were there before the rows. -/
theorem gcIn_old {n sb H : Nat} {eb : Option Nat} {w0 w : World} {xb : Nat} {v : Ro} {gs : Option Addr} {gc : Nat} {L : List Ro} {y : Gc} (h : IntsIn (fun b => n ≤ b ∧ b ≠ sb ∧ eb ≠ some b) w0 y.ss y.g.s) (h1 : y.g.s.length ≤ y.cap) (h2 : y.cap ≤ maxLen) (hH : w0.heap.size ≤ H) (hb : Below w0.heap.size w0 w) (G : PicG (ClT n sb eb xb) H w v gs gc L) (hx : H ≤ xb) : GcIn (fun b => ClT n sb eb xb b ∧ Off v (Value.slice gs L.length gc).ownBlock L b) w y := by
 refine ⟨((h.mono (S' := fun b => (n ≤ b ∧ b ≠ sb ∧ eb ≠ some b) ∧ b < w0.heap.size) fun b hb hlt => ⟨hb, hlt⟩).call hb).mono fun b hb' _ => ⟨⟨hb'.1.1, hb'.1.2.1, by omega, hb'.1.2.2⟩, fun e => ?_, fun e => ?_, fun r hr e => ?_⟩, h1, h2⟩
 ·have := (G.vars.lt e).2; omega
 ·have := (ownsI_lt G.flds e).2; omega
 ·have := ((G.rows r hr).lt e).2; omega
theorem ch_goto (n sb : Nat) (eb : Option Nat) (w : World) (x : Pic) : ChangeC 50 (fun p => #[p]) n sb eb w x x := by
 intro wx xb v gs gc L hb hp
 have HP := hideH hp
 clear hp hb
 go_enter Tryz.func50, Tryz.ntmps50
 go_wp2
 first | go_end0 | refine bodyPost_ret (results_none rfl _ _ _) rfl ?_
 exact ⟨rfl, ⟨v, gs, gc, L, HP.out⟩, Below.refl _ _⟩
theorem ch_print (n sb : Nat) (eb : Option Nat) (w : World) (x : Pic) : ChangeC 52 (fun p => #[p]) n sb eb w x x := by
 intro wx xb v gs gc L hb hp
 have HP := hideH hp
 clear hp hb
 go_enter Tryz.func52, Tryz.ntmps52
 go_wp2
 first | go_end0 | refine bodyPost_ret (results_none rfl _ _ _) rfl ?_
 exact ⟨rfl, ⟨v, gs, gc, L, HP.out⟩, Below.refl _ _⟩
theorem ch_set (n sb : Nat) (eb : Option Nat) (i : Ins) (V F : Int) (s : Option Addr) (c : List Ins) (cap : Nat) (at_ : Int) (x : Pic) (vs : Option Addr) (vc : Nat) (fs : Option Addr) (fc : Nat) (ev : Value) (wr fl : Bool) (gb pb : Nat) (g : Gs) (ss : Option Addr) (gc : Nat) (w : World) (hS : Cells w sb (stpC i V F s c cap at_ x vs vc fs fc ev wr fl)) (hP : Cells w pb [.pointer (some ⟨sb, 0, none⟩)]) (hG : Cells w gb [.bool g.n, .bool g.sp.n, .int .i64 g.sp.lo, .int .i64 g.sp.hi, .bool g.t, .bool g.f, .slice ss g.s.length gc]) (hI : IntsIn (fun b => n ≤ b ∧ b ≠ sb ∧ eb ≠ some b) w ss g.s) (h1 : g.s.length ≤ gc) (h2 : gc ≤ maxLen) (hk : ∃ k : Nat, i.tgt = k ∧ k < x.vars.length) :
  ChangeC 90 (fun p => #[p, .pointer (some ⟨gb, 0, none⟩), .pointer (some ⟨pb, 0, none⟩)]) n sb eb w x (setVar x i.tgt g) := by
 intro wx xb v gs gcc L hb0 hp
 obtain ⟨zxb, A0, G0, OF, EX⟩ := hp
 have hdr : Below wx.heap.size wx wx.drew := (Below.refl _ _).drew
 have hb := hb0.drew
 have A := A0.call hdr
 have G := G0.call hdr
 clear hb0 A0 G0 hdr
 obtain ⟨k, ek, hkx⟩ := hk
 have hkv : k < v.l.length := by rw [← EX] at hkx; simpa [picOf, roG] using hkx
 obtain ⟨vb, evb, eb1, hvb, zvb⟩ := G.vars.form (by omega)
 have GU := G.vars.gu evb hkv
 have GI := gcIn_old (y := ⟨g, ss, gc⟩) hI h1 h2 (Nat.le_refl _) hb G zxb
 have GZ := G.setV evb hkv GI
 have TH := hideH (G.vars.thaw evb)
 have nxv : xb ≠ vb := fun e => OF.1 (by rw [eb1, e])
 have n0 : (0 : Int) ≤ (k : Int) := by omega
 have n1 : (k : Int) < (v.l.length : Int) := by omega
 have A1 := A.1 1 _ rfl
 rw [evb] at A1
 have S1 := (hS.call hb).1 1 _ rfl
 rw [ek] at S1
 have P1 := (hP.call hb).1 0 _ rfl
 have G7 := hG.call hb
 have HKZ : Hid (wx.drew.cell? ⟨xb, 1, none⟩ = some (.slice (some ⟨vb, 0, none⟩) v.l.length v.rc) ∧ wx.drew.cell? ⟨pb, 0, none⟩ = some (.pointer (some ⟨sb, 0, none⟩)) ∧ wx.drew.cell? ⟨sb, 1, none⟩ = some (.int .i64 (k : Int)) ∧ (wx.drew.cell? ⟨gb, 0, none⟩ = some (.bool g.n) ∧ wx.drew.cell? ⟨gb, 1, none⟩ = some (.bool g.sp.n) ∧ wx.drew.cell? ⟨gb, 2, none⟩ = some (.int .i64 g.sp.lo) ∧ wx.drew.cell? ⟨gb, 3, none⟩ = some (.int .i64 g.sp.hi) ∧ wx.drew.cell? ⟨gb, 4, none⟩ = some (.bool g.t) ∧ wx.drew.cell? ⟨gb, 5, none⟩ = some (.bool g.f) ∧ wx.drew.cell? ⟨gb, 6, none⟩ = some (.slice ss g.s.length gc))) := ⟨A1, P1, S1, G7.1 0 _ rfl, G7.1 1 _ rfl, G7.1 2 _ rfl, G7.1 3 _ rfl, G7.1 4 _ rfl, G7.1 5 _ rfl, G7.1 6 _ rfl⟩
 have HPOST : Hid (∃ v' gs' gc' L', ClPre n sb eb w.heap.size (set7 wx.drew vb k ⟨g, ss, gc⟩) xb v' gs' gc' L' (setVar x i.tgt g)) := by
  refine ⟨⟨v.rs, v.rc, v.l.set k ⟨g, ss, gc⟩⟩, gs, gcc, L, zxb, ?_, GZ, (Off.same (roB_set (by simp))).2 OF, ?_⟩
  ·simp only [List.length_set]
   exact A.same (heap_set7 nxv) (by rw [size_set7]; exact Nat.le_refl _)
  ·rw [picOf_setV, EX, ek]
 have HBEL : Hid (Below w.heap.size wx (set7 wx.drew vb k ⟨g, ss, gc⟩)) := below_set7 (Below.refl _ _).drew hvb
 clear A1 S1 P1 G7 GI GZ A G OF EX ek hS hP hG hI
 unfold set7 at HPOST HBEL
 go_enter Tryz.func90, Tryz.ntmps90
 go_upto_region 0 with fail
 refine wp_region_z (S := (fun wx => wx.cell? ⟨xb, 1, none⟩ = some (.slice (some ⟨vb, 0, none⟩) v.l.length v.rc) ∧ wx.cell? ⟨pb, 0, none⟩ = some (.pointer (some ⟨sb, 0, none⟩)) ∧ wx.cell? ⟨sb, 1, none⟩ = some (.int .i64 (k : Int)) ∧ (wx.cell? ⟨gb, 0, none⟩ = some (.bool g.n) ∧ wx.cell? ⟨gb, 1, none⟩ = some (.bool g.sp.n) ∧ wx.cell? ⟨gb, 2, none⟩ = some (.int .i64 g.sp.lo) ∧ wx.cell? ⟨gb, 3, none⟩ = some (.int .i64 g.sp.hi) ∧ wx.cell? ⟨gb, 4, none⟩ = some (.bool g.t) ∧ wx.cell? ⟨gb, 5, none⟩ = some (.bool g.f) ∧ wx.cell? ⟨gb, 6, none⟩ = some (.slice ss g.s.length gc)))) [11] (by kernel_rfl) HKZ.out (fun hHeld => ?_)
 generalize wx.drew = wq at *
 refine tZ 0 ?_ ?_;refine sm ?_
 refine tZ 1 ?_ ?_;refine sm ?_
 refine tZ 2 ?_ ?_;refine sm ?_
 refine tZ 3 ?_ ?_;refine sm ?_
 refine tZ 4 ?_ ?_;refine sm ?_
 refine tZ 5 ?_ ?_;refine sm ?_
 refine tZ 6 ?_ ?_;refine sm ?_
 refine tZ 7 ?_ ?_;refine sm ?_
 refine tZ 8 ?_ ?_;refine sm ?_
 refine tZ 9 ?_ ?_;refine sm ?_
 refine tZ 10 ?_ ?_;refine sm ?_
 refine wpAnyZ_last (i := 11) rfl (by kernel_rfl) (by kernel_rfl) (fun K hK => ?_)
 obtain ⟨⟨q0, q1, q2, q3, q4, q5, q6⟩, qz⟩ := id GU
 have f0 := TH.out (k * 7)
 have f1 := TH.out (k * 7 + 1)
 have f2 := TH.out (k * 7 + 2)
 have f3 := TH.out (k * 7 + 3)
 have f4 := TH.out (k * 7 + 4)
 have f5 := TH.out (k * 7 + 5)
 have f6 := TH.out (k * 7 + 6)
 go_simp
 refine hK.out _ _ ?_
 clear hK K q0 q1 q2 q3 q4 q5 q6 qz f0 f1 f2 f3 f4 f5 f6
 refine sm ?_
 refine wpAnyZ_done (by kernel_rfl) ?_ _
 go_wp2
 first | go_end0 | refine bodyPost_ret (results_none rfl _ _ _) rfl ?_
 exact ⟨rfl, HPOST.out, HBEL.out⟩
end
section
open Go.RowKit
attribute [local go_sem ↓] Go.wp_at_zero Go.wp_at_succ

theorem cf_set (a : Array Value) (wx : World) : Sem.run Tryz.prog (callFunc 90 a) wx = .ok (.enter 90 a) wx := by kernel_rfl
theorem edge_set (n : Nat) (ta : Int) (x' : Pic) (gb pb : Nat) : type_of% (edge_f 90 #[.pointer (some ⟨gb, 0, none⟩), .pointer (some ⟨pb, 0, none⟩)] (fun p => #[p, .pointer (some ⟨gb, 0, none⟩), .pointer (some ⟨pb, 0, none⟩)]) (fun _ => rfl) cf_set n ta x') := edge_f 90 #[.pointer (some ⟨gb, 0, none⟩), .pointer (some ⟨pb, 0, none⟩)] (fun p => #[p, .pointer (some ⟨gb, 0, none⟩), .pointer (some ⟨pb, 0, none⟩)]) (fun _ => rfl) cf_set n ta x'
theorem cf_new (a : Array Value) (wx : World) : Sem.run Tryz.prog (callFunc 79 a) wx = .ok (.enter 79 a) wx := by kernel_rfl
theorem edge_new (n : Nat) (ta : Int) (x' : Pic) (pb : Nat) : type_of% (edge_f 79 #[.pointer (some ⟨pb, 0, none⟩)] (fun p => #[p, .pointer (some ⟨pb, 0, none⟩)]) (fun _ => rfl) cf_new n ta x') := edge_f 79 #[.pointer (some ⟨pb, 0, none⟩)] (fun p => #[p, .pointer (some ⟨pb, 0, none⟩)]) (fun _ => rfl) cf_new n ta x'
theorem cf_put (a : Array Value) (wx : World) : Sem.run Tryz.prog (callFunc 81 a) wx = .ok (.enter 81 a) wx := by kernel_rfl
theorem edge_put (n : Nat) (ta : Int) (x' : Pic) (tb pb : Nat) : type_of% (edge_f 81 #[.pointer (some ⟨tb, 0, none⟩), .pointer (some ⟨pb, 0, none⟩)] (fun p => #[p, .pointer (some ⟨tb, 0, none⟩), .pointer (some ⟨pb, 0, none⟩)]) (fun _ => rfl) cf_put n ta x') := edge_f 81 #[.pointer (some ⟨tb, 0, none⟩), .pointer (some ⟨pb, 0, none⟩)] (fun p => #[p, .pointer (some ⟨tb, 0, none⟩), .pointer (some ⟨pb, 0, none⟩)]) (fun _ => rfl) cf_put n ta x'
theorem cf_yes (a : Array Value) (wx : World) : Sem.run Tryz.prog (callFunc 83 a) wx = .ok (.enter 83 a) wx := by kernel_rfl
theorem edge_yes (n : Nat) (ta : Int) (x' : Pic) (pb : Nat) : type_of% (edge_f 83 #[.pointer (some ⟨pb, 0, none⟩)] (fun p => #[p, .pointer (some ⟨pb, 0, none⟩)]) (fun _ => rfl) cf_yes n ta x') := edge_f 83 #[.pointer (some ⟨pb, 0, none⟩)] (fun p => #[p, .pointer (some ⟨pb, 0, none⟩)]) (fun _ => rfl) cf_yes n ta x'
theorem cf_no (a : Array Value) (wx : World) : Sem.run Tryz.prog (callFunc 85 a) wx = .ok (.enter 85 a) wx := by kernel_rfl
theorem edge_no (n : Nat) (ta : Int) (x' : Pic) (pb : Nat) : type_of% (edge_f 85 #[.pointer (some ⟨pb, 0, none⟩)] (fun p => #[p, .pointer (some ⟨pb, 0, none⟩)]) (fun _ => rfl) cf_no n ta x') := edge_f 85 #[.pointer (some ⟨pb, 0, none⟩)] (fun p => #[p, .pointer (some ⟨pb, 0, none⟩)]) (fun _ => rfl) cf_no n ta x'
end
section
set_option maxHeartbeats 4000000
set_option maxRecDepth 10000
open Go.RowKit
attribute [local go_sem ↓] Go.wp_at_zero Go.wp_at_succ

theorem meet_zero {s : Sp} : meetSp s ⟨false, 0, 0⟩ = if s.has 0 then ⟨false, 0, 0⟩ else ⟨true, 0, 0⟩ := by
 obtain ⟨n, lo, hi⟩ := s
 cases n with
 | true => simp [meetSp, Sp.has]
 | false =>
  by_cases h1 : lo ≤ 0
  ·by_cases h2 : 0 ≤ hi
   ·have e1 : min hi 0 = 0 := by omega
    have e2 : max lo 0 = 0 := by omega
    simp [meetSp, Sp.has, h1, h2, e1, e2]
   ·have e3 : min hi 0 < max lo 0 := by omega
    simp [meetSp, Sp.has, h2, e3]
  ·have e3 : min hi 0 < max lo 0 := by omega
   simp [meetSp, Sp.has, h1, e3]
theorem picOf_gAt {n : Bool} {v : Ro} {L : List Ro} {k : Nat} (hk : k < v.l.length) : gAt (picOf n v L) (k : Int) = v.l[k].g := by
 unfold gAt picOf roG
 simp [List.getD, hk]
theorem ch_yes (n sb : Nat) (eb : Option Nat) (i : Ins) (V F : Int) (s : Option Addr) (c : List Ins) (cap : Nat) (at_ : Int) (x : Pic) (vs : Option Addr) (vc : Nat) (fs : Option Addr) (fc : Nat) (ev : Value) (wr fl : Bool) (pb : Nat) (w : World) (hS : Cells w sb (stpC i V F s c cap at_ x vs vc fs fc ev wr fl)) (hP : Cells w pb [.pointer (some ⟨sb, 0, none⟩)]) (hsp : (gAt x i.a).sp.Ok) (hk : ∃ k : Nat, i.a = k ∧ k < x.vars.length) :
  ChangeC 83 (fun p => #[p, .pointer (some ⟨pb, 0, none⟩)]) n sb eb w x (setVar x i.a (trueGs (gAt x i.a))) := by
 intro wx xb v gs gcc L hb0 hp
 obtain ⟨zxb, A0, G0, OF, EX⟩ := hp
 have hdr : Below wx.heap.size wx wx.drew := (Below.refl _ _).drew
 have hb := hb0.drew
 have A := A0.call hdr
 have G := G0.call hdr
 have hbd : Below w.heap.size wx wx.drew := hdr.mono (Nat.le_trans hb0.size (Nat.le_refl _))
 have hsz : Hid (w.heap.size ≤ wx.heap.size) := hb0.size
 clear hb0 A0 G0 hdr
 obtain ⟨k, ek, hkx⟩ := hk
 have hkv : k < v.l.length := by rw [← EX] at hkx; simpa [picOf, roG] using hkx
 have ega : gAt x i.a = v.l[k].g := by rw [← EX, ek, picOf_gAt hkv]
 obtain ⟨vb, evb, eb1, hvb, zvb⟩ := G.vars.form (by omega)
 have nxv : xb ≠ vb := fun e => OF.1 (by rw [eb1, e])
 have n0 : (0 : Int) ≤ (k : Int) := by omega
 have n1 : (k : Int) < (v.l.length : Int) := by omega
 have A1 := A.1 1 _ rfl
 rw [evb] at A1
 have S1 := (hS.call hb).1 2 _ rfl
 rw [ek] at S1
 have P1 := (hP.call hb).1 0 _ rfl
 have HKZ : Hid (wx.drew.cell? ⟨xb, 1, none⟩ = some (.slice (some ⟨vb, 0, none⟩) v.l.length v.rc) ∧ wx.drew.cell? ⟨pb, 0, none⟩ = some (.pointer (some ⟨sb, 0, none⟩)) ∧ wx.drew.cell? ⟨sb, 2, none⟩ = some (.int .i64 (k : Int))) := ⟨A1, P1, S1⟩
 have HOK : Hid (v.l[k].g.sp.Ok) := by show _; rw [← ega]; exact hsp
 clear A1 S1 P1 hS hP hsp
 go_enter Tryz.func83, Tryz.ntmps83
 go_upto_region 0 with fail
 refine wp_region_z (S := (fun wx => wx.cell? ⟨xb, 1, none⟩ = some (.slice (some ⟨vb, 0, none⟩) v.l.length v.rc) ∧ wx.cell? ⟨pb, 0, none⟩ = some (.pointer (some ⟨sb, 0, none⟩)) ∧ wx.cell? ⟨sb, 2, none⟩ = some (.int .i64 (k : Int)))) [] (by kernel_rfl) HKZ.out (fun hHeld => ?_)
 generalize wx.drew = wq at *
 refine tZ 0 ?_ ?_;refine sm ?_
 refine tZ 1 ?_ ?_;refine sm ?_
 refine tZ 2 ?_ ?_;refine sm ?_
 refine tZ 3 ?_ ?_;refine sm ?_
 refine tZ 4 ?_ ?_;refine sm ?_
 refine tZ 5 ?_ ?_;refine sm ?_
 refine tZ 6 ?_ ?_;refine sm ?_
 refine tZ 7 ?_ ?_;refine sm ?_
 refine tZ 8 ?_ ?_;refine sm ?_
 refine tZ 9 ?_ ?_;refine sm ?_
 refine tZ 10 ?_ ?_;refine sm ?_
 refine wpAnyZ_done (by kernel_rfl) ?_ _
 have GU := G.vars.gu evb hkv
 obtain ⟨⟨q0, q1, q2, q3, q4, q5, q6⟩, qz⟩ := id GU
 go_wp2_with (go_at_call 84; fail)
 refine (withoutZero_any v.l[k].g.sp wq HOK.out).mono ?_
 rintro e w2 ⟨rfl, hb2⟩
 have h := G.call hb2
 have A2 := A.call hb2
 have hbw := hbd.trans (hb2.mono (by have := hb.size; omega))
 clear q0 q1 q2 q3 q4 q5 q6 qz GU G A hb2 hbd
 have GU := h.vars.gu evb hkv
 have TH := hideH (h.vars.thaw evb)
 obtain ⟨⟨q0, q1, q2, q3, q4, q5, q6⟩, qz⟩ := id GU
 have f0 := TH.out (k * 7)
 have f1 := TH.out (k * 7 + 1)
 have f2 := TH.out (k * 7 + 2)
 have f3 := TH.out (k * 7 + 3)
 have f5 := TH.out (k * 7 + 5)
 have nb : ¬ (fun q => ClT n sb eb xb q ∧ Off v (Value.slice gs L.length gcc).ownBlock L q) vb := fun q => q.2.1 eb1
 have gy := h.sv _ (List.getElem_mem hkv)
 have h0 : PicG (ClT n sb eb xb) w.heap.size w2 ⟨v.rs, v.rc, v.l.set k v.l[k]⟩ gs gcc L := by rw [List.set_getElem_self]; exact h
 have h1 := h.cellV evb hkv h0 (j := 0) (u := .bool false) (z := ⟨⟨false, v.l[k].g.sp, v.l[k].g.t, v.l[k].g.f, v.l[k].g.s⟩, v.l[k].ss, v.l[k].cap⟩) (by omega) (by rfl) gy
 have h2 := h.cellV evb hkv h1 (j := 5) (u := .bool false) (z := ⟨⟨false, v.l[k].g.sp, v.l[k].g.t, false, v.l[k].g.s⟩, v.l[k].ss, v.l[k].cap⟩) (by omega) (by rfl) (gcIn_stay gy nb)
 have h3 := h.cellV evb hkv h2 (j := 1) (u := .bool (trueSp v.l[k].g.sp).n) (z := ⟨⟨false, ⟨(trueSp v.l[k].g.sp).n, v.l[k].g.sp.lo, v.l[k].g.sp.hi⟩, v.l[k].g.t, false, v.l[k].g.s⟩, v.l[k].ss, v.l[k].cap⟩) (by omega) (by rfl) (gcIn_stay (gcIn_stay gy nb) nb)
 have h4 := h.cellV evb hkv h3 (j := 2) (u := .int .i64 (trueSp v.l[k].g.sp).lo) (z := ⟨⟨false, ⟨(trueSp v.l[k].g.sp).n, (trueSp v.l[k].g.sp).lo, v.l[k].g.sp.hi⟩, v.l[k].g.t, false, v.l[k].g.s⟩, v.l[k].ss, v.l[k].cap⟩) (by omega) (by rfl) (gcIn_stay (gcIn_stay (gcIn_stay gy nb) nb) nb)
 have h5 := h.cellV evb hkv h4 (j := 3) (u := .int .i64 (trueSp v.l[k].g.sp).hi) (z := ⟨⟨false, ⟨(trueSp v.l[k].g.sp).n, (trueSp v.l[k].g.sp).lo, (trueSp v.l[k].g.sp).hi⟩, v.l[k].g.t, false, v.l[k].g.s⟩, v.l[k].ss, v.l[k].cap⟩) (by omega) (by rfl) (gcIn_stay (gcIn_stay (gcIn_stay (gcIn_stay gy nb) nb) nb) nb)
 have HPOST : Hid (∃ v' gs' gc' L', ClPre n sb eb w.heap.size (((((w2.setCell ⟨vb, k * 7, none⟩ (.bool false)).setCell ⟨vb, k * 7 + 5, none⟩ (.bool false)).setCell ⟨vb, k * 7 + 1, none⟩ (.bool (trueSp v.l[k].g.sp).n)).setCell ⟨vb, k * 7 + 2, none⟩ (.int .i64 (trueSp v.l[k].g.sp).lo)).setCell ⟨vb, k * 7 + 3, none⟩ (.int .i64 (trueSp v.l[k].g.sp).hi)) xb v' gs' gc' L' (setVar x i.a (trueGs (gAt x i.a)))) := by
  refine ⟨⟨v.rs, v.rc, v.l.set k ⟨trueGs v.l[k].g, v.l[k].ss, v.l[k].cap⟩⟩, gs, gcc, L, zxb, ?_, h5, (Off.same (roB_set (by simp))).2 OF, ?_⟩
  ·simp only [List.length_set]
   exact ((((A2.far nxv _).far nxv _).far nxv _).far nxv _).far nxv _
  ·rw [picOf_setV, EX, ek, ← ek, ega]
 have HBEL : Hid (Below w.heap.size wx (((((w2.setCell ⟨vb, k * 7, none⟩ (.bool false)).setCell ⟨vb, k * 7 + 5, none⟩ (.bool false)).setCell ⟨vb, k * 7 + 1, none⟩ (.bool (trueSp v.l[k].g.sp).n)).setCell ⟨vb, k * 7 + 2, none⟩ (.int .i64 (trueSp v.l[k].g.sp).lo)).setCell ⟨vb, k * 7 + 3, none⟩ (.int .i64 (trueSp v.l[k].g.sp).hi))) := ((((hbw.setCell hvb _).setCell hvb _).setCell hvb _).setCell hvb _).setCell hvb _
 clear h0 h1 h2 h3 h4 h5 h gy nb A2 GU hbw EX OF ega ek
 go_wp2
 first | go_end0 | refine bodyPost_ret (results_none rfl _ _ _) rfl ?_
 exact ⟨rfl, HPOST.out, HBEL.out⟩
theorem ch_no (n sb : Nat) (eb : Option Nat) (i : Ins) (V F : Int) (s : Option Addr) (c : List Ins) (cap : Nat) (at_ : Int) (x : Pic) (vs : Option Addr) (vc : Nat) (fs : Option Addr) (fc : Nat) (ev : Value) (wr fl : Bool) (pb : Nat) (w : World) (hS : Cells w sb (stpC i V F s c cap at_ x vs vc fs fc ev wr fl)) (hP : Cells w pb [.pointer (some ⟨sb, 0, none⟩)]) (hsp : (gAt x i.a).sp.Ok) (hk : ∃ k : Nat, i.a = k ∧ k < x.vars.length) :
  ChangeC 85 (fun p => #[p, .pointer (some ⟨pb, 0, none⟩)]) n sb eb w x (setVar x i.a (falseGs (gAt x i.a))) := by
 intro wx xb v gs gcc L hb0 hp
 obtain ⟨zxb, A0, G0, OF, EX⟩ := hp
 have hdr : Below wx.heap.size wx wx.drew := (Below.refl _ _).drew
 have hb := hb0.drew
 have A := A0.call hdr
 have G := G0.call hdr
 have hbd : Below w.heap.size wx wx.drew := hdr.mono (Nat.le_trans hb0.size (Nat.le_refl _))
 have hsz : Hid (w.heap.size ≤ wx.heap.size) := hb0.size
 clear hb0 A0 G0 hdr
 obtain ⟨k, ek, hkx⟩ := hk
 have hkv : k < v.l.length := by rw [← EX] at hkx; simpa [picOf, roG] using hkx
 have ega : gAt x i.a = v.l[k].g := by rw [← EX, ek, picOf_gAt hkv]
 obtain ⟨vb, evb, eb1, hvb, zvb⟩ := G.vars.form (by omega)
 have nxv : xb ≠ vb := fun e => OF.1 (by rw [eb1, e])
 have n0 : (0 : Int) ≤ (k : Int) := by omega
 have n1 : (k : Int) < (v.l.length : Int) := by omega
 have A1 := A.1 1 _ rfl
 rw [evb] at A1
 have S1 := (hS.call hb).1 2 _ rfl
 rw [ek] at S1
 have P1 := (hP.call hb).1 0 _ rfl
 have HKZ : Hid (wx.drew.cell? ⟨xb, 1, none⟩ = some (.slice (some ⟨vb, 0, none⟩) v.l.length v.rc) ∧ wx.drew.cell? ⟨pb, 0, none⟩ = some (.pointer (some ⟨sb, 0, none⟩)) ∧ wx.drew.cell? ⟨sb, 2, none⟩ = some (.int .i64 (k : Int))) := ⟨A1, P1, S1⟩
 have HOK : Hid (v.l[k].g.sp.Ok) := by show _; rw [← ega]; exact hsp
 clear A1 S1 P1 hS hP hsp
 go_enter Tryz.func85, Tryz.ntmps85
 go_upto_region 0 with fail
 refine wp_region_z (S := (fun wx => wx.cell? ⟨xb, 1, none⟩ = some (.slice (some ⟨vb, 0, none⟩) v.l.length v.rc) ∧ wx.cell? ⟨pb, 0, none⟩ = some (.pointer (some ⟨sb, 0, none⟩)) ∧ wx.cell? ⟨sb, 2, none⟩ = some (.int .i64 (k : Int)))) [] (by kernel_rfl) HKZ.out (fun hHeld => ?_)
 generalize wx.drew = wq at *
 refine tZ 0 ?_ ?_;refine sm ?_
 refine tZ 1 ?_ ?_;refine sm ?_
 refine tZ 2 ?_ ?_;refine sm ?_
 refine tZ 3 ?_ ?_;refine sm ?_
 refine tZ 4 ?_ ?_;refine sm ?_
 refine tZ 5 ?_ ?_;refine sm ?_
 refine tZ 6 ?_ ?_;refine sm ?_
 refine tZ 7 ?_ ?_;refine sm ?_
 refine tZ 8 ?_ ?_;refine sm ?_
 refine tZ 9 ?_ ?_;refine sm ?_
 refine tZ 10 ?_ ?_;refine sm ?_
 refine wpAnyZ_done (by kernel_rfl) ?_ _
 have h := G
 have GU := h.vars.gu evb hkv
 have TH := hideH (h.vars.thaw evb)
 obtain ⟨⟨q0, q1, q2, q3, q4, q5, q6⟩, qz⟩ := id GU
 have f4 := TH.out (k * 7 + 4)
 have f6 := TH.out (k * 7 + 6)
 have nb : ¬ (fun q => ClT n sb eb xb q ∧ Off v (Value.slice gs L.length gcc).ownBlock L q) vb := fun q => q.2.1 eb1
 have gy := h.sv _ (List.getElem_mem hkv)
 have gn : GcIn (fun q => ClT n sb eb xb q ∧ Off v (Value.slice gs L.length gcc).ownBlock L q) wq (⟨⟨v.l[k].g.n, v.l[k].g.sp, false, v.l[k].g.f, []⟩, none, 0⟩ : Gc) := ⟨.inl rfl, Nat.le_refl _, Nat.zero_le _⟩
 have h0 : PicG (ClT n sb eb xb) w.heap.size wq ⟨v.rs, v.rc, v.l.set k v.l[k]⟩ gs gcc L := by rw [List.set_getElem_self]; exact h
 have h1 := h.cellV evb hkv h0 (j := 4) (u := .bool false) (z := ⟨⟨v.l[k].g.n, v.l[k].g.sp, false, v.l[k].g.f, v.l[k].g.s⟩, v.l[k].ss, v.l[k].cap⟩) (by omega) (by rfl) gy
 have h2 := h.cellV evb hkv h1 (j := 6) (u := .slice none 0 0) (z := ⟨⟨v.l[k].g.n, v.l[k].g.sp, false, v.l[k].g.f, []⟩, none, 0⟩) (by omega) (by rfl) (gcIn_stay gn nb)
 have hbw : Below w.heap.size wx ((wq.setCell ⟨vb, k * 7 + 4, none⟩ (.bool false)).setCell ⟨vb, k * 7 + 6, none⟩ (.slice none 0 0)) := (hbd.setCell hvb _).setCell hvb _
 have A2 := (A.far nxv (.bool false) (a := ⟨vb, k * 7 + 4, none⟩)).far nxv (.slice none 0 0) (a := ⟨vb, k * 7 + 6, none⟩)
 clear GU hbd gy gn h1 h0 A G
 have HH := hideH (And.intro h2 (And.intro hbw A2))
 clear h2 hbw A2
 go_upto_region 2 with fail
 generalize eW : ((wq.setCell ⟨vb, k * 7 + 4, none⟩ (.bool false)).setCell ⟨vb, k * 7 + 6, none⟩ (.slice none 0 0)) = w1 at *
 obtain ⟨h2, hbw, A2⟩ := HH.out
 clear q0 q1 q2 q3 q4 q5 q6 qz TH f4 f6 HH eW
 have GU := h2.vars.gu (b := vb) evb (k := k) (by simpa using hkv)
 simp only [List.getElem_set_self] at GU
 obtain ⟨⟨q0, q1, q2, q3, q4, q5, q6⟩, qz⟩ := id GU
 go_wp2_with (go_at_call 86; fail)
 refine (meetF_any v.l[k].g.sp ⟨false, 0, 0⟩ w1).mono ?_
 rintro e w2 ⟨rfl, hb2⟩
 have eok : ckSps v.l[k].g.sp ⟨false, 0, 0⟩ = 0 := ckSps_ok.2 ⟨HOK.out, by simp [Sp.Ok, inNum]⟩
 rw [eok]
 have h3 := h2.call hb2
 have A3 := A2.call hb2
 have hbw2 := hbw.trans (hb2.mono (Nat.le_trans hsz.out hbw.size))
 clear q0 q1 q2 q3 q4 q5 q6 qz GU A2 hb2 hbw h2 eok
 have GU := h3.vars.gu (b := vb) evb (k := k) (by simpa using hkv)
 simp only [List.getElem_set_self] at GU
 have TH := hideH (h3.vars.thaw (b := vb) evb)
 obtain ⟨⟨q0, q1, q2, q3, q4, q5, q6⟩, qz⟩ := id GU
 have f1 := TH.out (k * 7 + 1)
 have f2 := TH.out (k * 7 + 2)
 have f3 := TH.out (k * 7 + 3)
 have gm : GcIn (fun q => ClT n sb eb xb q ∧ Off v (Value.slice gs L.length gcc).ownBlock L q) w2 (⟨⟨v.l[k].g.n, v.l[k].g.sp, false, v.l[k].g.f, []⟩, none, 0⟩ : Gc) := ⟨.inl rfl, Nat.le_refl _, Nat.zero_le _⟩
 have h4 := h.cellV evb hkv h3 (j := 1) (u := .bool (meetSp v.l[k].g.sp ⟨false, 0, 0⟩).n) (z := ⟨⟨v.l[k].g.n, ⟨(meetSp v.l[k].g.sp ⟨false, 0, 0⟩).n, v.l[k].g.sp.lo, v.l[k].g.sp.hi⟩, false, v.l[k].g.f, []⟩, none, 0⟩) (by omega) (by rfl) gm
 have h5 := h.cellV evb hkv h4 (j := 2) (u := .int .i64 (meetSp v.l[k].g.sp ⟨false, 0, 0⟩).lo) (z := ⟨⟨v.l[k].g.n, ⟨(meetSp v.l[k].g.sp ⟨false, 0, 0⟩).n, (meetSp v.l[k].g.sp ⟨false, 0, 0⟩).lo, v.l[k].g.sp.hi⟩, false, v.l[k].g.f, []⟩, none, 0⟩) (by omega) (by rfl) (gcIn_stay gm nb)
 have h6 := h.cellV evb hkv h5 (j := 3) (u := .int .i64 (meetSp v.l[k].g.sp ⟨false, 0, 0⟩).hi) (z := ⟨⟨v.l[k].g.n, ⟨(meetSp v.l[k].g.sp ⟨false, 0, 0⟩).n, (meetSp v.l[k].g.sp ⟨false, 0, 0⟩).lo, (meetSp v.l[k].g.sp ⟨false, 0, 0⟩).hi⟩, false, v.l[k].g.f, []⟩, none, 0⟩) (by omega) (by rfl) (gcIn_stay (gcIn_stay gm nb) nb)
 have HPOST : Hid (∃ v' gs' gc' L', ClPre n sb eb w.heap.size (((w2.setCell ⟨vb, k * 7 + 1, none⟩ (.bool (meetSp v.l[k].g.sp ⟨false, 0, 0⟩).n)).setCell ⟨vb, k * 7 + 2, none⟩ (.int .i64 (meetSp v.l[k].g.sp ⟨false, 0, 0⟩).lo)).setCell ⟨vb, k * 7 + 3, none⟩ (.int .i64 (meetSp v.l[k].g.sp ⟨false, 0, 0⟩).hi)) xb v' gs' gc' L' (setVar x i.a (falseGs (gAt x i.a)))) := by
  refine ⟨⟨v.rs, v.rc, v.l.set k ⟨falseGs v.l[k].g, none, 0⟩⟩, gs, gcc, L, zxb, ?_, ?_, (Off.same (roB_set (by simp))).2 OF, ?_⟩
  ·simp only [List.length_set]
   exact ((A3.far nxv _).far nxv _).far nxv _
  ·have e : falseGs v.l[k].g = ⟨v.l[k].g.n, (meetSp v.l[k].g.sp ⟨false, 0, 0⟩), false, v.l[k].g.f, []⟩ := by rw [meet_zero]; rfl
   rw [e]
   exact h6
  ·rw [picOf_setV, EX, ek, ← ek, ega]
 have HBEL : Hid (Below w.heap.size wx (((w2.setCell ⟨vb, k * 7 + 1, none⟩ (.bool (meetSp v.l[k].g.sp ⟨false, 0, 0⟩).n)).setCell ⟨vb, k * 7 + 2, none⟩ (.int .i64 (meetSp v.l[k].g.sp ⟨false, 0, 0⟩).lo)).setCell ⟨vb, k * 7 + 3, none⟩ (.int .i64 (meetSp v.l[k].g.sp ⟨false, 0, 0⟩).hi))) := ((hbw2.setCell hvb _).setCell hvb _).setCell hvb _
 clear h3 h4 h5 h6 h gm nb A3 GU hbw2 EX OF ega ek
 go_wp2
 first | go_end0 | refine bodyPost_ret (results_none rfl _ _ _) rfl ?_
 exact ⟨rfl, HPOST.out, HBEL.out⟩
end
section
set_option maxHeartbeats 4000000
set_option maxRecDepth 10000
open Go.RowKit
attribute [local go_sem ↓] Go.wp_at_zero Go.wp_at_succ

/-- What a stepper holds behind a step of its own: edges that are added. -/
def EdgAns (sb : Nat) (w : World) (cs : Value → List Value) (EL : List Ed) (l : List Edg) : Prop := ∃ ev QL, Cells w sb (cs ev) ∧ ERow sb sb w ev (EL ++ QL) ∧ QL.map edG = l
theorem SCtx.spA {V F : Int} {c : List Ins} {x : Pic} {vc fc : Nat} {i : Ins} {at_ : Int} (K : SCtx V F c x vc fc i at_) (hA : nA i.k = true) : (gAt x i.a).sp.Ok := by
 obtain ⟨k, ek, hk⟩ := K.varA hA
 rw [ek, gAt_get hk]
 exact (ckGs_iff.1 (K.kx.gv _ (List.getElem_mem hk))).1
theorem onTrue_any (ta : Int) (EL : List Ed) (es : Option Addr) (ec : Nat) (sb : Nat) (i : Ins) (V F : Int) (s : Option Addr) (c : List Ins) (cap : Nat) (at_ : Int) (x : Pic) (vs : Option Addr) (vc : Nat) (fs : Option Addr) (fc : Nat) (wr fl : Bool) (w0 w : World) (hS : Cells w sb (stpC i V F s c cap at_ x vs vc fs fc (.slice es EL.length ec) wr fl)) (hc0 : CodeAt w0 s c) (hx0 : PicAt w0 x vs fs) (hz0 : w0.heap.size ≤ sb) (hB0 : Below w0.heap.size w0 w) (K : SCtx V F c x vc fc i at_) (hER : ERow sb sb w (.slice es EL.length ec) EL) (hL2 : EL.length ≤ 10) (hA : nA i.k = true) :
  Calls Tryz.prog 46 #[.pointer (some ⟨sb, 0, none⟩), .int .i64 ta] w fun e w' => e = .returned (.tuple #[]) ∧ EdgAns sb w' (fun ev' => stpC i V F s c cap at_ x vs vc fs fc ev' wr fl) EL (if yesGs (gAt x i.a) then [⟨ta, setVar x i.a (trueGs (gAt x i.a))⟩] else []) ∧ Below sb w w' := by
 have hsb := hS.2.1
 have hb1 : Below w.heap.size w (w.alloc (.cells #[.pointer (some ⟨sb, 0, none⟩)] 88)) := by go_grown
 have hP1 : Cells (w.alloc (.cells #[.pointer (some ⟨sb, 0, none⟩)] 88)) w.heap.size [.pointer (some ⟨sb, 0, none⟩)] := Cells.new w 88 [.pointer (some ⟨sb, 0, none⟩)]
 have HT : Hid (∀ wx, Below w.heap.size w wx → Calls Tryz.prog 51 #[.pointer (some ⟨sb, 0, none⟩)] wx fun e w' => e = .returned (.tuple #[.bool (yesGs (gAt x i.a)), .bool (noGs (gAt x i.a))]) ∧ Below wx.heap.size wx w') := fun wx hb => truthS_any sb i V F s c cap at_ x vs vc fs fc _ wr fl wx (hS.call hb) (hc0.below (hB0.trans (hb.mono hB0.size)) (Nat.le_refl _)) (hx0.below (hB0.trans (hb.mono hB0.size)) (Nat.le_refl _)) K hA
 have HE : Hid (∀ wx, Below w.heap.size w wx → Cells wx w.heap.size [.pointer (some ⟨sb, 0, none⟩)] → Calls Tryz.prog 49 #[.pointer (some ⟨sb, 0, none⟩), .int .i64 ta, .func (.func 83) #[] #[.pointer (some ⟨w.heap.size, 0, none⟩)]] wx fun e w' => e = .returned (.tuple #[]) ∧ (∃ ev' q, Cells w' sb (stpC i V F s c cap at_ x vs vc fs fc ev' wr fl) ∧ ERow sb sb w' ev' (EL ++ [q]) ∧ edG q = ⟨ta, setVar x i.a (trueGs (gAt x i.a))⟩) ∧ Below sb wx w') := fun wx hb hp =>
  edge_yes sb ta _ w.heap.size EL es ec sb i V F s c cap at_ x vs vc fs fc wr fl w0 wx (hS.call hb) hc0 hx0 hz0 (hB0.trans (hb.mono hB0.size)) K rfl (hER.call hb) hL2 (ch_yes sb sb _ i V F s c cap at_ x vs vc fs fc _ wr fl w.heap.size wx (hS.call hb) hp (K.spA hA) (K.varA hA))
 have HN : Hid (Cells w sb (stpC i V F s c cap at_ x vs vc fs fc (.slice es EL.length ec) wr fl) ∧ ERow sb sb w (.slice es EL.length ec) EL) := ⟨hS, hER⟩
 clear hS hER hc0 hx0 hB0 K hz0
 generalize hy : yesGs (gAt x i.a) = yy at *
 generalize hn : noGs (gAt x i.a) = nn at *
 clear hy hn
 generalize hpic : setVar x i.a (trueGs (gAt x i.a)) = xx at *
 clear hpic
 go_enter Tryz.func46, Tryz.ntmps46
 go_wp2_with (go_at_call 51; fail)
 refine (HT.out _ hb1).mono ?_
 rintro e w2 ⟨rfl, hb2⟩
 have hP2 := hP1.call hb2
 have hbw : Below w.heap.size w w2 := hb1.trans (hb2.mono hb1.size)
 have p0 := hP2.1 0 _ rfl
 clear hP1 hb2 hb1 HT
 cases yy with
 | false =>
  go_wp2
  first | go_end0 | refine bodyPost_ret (results_none rfl _ _ _) rfl ?_
  exact ⟨rfl, ⟨_, [], HN.out.1.call hbw, by rw [List.append_nil]; exact HN.out.2.call hbw, rfl⟩, hbw.mono (Nat.le_of_lt hsb)⟩
 | true =>
  go_wp2_with (go_at_call 49; fail)
  refine (HE.out w2 hbw hP2).mono ?_
  rintro e w3 ⟨rfl, ⟨ev', q, C3, E3, eq3⟩, hb3⟩
  have HF : Hid (EdgAns sb w3 (fun ev' => stpC i V F s c cap at_ x vs vc fs fc ev' wr fl) EL [⟨ta, xx⟩]) := ⟨ev', [q], C3, E3, by simp [eq3]⟩
  have hbz : Below sb w w3 := (hbw.mono (Nat.le_of_lt hsb)).trans hb3
  clear C3 E3 eq3 hb3 hP2 p0 HE HN
  go_wp2
  first | go_end0 | refine bodyPost_ret (results_none rfl _ _ _) rfl ?_
  exact ⟨rfl, HF.out, hbz⟩
theorem onFalse_any (ta : Int) (EL : List Ed) (es : Option Addr) (ec : Nat) (sb : Nat) (i : Ins) (V F : Int) (s : Option Addr) (c : List Ins) (cap : Nat) (at_ : Int) (x : Pic) (vs : Option Addr) (vc : Nat) (fs : Option Addr) (fc : Nat) (wr fl : Bool) (w0 w : World) (hS : Cells w sb (stpC i V F s c cap at_ x vs vc fs fc (.slice es EL.length ec) wr fl)) (hc0 : CodeAt w0 s c) (hx0 : PicAt w0 x vs fs) (hz0 : w0.heap.size ≤ sb) (hB0 : Below w0.heap.size w0 w) (K : SCtx V F c x vc fc i at_) (hER : ERow sb sb w (.slice es EL.length ec) EL) (hL2 : EL.length ≤ 10) (hA : nA i.k = true) :
  Calls Tryz.prog 47 #[.pointer (some ⟨sb, 0, none⟩), .int .i64 ta] w fun e w' => e = .returned (.tuple #[]) ∧ EdgAns sb w' (fun ev' => stpC i V F s c cap at_ x vs vc fs fc ev' wr fl) EL (if noGs (gAt x i.a) then [⟨ta, setVar x i.a (falseGs (gAt x i.a))⟩] else []) ∧ Below sb w w' := by
 have hsb := hS.2.1
 have hb1 : Below w.heap.size w (w.alloc (.cells #[.pointer (some ⟨sb, 0, none⟩)] 88)) := by go_grown
 have hP1 : Cells (w.alloc (.cells #[.pointer (some ⟨sb, 0, none⟩)] 88)) w.heap.size [.pointer (some ⟨sb, 0, none⟩)] := Cells.new w 88 [.pointer (some ⟨sb, 0, none⟩)]
 have HT : Hid (∀ wx, Below w.heap.size w wx → Calls Tryz.prog 51 #[.pointer (some ⟨sb, 0, none⟩)] wx fun e w' => e = .returned (.tuple #[.bool (yesGs (gAt x i.a)), .bool (noGs (gAt x i.a))]) ∧ Below wx.heap.size wx w') := fun wx hb => truthS_any sb i V F s c cap at_ x vs vc fs fc _ wr fl wx (hS.call hb) (hc0.below (hB0.trans (hb.mono hB0.size)) (Nat.le_refl _)) (hx0.below (hB0.trans (hb.mono hB0.size)) (Nat.le_refl _)) K hA
 have HE : Hid (∀ wx, Below w.heap.size w wx → Cells wx w.heap.size [.pointer (some ⟨sb, 0, none⟩)] → Calls Tryz.prog 49 #[.pointer (some ⟨sb, 0, none⟩), .int .i64 ta, .func (.func 85) #[] #[.pointer (some ⟨w.heap.size, 0, none⟩)]] wx fun e w' => e = .returned (.tuple #[]) ∧ (∃ ev' q, Cells w' sb (stpC i V F s c cap at_ x vs vc fs fc ev' wr fl) ∧ ERow sb sb w' ev' (EL ++ [q]) ∧ edG q = ⟨ta, setVar x i.a (falseGs (gAt x i.a))⟩) ∧ Below sb wx w') := fun wx hb hp =>
  edge_no sb ta _ w.heap.size EL es ec sb i V F s c cap at_ x vs vc fs fc wr fl w0 wx (hS.call hb) hc0 hx0 hz0 (hB0.trans (hb.mono hB0.size)) K rfl (hER.call hb) hL2 (ch_no sb sb _ i V F s c cap at_ x vs vc fs fc _ wr fl w.heap.size wx (hS.call hb) hp (K.spA hA) (K.varA hA))
 have HN : Hid (Cells w sb (stpC i V F s c cap at_ x vs vc fs fc (.slice es EL.length ec) wr fl) ∧ ERow sb sb w (.slice es EL.length ec) EL) := ⟨hS, hER⟩
 clear hS hER hc0 hx0 hB0 K hz0
 generalize hy : yesGs (gAt x i.a) = yy at *
 generalize hn : noGs (gAt x i.a) = nn at *
 clear hy hn
 generalize hpic : setVar x i.a (falseGs (gAt x i.a)) = xx at *
 clear hpic
 go_enter Tryz.func47, Tryz.ntmps47
 go_wp2_with (go_at_call 51; fail)
 refine (HT.out _ hb1).mono ?_
 rintro e w2 ⟨rfl, hb2⟩
 have hP2 := hP1.call hb2
 have hbw : Below w.heap.size w w2 := hb1.trans (hb2.mono hb1.size)
 have p0 := hP2.1 0 _ rfl
 clear hP1 hb2 hb1 HT
 cases nn with
 | false =>
  go_wp2
  first | go_end0 | refine bodyPost_ret (results_none rfl _ _ _) rfl ?_
  exact ⟨rfl, ⟨_, [], HN.out.1.call hbw, by rw [List.append_nil]; exact HN.out.2.call hbw, rfl⟩, hbw.mono (Nat.le_of_lt hsb)⟩
 | true =>
  go_wp2_with (go_at_call 49; fail)
  refine (HE.out w2 hbw hP2).mono ?_
  rintro e w3 ⟨rfl, ⟨ev', q, C3, E3, eq3⟩, hb3⟩
  have HF : Hid (EdgAns sb w3 (fun ev' => stpC i V F s c cap at_ x vs vc fs fc ev' wr fl) EL [⟨ta, xx⟩]) := ⟨ev', [q], C3, E3, by simp [eq3]⟩
  have hbz : Below sb w w3 := (hbw.mono (Nat.le_of_lt hsb)).trans hb3
  clear C3 E3 eq3 hb3 hP2 p0 HE HN
  go_wp2
  first | go_end0 | refine bodyPost_ret (results_none rfl _ _ _) rfl ?_
  exact ⟨rfl, HF.out, hbz⟩
end
section
set_option maxHeartbeats 4000000
set_option maxRecDepth 10000
open Go.RowKit
attribute [local go_sem ↓] Go.wp_at_zero Go.wp_at_succ

theorem in_noneG (g : Gs) : inGs g noneG = nothingGs g := by
 obtain ⟨n, ⟨sn, lo, hi⟩, t, f, s⟩ := g
 cases s with
 | nil => cases n <;> cases sn <;> cases t <;> cases f <;> simp [inGs, noneG, nothingGs, otherGs, spIn, Sp.has]
 | cons a r => cases n <;> cases sn <;> cases t <;> cases f <;> simp [inGs, noneG, nothingGs, otherGs, spIn, Sp.has]
theorem set_any (g : Gs) (ss : Option Addr) (gc : Nat) (EL : List Ed) (es : Option Addr) (ec : Nat) (sb : Nat) (i : Ins) (V F : Int) (s : Option Addr) (c : List Ins) (cap : Nat) (at_ : Int) (x : Pic) (vs : Option Addr) (vc : Nat) (fs : Option Addr) (fc : Nat) (wr fl : Bool) (w0 w : World) (hS : Cells w sb (stpC i V F s c cap at_ x vs vc fs fc (.slice es EL.length ec) wr fl)) (hc0 : CodeAt w0 s c) (hx0 : PicAt w0 x vs fs) (hz0 : w0.heap.size ≤ sb) (hB0 : Below w0.heap.size w0 w) (K : SCtx V F c x vc fc i at_) (hER : ERow sb sb w (.slice es EL.length ec) EL) (hL2 : EL.length ≤ 10) (hI : IntsIn (fun b => sb ≤ b ∧ b ≠ sb ∧ (Value.slice es EL.length ec).ownBlock ≠ some b) w ss g.s) (h1 : g.s.length ≤ gc) (h2 : gc ≤ maxLen) (hg : ckGs c g = 0) (hT : nTo i.k = true) :
  Calls Tryz.prog 53 #[.pointer (some ⟨sb, 0, none⟩), .agg #[.bool g.n, .bool g.sp.n, .int .i64 g.sp.lo, .int .i64 g.sp.hi, .bool g.t, .bool g.f, .slice ss g.s.length gc]] w fun e w' => e = .returned (.tuple #[]) ∧ EdgAns sb w' (fun ev' => stpC i V F s c cap at_ x vs vc fs fc ev' wr fl) EL (if nothingGs g then [] else [⟨at_ + 1, setVar x i.tgt g⟩]) ∧ Below sb w w' := by
 have hsb := hS.2.1
 have ha0 := K.a0
 have ha1 : at_ ≤ 1000 := by have := K.a1; have := K.lens; omega
 have hb1 : Below w.heap.size w ((w.alloc (.cells #[.pointer (some ⟨sb, 0, none⟩)] 88)).alloc (.cells #[.bool g.n, .bool g.sp.n, .int .i64 g.sp.lo, .int .i64 g.sp.hi, .bool g.t, .bool g.f, .slice ss g.s.length gc] 61)).drew := (show Below w.heap.size w ((w.alloc (.cells #[.pointer (some ⟨sb, 0, none⟩)] 88)).alloc (.cells #[.bool g.n, .bool g.sp.n, .int .i64 g.sp.lo, .int .i64 g.sp.hi, .bool g.t, .bool g.f, .slice ss g.s.length gc] 61)) by go_grown).drew
 have hP1 : Cells ((w.alloc (.cells #[.pointer (some ⟨sb, 0, none⟩)] 88)).alloc (.cells #[.bool g.n, .bool g.sp.n, .int .i64 g.sp.lo, .int .i64 g.sp.hi, .bool g.t, .bool g.f, .slice ss g.s.length gc] 61)).drew w.heap.size [.pointer (some ⟨sb, 0, none⟩)] := ((Cells.new w 88 [.pointer (some ⟨sb, 0, none⟩)]).call (by go_grown)).call (Below.refl _ _).drew
 have hG1 : Cells ((w.alloc (.cells #[.pointer (some ⟨sb, 0, none⟩)] 88)).alloc (.cells #[.bool g.n, .bool g.sp.n, .int .i64 g.sp.lo, .int .i64 g.sp.hi, .bool g.t, .bool g.f, .slice ss g.s.length gc] 61)).drew (w.heap.size + 1) [.bool g.n, .bool g.sp.n, .int .i64 g.sp.lo, .int .i64 g.sp.hi, .bool g.t, .bool g.f, .slice ss g.s.length gc] := by
  have h := (Cells.new (w.alloc (.cells #[.pointer (some ⟨sb, 0, none⟩)] 88)) 61 [.bool g.n, .bool g.sp.n, .int .i64 g.sp.lo, .int .i64 g.sp.hi, .bool g.t, .bool g.f, .slice ss g.s.length gc]).call (Below.refl _ _).drew
  rw [World.size_alloc] at h
  exact h
 have HWI : Hid (∀ wx, Below w.heap.size w wx → Calls Tryz.prog 89 #[pv V F s c cap, gv g ss gc, gv noneG none 0] wx fun e w' => e = .returned (.tuple #[.bool (nothingGs g), .int .i64 0]) ∧ Below wx.heap.size wx w') := fun wx hb => by
  rw [← in_noneG]
  exact withinG_ok V F s c cap g ss gc noneG none 0 wx (hc0.below (hB0.trans (hb.mono hB0.size)) (Nat.le_refl _)) (hI.at.call hb) h1 h2 (.inl rfl) (Nat.le_refl _) (Nat.zero_le _) (K.duo hg rfl)
 have HE : Hid (∀ wx, Below w.heap.size w wx → Cells wx w.heap.size [.pointer (some ⟨sb, 0, none⟩)] → Cells wx (w.heap.size + 1) [.bool g.n, .bool g.sp.n, .int .i64 g.sp.lo, .int .i64 g.sp.hi, .bool g.t, .bool g.f, .slice ss g.s.length gc] → Calls Tryz.prog 49 #[.pointer (some ⟨sb, 0, none⟩), .int .i64 (at_ + 1), .func (.func 90) #[] #[.pointer (some ⟨w.heap.size + 1, 0, none⟩), .pointer (some ⟨w.heap.size, 0, none⟩)]] wx fun e w' => e = .returned (.tuple #[]) ∧ (∃ ev' q, Cells w' sb (stpC i V F s c cap at_ x vs vc fs fc ev' wr fl) ∧ ERow sb sb w' ev' (EL ++ [q]) ∧ edG q = ⟨at_ + 1, setVar x i.tgt g⟩) ∧ Below sb wx w') := fun wx hb hp hq =>
  edge_set sb (at_ + 1) _ (w.heap.size + 1) w.heap.size EL es ec sb i V F s c cap at_ x vs vc fs fc wr fl w0 wx (hS.call hb) hc0 hx0 hz0 (hB0.trans (hb.mono hB0.size)) K rfl (hER.call hb) hL2 (ch_set sb sb _ i V F s c cap at_ x vs vc fs fc _ wr fl (w.heap.size + 1) w.heap.size g ss gc wx (hS.call hb) hp hq ((hI.call hb)) h1 h2 (K.varTo hT))
 have HN : Hid (∀ wx, Below w.heap.size w wx → Cells wx sb (stpC i V F s c cap at_ x vs vc fs fc (.slice es EL.length ec) wr fl) ∧ ERow sb sb wx (.slice es EL.length ec) EL) := fun wx hb => ⟨hS.call hb, hER.call hb⟩
 clear hER hc0 hx0 hB0 K hz0 hI hg hT
 generalize ePB : w.heap.size = pb at hP1 hG1 HE hb1 ⊢
 generalize eGB : pb + 1 = gb at hG1 HE ⊢
 have HKZ : Hid (∀ wx, Below pb w wx → Cells wx pb [.pointer (some ⟨sb, 0, none⟩)] → Cells wx gb [.bool g.n, .bool g.sp.n, .int .i64 g.sp.lo, .int .i64 g.sp.hi, .bool g.t, .bool g.f, .slice ss g.s.length gc] → wx.cell? ⟨pb, 0, none⟩ = some (.pointer (some ⟨sb, 0, none⟩)) ∧ (wx.cell? ⟨sb, 6, none⟩ = some (.int .i64 V) ∧ wx.cell? ⟨sb, 7, none⟩ = some (.int .i64 F) ∧ wx.cell? ⟨sb, 8, none⟩ = some (.slice s c.length cap)) ∧ (wx.cell? ⟨gb, 0, none⟩ = some (.bool g.n) ∧ wx.cell? ⟨gb, 1, none⟩ = some (.bool g.sp.n) ∧ wx.cell? ⟨gb, 2, none⟩ = some (.int .i64 g.sp.lo) ∧ wx.cell? ⟨gb, 3, none⟩ = some (.int .i64 g.sp.hi) ∧ wx.cell? ⟨gb, 4, none⟩ = some (.bool g.t) ∧ wx.cell? ⟨gb, 5, none⟩ = some (.bool g.f) ∧ wx.cell? ⟨gb, 6, none⟩ = some (.slice ss g.s.length gc))) := fun wx hb hp hq => by
  rw [← ePB] at hb
  have h := hS.call hb
  exact ⟨hp.1 0 _ rfl, ⟨h.1 6 _ rfl, h.1 7 _ rfl, h.1 8 _ rfl⟩, ⟨hq.1 0 _ rfl, hq.1 1 _ rfl, hq.1 2 _ rfl, hq.1 3 _ rfl, hq.1 4 _ rfl, hq.1 5 _ rfl, hq.1 6 _ rfl⟩⟩
 clear hS
 subst eGB
 subst ePB
 generalize ex : setVar x i.tgt g = xx at *
 generalize ey : nothingGs g = yy at *
 clear ex ey
 go_enter Tryz.func53, Tryz.ntmps53
 go_upto_region 1 with fail
 refine wp_region_z (S := (fun wx => wx.cell? ⟨w.heap.size, 0, none⟩ = some (.pointer (some ⟨sb, 0, none⟩)) ∧ (wx.cell? ⟨sb, 6, none⟩ = some (.int .i64 V) ∧ wx.cell? ⟨sb, 7, none⟩ = some (.int .i64 F) ∧ wx.cell? ⟨sb, 8, none⟩ = some (.slice s c.length cap)) ∧ (wx.cell? ⟨w.heap.size + 1, 0, none⟩ = some (.bool g.n) ∧ wx.cell? ⟨w.heap.size + 1, 1, none⟩ = some (.bool g.sp.n) ∧ wx.cell? ⟨w.heap.size + 1, 2, none⟩ = some (.int .i64 g.sp.lo) ∧ wx.cell? ⟨w.heap.size + 1, 3, none⟩ = some (.int .i64 g.sp.hi) ∧ wx.cell? ⟨w.heap.size + 1, 4, none⟩ = some (.bool g.t) ∧ wx.cell? ⟨w.heap.size + 1, 5, none⟩ = some (.bool g.f) ∧ wx.cell? ⟨w.heap.size + 1, 6, none⟩ = some (.slice ss g.s.length gc)))) [] (by kernel_rfl) (HKZ.out _ hb1 hP1 hG1) (fun hHeld => ?_)
 generalize ((w.alloc (.cells #[.pointer (some ⟨sb, 0, none⟩)] 88)).alloc (.cells #[.bool g.n, .bool g.sp.n, .int .i64 g.sp.lo, .int .i64 g.sp.hi, .bool g.t, .bool g.f, .slice ss g.s.length gc] 61)).drew = w1 at *
 refine tZ 0 ?_ ?_;refine sm ?_
 refine tZ 1 ?_ ?_;refine sm ?_
 refine tZ 2 ?_ ?_;refine sm ?_
 refine tZ 3 ?_ ?_;refine sm ?_
 refine tZ 4 ?_ ?_;refine sm ?_
 refine tZ 5 ?_ ?_;refine sm ?_
 refine tZ 6 ?_ ?_;refine sm ?_
 refine wpAnyZ_one (i := 7) rfl (by kernel_rfl) (fun K hK => ?_)
 go_simp
 refine (HWI.out w1 hb1).mono ?_
 rintro e w2 ⟨rfl, hb2⟩
 have hbw : Below w.heap.size w w2 := hb1.trans (hb2.mono hb1.size)
 have hP2 := hP1.call hb2
 have hG2 := hG1.call hb2
 refine hK.out _ _ (HKZ.out w2 hbw hP2 hG2) (fun hHeld => ?_)
 clear hK K hb1 hb2 hP1 hG1
 refine sm ?_
 refine tZ 8 ?_ ?_;refine sm ?_
 refine tZ 9 ?_ ?_;refine sm ?_
 refine tZ 10 ?_ ?_;refine sm ?_
 refine tZ 11 ?_ ?_;refine sm ?_
 refine tZ 12 ?_ ?_;refine sm ?_
 refine wpAnyZ_done (by kernel_rfl) ?_ _
 cases yy with
 | true =>
  have HF : Hid (EdgAns sb w2 (fun ev' => stpC i V F s c cap at_ x vs vc fs fc ev' wr fl) EL []) := ⟨_, [], (HN.out w2 hbw).1, by rw [List.append_nil]; exact (HN.out w2 hbw).2, rfl⟩
  clear HE HKZ HWI
  go_wp2
  first | go_end0 | refine bodyPost_ret (results_none rfl _ _ _) rfl ?_
  exact ⟨rfl, HF.out, hbw.mono (Nat.le_of_lt hsb)⟩
 | false =>
  have hbq := hbw.drew
  have hPq := hP2.call (Below.refl _ _).drew
  have hGq := hG2.call (Below.refl _ _).drew
  have PQ := hPq.1 0 _ rfl
  have CQ := (HN.out _ hbq).1
  clear HN HKZ HWI hP2 hG2 hbw
  go_upto_region 3 with fail
  refine wp_region_z (S := (fun wx => wx.cell? ⟨w.heap.size, 0, none⟩ = some (.pointer (some ⟨sb, 0, none⟩)))) [4] (by kernel_rfl) PQ (fun hHeld => ?_)
  generalize w2.drew = wq at *
  refine tZ 0 ?_ ?_;refine sm ?_
  refine tZ 1 ?_ ?_;refine sm ?_
  refine tZ 3 ?_ ?_;refine sm ?_
  refine wpAnyZ_one (i := 2) rfl (by kernel_rfl) (fun K hK => ?_)
  go_simp
  refine (next_any sb at_ _ wq CQ rfl ha0 ha1).mono ?_
  rintro e w' ⟨rfl, ew⟩
  rw [ew]
  clear ew w'
  refine hK.out _ _ PQ (fun hHeld => ?_)
  clear hK K
  refine sm ?_
  refine wpAnyZ_last (i := 4) rfl (by kernel_rfl) (by kernel_rfl) (fun K hK => ?_)
  go_simp
  refine (HE.out wq hbq hPq hGq).mono ?_
  rintro e w3 ⟨rfl, ⟨ev', q, C3, E3, eq3⟩, hb3⟩
  have HF : Hid (EdgAns sb w3 (fun ev' => stpC i V F s c cap at_ x vs vc fs fc ev' wr fl) EL [⟨at_ + 1, xx⟩]) := ⟨ev', [q], C3, E3, by simp [eq3]⟩
  have hbz : Below sb w w3 := (hbq.mono (Nat.le_of_lt hsb)).trans hb3
  clear C3 E3 eq3 hb3 hPq hGq HE PQ CQ hbq
  refine hK.out _ _ ?_
  clear hK K
  refine sm ?_
  refine wpAnyZ_done (by kernel_rfl) ?_ _
  first | go_end0 | refine bodyPost_ret (results_none rfl _ _ _) rfl ?_
  exact ⟨rfl, HF.out, hbz⟩
end
section
set_option maxHeartbeats 4000000
set_option maxRecDepth 10000
open Go.RowKit
attribute [local go_sem ↓] Go.wp_at_zero Go.wp_at_succ

theorem makeThing_of (x' : Pic) (EL : List Ed) (es : Option Addr) (ec : Nat) (sb : Nat) (i : Ins) (V F : Int) (s : Option Addr) (c : List Ins) (cap : Nat) (at_ : Int) (x : Pic) (vs : Option Addr) (vc : Nat) (fs : Option Addr) (fc : Nat) (wr fl : Bool) (w0 w : World) (hS : Cells w sb (stpC i V F s c cap at_ x vs vc fs fc (.slice es EL.length ec) wr fl)) (hc0 : CodeAt w0 s c) (hx0 : PicAt w0 x vs fs) (hz0 : w0.heap.size ≤ sb) (hB0 : Below w0.heap.size w0 w) (K : SCtx V F c x vc fc i at_) (hER : ERow sb sb w (.slice es EL.length ec) EL) (hL2 : EL.length ≤ 10) (HC : ∀ wx, Below w.heap.size w wx → Cells wx sb (stpC i V F s c cap at_ x vs vc fs fc (.slice es EL.length ec) wr fl) → Cells wx w.heap.size [.pointer (some ⟨sb, 0, none⟩)] → ChangeC 79 (fun p => #[p, .pointer (some ⟨w.heap.size, 0, none⟩)]) sb sb (Value.slice es EL.length ec).ownBlock wx x x') :
  Calls Tryz.prog 44 #[.pointer (some ⟨sb, 0, none⟩)] w fun e w' => e = .returned (.tuple #[]) ∧ EdgAns sb w' (fun ev' => stpC i V F s c cap at_ x vs vc fs fc ev' wr fl) EL ([⟨at_ + 1, x'⟩]) ∧ Below sb w w' := by
 have hsb := hS.2.1
 have ha0 := K.a0
 have ha1 : at_ ≤ 1000 := by have := K.a1; have := K.lens; omega
 have hb1 : Below w.heap.size w (w.alloc (.cells #[.pointer (some ⟨sb, 0, none⟩)] 88)) := by go_grown
 have hP1 : Cells (w.alloc (.cells #[.pointer (some ⟨sb, 0, none⟩)] 88)) w.heap.size [.pointer (some ⟨sb, 0, none⟩)] := Cells.new w 88 [.pointer (some ⟨sb, 0, none⟩)]
 have hbw := hb1.drew
 have hP2 := hP1.call (Below.refl _ _).drew
 have PQ := hP2.1 0 _ rfl
 have PQ0 := PQ
 have HE : Hid (∀ wx, Below w.heap.size w wx → Cells wx w.heap.size [.pointer (some ⟨sb, 0, none⟩)] → Calls Tryz.prog 49 #[.pointer (some ⟨sb, 0, none⟩), .int .i64 (at_ + 1), .func (.func 79) #[] #[.pointer (some ⟨w.heap.size, 0, none⟩)]] wx fun e w' => e = .returned (.tuple #[]) ∧ (∃ ev' q, Cells w' sb (stpC i V F s c cap at_ x vs vc fs fc ev' wr fl) ∧ ERow sb sb w' ev' (EL ++ [q]) ∧ edG q = ⟨at_ + 1, x'⟩) ∧ Below sb wx w') := fun wx hb hp =>
  edge_new sb (at_ + 1) _ w.heap.size EL es ec sb i V F s c cap at_ x vs vc fs fc wr fl w0 wx (hS.call hb) hc0 hx0 hz0 (hB0.trans (hb.mono hB0.size)) K rfl (hER.call hb) hL2 (HC wx hb (hS.call hb) hp)
 have CQ := hS.call hbw
 clear hS hER hc0 hx0 hB0 K hz0 hP1 hb1 HC
 generalize x' = xx at *
 go_enter Tryz.func44, Tryz.ntmps44
 go_upto_region 1 with fail
 refine wp_region_z (S := (fun wx => wx.cell? ⟨w.heap.size, 0, none⟩ = some (.pointer (some ⟨sb, 0, none⟩)))) [4] (by kernel_rfl) PQ0 (fun hHeld => ?_)
 generalize (w.alloc (.cells #[.pointer (some ⟨sb, 0, none⟩)] 88)).drew = wq at *
 refine tZ 0 ?_ ?_;refine sm ?_
 refine tZ 1 ?_ ?_;refine sm ?_
 refine tZ 3 ?_ ?_;refine sm ?_
 refine wpAnyZ_one (i := 2) rfl (by kernel_rfl) (fun K hK => ?_)
 go_simp
 refine (next_any sb at_ _ wq CQ rfl ha0 ha1).mono ?_
 rintro e w' ⟨rfl, ew⟩
 rw [ew]
 clear ew w'
 refine hK.out _ _ PQ (fun hHeld => ?_)
 clear hK K
 refine sm ?_
 refine wpAnyZ_last (i := 4) rfl (by kernel_rfl) (by kernel_rfl) (fun K hK => ?_)
 go_simp
 refine (HE.out wq hbw hP2).mono ?_
 rintro e w3 ⟨rfl, ⟨ev', q, C3, E3, eq3⟩, hb3⟩
 have HF : Hid (EdgAns sb w3 (fun ev' => stpC i V F s c cap at_ x vs vc fs fc ev' wr fl) EL [⟨at_ + 1, xx⟩]) := ⟨ev', [q], C3, E3, by simp [eq3]⟩
 have hbz : Below sb w w3 := (hbw.mono (Nat.le_of_lt hsb)).trans hb3
 clear C3 E3 eq3 hb3 hP2 HE PQ CQ hbw
 refine hK.out _ _ ?_
 clear hK K
 refine sm ?_
 refine wpAnyZ_done (by kernel_rfl) ?_ _
 first | go_end0 | refine bodyPost_ret (results_none rfl _ _ _) rfl ?_
 exact ⟨rfl, HF.out, hbz⟩
end
section
set_option maxHeartbeats 4000000
set_option maxRecDepth 10000
open Go.RowKit
attribute [local go_sem ↓] Go.wp_at_zero Go.wp_at_succ

theorem put_of (x' : Pic) (EL : List Ed) (es : Option Addr) (ec : Nat) (sb : Nat) (i : Ins) (V F : Int) (s : Option Addr) (c : List Ins) (cap : Nat) (at_ : Int) (x : Pic) (vs : Option Addr) (vc : Nat) (fs : Option Addr) (fc : Nat) (wr fl : Bool) (w0 w : World) (hS : Cells w sb (stpC i V F s c cap at_ x vs vc fs fc (.slice es EL.length ec) wr fl)) (hc0 : CodeAt w0 s c) (hx0 : PicAt w0 x vs fs) (hz0 : w0.heap.size ≤ sb) (hB0 : Below w0.heap.size w0 w) (K : SCtx V F c x vc fc i at_) (hER : ERow sb sb w (.slice es EL.length ec) EL) (hL2 : EL.length ≤ 10) (hA : nA i.k = true) (HC : ∀ wx ss gc tb, Below w0.heap.size w0 wx → Cells wx sb (stpC i V F s c cap at_ x vs vc fs fc (.slice es EL.length ec) (noThing (gAt x i.a)) fl) → Cells wx w.heap.size [.pointer (some ⟨sb, 0, none⟩)] → Cells wx tb [.slice ss (gAt x i.a).s.length gc] → IntsAt w0 ss (gAt x i.a).s → ChangeC 81 (fun p => #[p, .pointer (some ⟨tb, 0, none⟩), .pointer (some ⟨w.heap.size, 0, none⟩)]) sb sb (Value.slice es EL.length ec).ownBlock wx x x') :
  Calls Tryz.prog 45 #[.pointer (some ⟨sb, 0, none⟩)] w fun e w' => e = .returned (.tuple #[]) ∧ EdgAns sb w' (fun ev' => stpC i V F s c cap at_ x vs vc fs fc ev' (noThing (gAt x i.a)) fl) EL (if (gAt x i.a).s.length = 0 then [] else [⟨at_ + 1, x'⟩]) ∧ Below sb w w' := by
 have hsb := hS.2.1
 have ha0 := K.a0
 have ha1 : at_ ≤ 1000 := by have := K.a1; have := K.lens; omega
 have hb1 : Below w.heap.size w (w.alloc (.cells #[.pointer (some ⟨sb, 0, none⟩)] 88)) := by go_grown
 have hP1 : Cells (w.alloc (.cells #[.pointer (some ⟨sb, 0, none⟩)] 88)) w.heap.size [.pointer (some ⟨sb, 0, none⟩)] := Cells.new w 88 [.pointer (some ⟨sb, 0, none⟩)]
 have HT := hideH (things_any sb i V F s c cap at_ x vs vc fs fc _ wr fl w0 (w.alloc (.cells #[.pointer (some ⟨sb, 0, none⟩)] 88)) (hS.call hb1) hc0 hx0 hz0 (hB0.trans (hb1.mono hB0.size)) K hA)
 have HE : Hid (∀ wx, Below w0.heap.size w0 wx → Cells wx sb (stpC i V F s c cap at_ x vs vc fs fc (.slice es EL.length ec) (noThing (gAt x i.a)) fl) → ERow sb sb wx (.slice es EL.length ec) EL → ∀ tb ss gc, IntsAt w0 ss (gAt x i.a).s → Cells wx w.heap.size [.pointer (some ⟨sb, 0, none⟩)] → Cells wx tb [.slice ss (gAt x i.a).s.length gc] → Calls Tryz.prog 49 #[.pointer (some ⟨sb, 0, none⟩), .int .i64 (at_ + 1), .func (.func 81) #[] #[.pointer (some ⟨tb, 0, none⟩), .pointer (some ⟨w.heap.size, 0, none⟩)]] wx fun e w' => e = .returned (.tuple #[]) ∧ (∃ ev' q, Cells w' sb (stpC i V F s c cap at_ x vs vc fs fc ev' (noThing (gAt x i.a)) fl) ∧ ERow sb sb w' ev' (EL ++ [q]) ∧ edG q = ⟨at_ + 1, x'⟩) ∧ Below sb wx w') := fun wx hb hs hr tb ss gc hi hp hq =>
  edge_put sb (at_ + 1) _ tb w.heap.size EL es ec sb i V F s c cap at_ x vs vc fs fc _ fl w0 wx hs hc0 hx0 hz0 hb K rfl hr hL2 (HC wx ss gc tb hb hs hp hq hi)
 have hER1 := hER.call hb1
 have hB1 := hB0.trans (hb1.mono hB0.size)
 have hzz := hideH hz0
 clear hS hER hc0 hx0 hB0 K hz0 HC hA
 generalize x' = xx at *
 generalize eN : noThing (gAt x i.a) = nt at *
 clear eN
 generalize eL : (gAt x i.a).s = l at *
 clear eL
 generalize eM : l.length = ln at *
 go_enter Tryz.func45, Tryz.ntmps45
 go_wp2_with (go_at_call 80; fail)
 generalize eW : w.alloc (.cells #[.pointer (some ⟨sb, 0, none⟩)] 88) = w1 at *
 refine HT.out.mono ?_
 rintro e w2 ⟨⟨ss, gc, rfl, hi, hl1, hl2⟩, C2, M2⟩
 have hP2 : Cells w2 w.heap.size [.pointer (some ⟨sb, 0, none⟩)] := hP1.same (M2.2 _ hP1.2.1 (Nat.ne_of_gt hsb)) M2.1.size
 have hE2 := hER1.same (fun b _ hne hlt => M2.2 b hlt hne) M2.1.size
 have hB2 : Below w0.heap.size w0 w2 := hB1.trans (M2.1.mono hzz.out)
 have hM2 : Below sb w w2 := (hb1.mono (Nat.le_of_lt hsb)).trans M2.1
 clear hP1 hER1 hB1 hb1 M2 HT eW
 have hb3 : Below w2.heap.size w2 (w2.alloc (.cells #[.slice ss ln gc] 59)) := by go_grown
 have T3 : Cells (w2.alloc (.cells #[.slice ss ln gc] 59)) w2.heap.size [.slice ss ln gc] := Cells.new w2 59 [.slice ss ln gc]
 have hzb : sb ≤ w2.heap.size := Nat.le_of_lt C2.2.1
 have C3 := C2.call hb3
 have P3 := hP2.call hb3
 have R3 := hE2.call hb3
 have B3 := hB2.trans (hb3.mono hB2.size)
 have M3 := hM2.trans (hb3.mono hzb)
 have HE3 := hideH (fun wx h1 h2 h3 => HE.out wx h1 h2 h3 w2.heap.size ss gc hi)
 clear HE C2 hP2 hE2 hB2 hM2 hzb hi hb3
 have t0 := T3.1 0 _ rfl
 have p0 := P3.1 0 _ rfl
 have HH := hideH (And.intro C3 (And.intro P3 (And.intro R3 (And.intro B3 (And.intro M3 T3)))))
 clear C3 P3 R3 B3 M3 T3
 have HQ : Hid (l.length = ln) := eM
 clear eM
 rcases Nat.eq_zero_or_pos ln with hz | hz
 ·subst hz
  obtain ⟨C3, P3, R3, B3, M3, T3⟩ := HH.out
  have HF : Hid (EdgAns sb (w2.alloc (.cells #[.slice ss 0 gc] 59)) (fun ev' => stpC i V F s c cap at_ x vs vc fs fc ev' nt fl) EL []) := ⟨_, [], C3, by rw [List.append_nil]; exact R3, rfl⟩
  have hbz : Below sb w (w2.alloc (.cells #[.slice ss 0 gc] 59)) := M3
  clear C3 P3 R3 B3 M3 T3 HE3 HH
  go_wp2
  first | go_end0 | refine bodyPost_ret (results_none rfl _ _ _) rfl ?_
  exact ⟨rfl, HF.out, hbz⟩
 ·have hc : ((ln : Int) == 0) = false := by simp; omega
  have hn : ¬ ln = 0 := by omega
  have HNZ := hideH hn
  clear hn hz
  go_upto_region 3 with fail
  generalize eW : w2.alloc (.cells #[.slice ss ln gc] 59) = w3 at *
  clear eW
  obtain ⟨C3, P3, R3, B3, M3, T3⟩ := HH.out
  have hdr : Below w3.heap.size w3 w3.drew := (Below.refl _ _).drew
  have CQ := C3.call hdr
  have hPq := P3.call hdr
  have hRq := R3.call hdr
  have hBq := B3.drew
  have hMq := M3.drew
  have hTq := T3.call hdr
  have PQ := hPq.1 0 _ rfl
  clear C3 P3 R3 B3 M3 T3 HH hdr t0 p0
  refine wp_region_z (S := (fun wx => wx.cell? ⟨w.heap.size, 0, none⟩ = some (.pointer (some ⟨sb, 0, none⟩)))) [4] (by kernel_rfl) PQ (fun hHeld => ?_)
  generalize w3.drew = wq at *
  refine tZ 0 ?_ ?_;refine sm ?_
  refine tZ 1 ?_ ?_;refine sm ?_
  refine tZ 3 ?_ ?_;refine sm ?_
  refine wpAnyZ_one (i := 2) rfl (by kernel_rfl) (fun K hK => ?_)
  go_simp
  refine (next_any sb at_ _ wq CQ rfl ha0 ha1).mono ?_
  rintro e w' ⟨rfl, ew⟩
  rw [ew]
  clear ew w'
  refine hK.out _ _ PQ (fun hHeld => ?_)
  clear hK K
  refine sm ?_
  refine wpAnyZ_last (i := 4) rfl (by kernel_rfl) (by kernel_rfl) (fun K hK => ?_)
  go_simp
  refine (HE3.out wq hBq CQ hRq hPq hTq).mono ?_
  rintro e w4 ⟨rfl, ⟨ev', q, C3, E3, eq3⟩, hb3⟩
  have HF : Hid (EdgAns sb w4 (fun ev' => stpC i V F s c cap at_ x vs vc fs fc ev' nt fl) EL [⟨at_ + 1, xx⟩]) := ⟨ev', [q], C3, E3, by simp [eq3]⟩
  have hbz : Below sb w w4 := hMq.trans hb3
  clear C3 E3 eq3 hb3 hPq hTq HE3 PQ CQ hMq hBq hRq
  refine hK.out _ _ ?_
  clear hK K
  refine sm ?_
  refine wpAnyZ_done (by kernel_rfl) ?_ _
  first | go_end0 | refine bodyPost_ret (results_none rfl _ _ _) rfl ?_
  exact ⟨rfl, by rw [if_neg HNZ.out]; exact HF.out, hbz⟩
end
section
open Go.RowKit
def nulC (y : Gc) : Gc := ⟨{ y.g with n := true }, y.ss, y.cap⟩
def nulL (j : Nat) (l : List Gc) : List Gc := (l.take j).map nulC ++ l.drop j
theorem nulL_len (j : Nat) (l : List Gc) : (nulL j l).length = l.length := by simp [nulL]; omega
theorem nulL_get {j : Nat} {l : List Gc} (h : j < l.length) : (nulL j l)[j]'(by rw [nulL_len]; exact h) = l[j] := by
 simp only [nulL]
 rw [List.getElem_append_right (by simp; omega)]
 simp only [List.length_map, List.length_take, List.getElem_drop]
 congr 1
 omega
theorem nulL_step {j : Nat} {l : List Gc} (h : j < l.length) : (nulL j l).set j (nulC l[j]) = nulL (j + 1) l := by
 unfold nulL
 rw [List.set_append_right _ _ (by simp; omega), List.take_succ_eq_append_getElem h, List.map_append, List.append_assoc, List.drop_eq_getElem_cons h]
 have e : j - (List.map nulC (l.take j)).length = 0 := by simp; omega
 rw [e]
 rfl
theorem nulL_end {j : Nat} {l : List Gc} (h : l.length ≤ j) : nulL j l = l.map nulC := by simp [nulL, List.take_of_length_le h, List.drop_of_length_le h]
theorem nulL_zero (l : List Gc) : nulL 0 l = l := by simp [nulL]
def nulR (L : List Ro) (m j : Nat) (hm : m < L.length) : List Ro := L.set m ⟨L[m].rs, L[m].rc, nulL j L[m].l⟩
theorem nulR_len (L : List Ro) (m j : Nat) (hm : m < L.length) : (nulR L m j hm).length = L.length := by simp [nulR]
theorem nulR_get (L : List Ro) (m j : Nat) (hm : m < L.length) : (nulR L m j hm)[m]'(by rw [nulR_len]; exact hm) = ⟨L[m].rs, L[m].rc, nulL j L[m].l⟩ := by simp [nulR]
theorem nulR_zero (L : List Ro) (m : Nat) (hm : m < L.length) : nulR L m 0 hm = L := by
 unfold nulR
 rw [nulL_zero]
 exact List.set_getElem_self hm
theorem nulR_roV (L : List Ro) (m j : Nat) (hm : m < L.length) : roV ((nulR L m j hm)[m]'(by rw [nulR_len]; exact hm)) = .slice L[m].rs L[m].l.length L[m].rc := by rw [nulR_get]; unfold roV; rw [nulL_len]
theorem nulR_roB (L : List Ro) (m j : Nat) (hm : m < L.length) : (nulR L m j hm).map roB = L.map roB := by
 unfold nulR
 rw [List.map_set, roB_set (v := L[m]) (nulL_len _ _), ← List.getElem_map (f := roB) (h := by simpa using hm), List.set_getElem_self]
section
variable {T : Nat → Prop} {B : Nat} {w : World} {v : Ro} {fs : Option Addr} {fc : Nat} {L : List Ro} {m j b : Nat}
theorem PicG.nul {hm : m < L.length} (h : PicG T B w v fs fc (nulR L m j hm)) (hb : L[m].rs = some ⟨b, 0, none⟩) (hj : j < L[m].l.length) : PicG T B (w.setCell ⟨b, j * 7, none⟩ (.bool true)) v fs fc (nulR L m (j + 1) hm) := by
 have hm' : m < (nulR L m j hm).length := by rw [nulR_len]; exact hm
 have e0 := nulR_get L m j hm
 have hk : j < (nulR L m j hm)[m].l.length := by rw [e0]; simpa [nulL_len] using hj
 have e1 : (nulR L m j hm)[m].l[j] = L[m].l[j] := by
  have : ∀ (r : Ro) (hr : (nulR L m j hm)[m] = r) (h' : j < r.l.length), (nulR L m j hm)[m].l[j] = r.l[j] := by intro r hr h'; subst hr; rfl
  rw [this _ e0 (by simpa [nulL_len] using hj)]
  exact nulL_get hj
 have g1 := h.sf _ (List.getElem_mem hm') _ (List.getElem_mem hk)
 rw [e1] at g1
 have h1 := h.putF hm' (b := b) (by rw [e0]; exact hb) (k := j) (j := 0) (u := .bool true) (x' := nulC L[m].l[j]) hk (by omega) (by rw [e1]; rfl) ⟨g1.1, g1.2⟩
 rw [e0] at h1
 have e2 : (nulR L m j hm).set m ⟨L[m].rs, L[m].rc, (nulL j L[m].l).set j (nulC L[m].l[j])⟩ = nulR L m (j + 1) hm := by
  rw [nulL_step hj]
  unfold nulR
  rw [List.set_set]
 rw [e2] at h1
 exact h1
theorem nulR_off {hm : m < L.length} {fb : Option Nat} {q : Nat} : Off v fb (nulR L m j hm) q ↔ Off v fb L q := by
 have : (∀ r ∈ nulR L m j hm, roB r ≠ some q) ↔ ∀ r ∈ L, roB r ≠ some q := by
  have h1 : ∀ l : List Ro, (∀ r ∈ l, roB r ≠ some q) ↔ ∀ o ∈ l.map roB, o ≠ some q := fun l => by simp
  rw [h1, h1, nulR_roB]
 unfold Off
 rw [this]
theorem nulR_pic {hm : m < L.length} {n : Bool} (hj : L[m].l.length ≤ j) : picOf n v (nulR L m j hm) = newPic (m : Int) (picOf n v L) := by
 unfold nulR picOf newPic
 rw [nulL_end hj]
 simp only [List.map_set, roG, Int.toNat_natCast, List.map_map]
 congr 1
 refine List.ext_getElem? fun q => ?_
 rw [List.getElem?_set, List.getElem?_modify]
 by_cases e : m = q
 ·subst e
  simp [hm, roG, nulC, Function.comp_def]
 ·simp [e]
end
end
section
set_option maxHeartbeats 8000000
set_option maxRecDepth 10000
open Go.RowKit
attribute [local go_sem ↓] Go.wp_at_zero Go.wp_at_succ

theorem ch_new (n sb : Nat) (eb : Option Nat) (i : Ins) (V F : Int) (s : Option Addr) (c : List Ins) (cap : Nat) (at_ : Int) (x : Pic) (vs : Option Addr) (vc : Nat) (fs : Option Addr) (fc : Nat) (ev : Value) (wr fl : Bool) (pb : Nat) (w : World) (hS : Cells w sb (stpC i V F s c cap at_ x vs vc fs fc ev wr fl)) (hP : Cells w pb [.pointer (some ⟨sb, 0, none⟩)]) (hk : ∃ k : Nat, i.tgt = k ∧ k < x.vars.length) (hm : ∃ m : Nat, at_ = m ∧ m < x.flds.length) (hn : n ≤ w.heap.size) (he : ∀ b, eb = some b → b < w.heap.size) :
  ChangeC 79 (fun p => #[p, .pointer (some ⟨pb, 0, none⟩)]) n sb eb w x (setVar (newPic at_ x) i.tgt ⟨false, ⟨true, 0, 0⟩, false, false, [at_]⟩) := by
 intro wx xb v gs gcc L hb0 hp
 obtain ⟨zxb, A0, G0, OF, EX⟩ := hp
 have hdr : Below wx.heap.size wx wx.drew := (Below.refl _ _).drew
 have hb := hb0.drew
 have A := A0.call hdr
 have G := G0.call hdr
 have hsz : w.heap.size ≤ wx.heap.size := hb0.size
 have hzd : wx.heap.size ≤ wx.drew.heap.size := hdr.size
 have hbd : Below w.heap.size wx wx.drew := hdr.mono hsz
 clear hb0 A0 G0 hdr
 obtain ⟨k, ek, hkx⟩ := hk
 obtain ⟨m, em, hmx⟩ := hm
 have hkv : k < v.l.length := by rw [← EX] at hkx; simpa [picOf, roG] using hkx
 have hmL : m < L.length := by rw [← EX] at hmx; simpa [picOf] using hmx
 obtain ⟨vb, evb, eb1, hvb, zvb⟩ := G.vars.form (by omega)
 have nxv : xb ≠ vb := fun e => OF.1 (by rw [eb1, e])
 obtain ⟨fb, efb, hfb, zfb, -⟩ := G.fform (by omega)
 subst efb
 have hLM : L[m].l.length ≤ 9223372036854775807 := by
  have h := (G.rows _ (List.getElem_mem hmL)).caps
  unfold maxLen at h
  omega
 have n0 : (0 : Int) ≤ (k : Int) := by omega
 have n1 : (k : Int) < (v.l.length : Int) := by omega
 have m0 : (0 : Int) ≤ (m : Int) := by omega
 have m1 : (m : Int) < (L.length : Int) := by omega
 have hsb := hS.2.1
 have hxb := A.2.1
 have HSP : Hid (∀ wz, Below w.heap.size w wz → wz.cell? ⟨pb, 0, none⟩ = some (.pointer (some ⟨sb, 0, none⟩)) ∧ wz.cell? ⟨sb, 1, none⟩ = some (.int .i64 (k : Int)) ∧ wz.cell? ⟨sb, 9, none⟩ = some (.int .i64 (m : Int))) := fun wz hz => ⟨(hP.call hz).1 0 _ rfl, by rw [← ek]; exact (hS.call hz).1 1 _ rfl, by rw [← em]; exact (hS.call hz).1 9 _ rfl⟩
 have HKZ : Hid (∀ wz, Below wx.drew.heap.size wx.drew wz → wz.cell? ⟨xb, 1, none⟩ = some (.slice (some ⟨vb, 0, none⟩) v.l.length v.rc) ∧ wz.cell? ⟨pb, 0, none⟩ = some (.pointer (some ⟨sb, 0, none⟩)) ∧ wz.cell? ⟨sb, 1, none⟩ = some (.int .i64 (k : Int)) ∧ wz.cell? ⟨sb, 9, none⟩ = some (.int .i64 (m : Int))) := fun wz hz => by
  have h1 := (A.call hz).1 1 _ rfl
  rw [evb] at h1
  have h2 := HSP.out wz (hb.trans (hz.mono (Nat.le_trans hsz hzd)))
  exact ⟨h1, h2.1, h2.2.1, h2.2.2⟩
 have hba : Below wx.drew.heap.size wx.drew (wx.drew.alloc (.cells #[.int .i64 (m : Int)] 3)) := by go_grown
 have GN := G.call hba
 have GI : GcIn (fun b => ClT n sb eb xb b ∧ Off v (Value.slice (some ⟨fb, 0, none⟩) L.length gcc).ownBlock L b) (wx.drew.alloc (.cells #[.int .i64 (m : Int)] 3)) (⟨⟨false, ⟨true, 0, 0⟩, false, false, [(m : Int)]⟩, some ⟨wx.drew.heap.size, 0, none⟩, 1⟩ : Gc) := by
  refine ⟨.inr ⟨_, 0, rfl, ⟨⟨by omega, by omega, by omega, fun e => by have := he _ e; omega⟩, fun e => ?_, fun e => ?_, fun r hr e => ?_⟩, by simp, fun q hq => ?_⟩, Nat.le_refl _, by show 1 ≤ maxLen; unfold maxLen; omega⟩
  ·have := (G.vars.lt e).1; omega
  ·have := (ownsI_lt G.flds e).1; omega
  ·have := ((G.rows r hr).lt e).1; omega
  ·have eq0 : q = 0 := by simpa using hq
   subst eq0
   simp [go_sem]
 have GZ := GN.setV evb hkv GI
 have GU := GN.vars.gu evb hkv
 have TH := hideH (GN.vars.thaw evb)
 have hbx : Below w.heap.size wx (set7 (wx.drew.alloc (.cells #[.int .i64 (m : Int)] 3)) vb k (⟨⟨false, ⟨true, 0, 0⟩, false, false, [(m : Int)]⟩, some ⟨wx.drew.heap.size, 0, none⟩, 1⟩ : Gc)) := below_set7 (hbd.trans (hba.mono (Nat.le_trans hsz hzd))) hvb
 have hbw : Below w.heap.size w (set7 (wx.drew.alloc (.cells #[.int .i64 (m : Int)] 3)) vb k (⟨⟨false, ⟨true, 0, 0⟩, false, false, [(m : Int)]⟩, some ⟨wx.drew.heap.size, 0, none⟩, 1⟩ : Gc)) := below_set7 (hb.trans (hba.mono (Nat.le_trans hsz hzd))) hvb
 have AZ : Cells (set7 (wx.drew.alloc (.cells #[.int .i64 (m : Int)] 3)) vb k (⟨⟨false, ⟨true, 0, 0⟩, false, false, [(m : Int)]⟩, some ⟨wx.drew.heap.size, 0, none⟩, 1⟩ : Gc)) xb [.bool false, .slice v.rs v.l.length v.rc, .slice (some ⟨fb, 0, none⟩) L.length gcc] := (A.call hba).same (heap_set7 nxv) (by rw [size_set7]; exact Nat.le_refl _)
 have HH : Hid (∃ y : Gc, y.g = ⟨false, ⟨true, 0, 0⟩, false, false, [(m : Int)]⟩ ∧ PicG (ClT n sb eb xb) w.heap.size ((((((((wx.drew.alloc (.cells #[.int .i64 (m : Int)] 3)).setCell ⟨vb, k * 7, none⟩ (.bool false)).setCell ⟨vb, k * 7 + 1, none⟩ (.bool true)).setCell ⟨vb, k * 7 + 2, none⟩ (.int .i64 0)).setCell ⟨vb, k * 7 + 3, none⟩ (.int .i64 0)).setCell ⟨vb, k * 7 + 4, none⟩ (.bool false)).setCell ⟨vb, k * 7 + 5, none⟩ (.bool false)).setCell ⟨vb, k * 7 + 6, none⟩ (.slice (some ⟨wx.drew.heap.size, 0, none⟩) 1 1)) ⟨v.rs, v.rc, v.l.set k y⟩ (some ⟨fb, 0, none⟩) gcc L ∧ Below w.heap.size wx ((((((((wx.drew.alloc (.cells #[.int .i64 (m : Int)] 3)).setCell ⟨vb, k * 7, none⟩ (.bool false)).setCell ⟨vb, k * 7 + 1, none⟩ (.bool true)).setCell ⟨vb, k * 7 + 2, none⟩ (.int .i64 0)).setCell ⟨vb, k * 7 + 3, none⟩ (.int .i64 0)).setCell ⟨vb, k * 7 + 4, none⟩ (.bool false)).setCell ⟨vb, k * 7 + 5, none⟩ (.bool false)).setCell ⟨vb, k * 7 + 6, none⟩ (.slice (some ⟨wx.drew.heap.size, 0, none⟩) 1 1)) ∧ Below w.heap.size w ((((((((wx.drew.alloc (.cells #[.int .i64 (m : Int)] 3)).setCell ⟨vb, k * 7, none⟩ (.bool false)).setCell ⟨vb, k * 7 + 1, none⟩ (.bool true)).setCell ⟨vb, k * 7 + 2, none⟩ (.int .i64 0)).setCell ⟨vb, k * 7 + 3, none⟩ (.int .i64 0)).setCell ⟨vb, k * 7 + 4, none⟩ (.bool false)).setCell ⟨vb, k * 7 + 5, none⟩ (.bool false)).setCell ⟨vb, k * 7 + 6, none⟩ (.slice (some ⟨wx.drew.heap.size, 0, none⟩) 1 1)) ∧ Cells ((((((((wx.drew.alloc (.cells #[.int .i64 (m : Int)] 3)).setCell ⟨vb, k * 7, none⟩ (.bool false)).setCell ⟨vb, k * 7 + 1, none⟩ (.bool true)).setCell ⟨vb, k * 7 + 2, none⟩ (.int .i64 0)).setCell ⟨vb, k * 7 + 3, none⟩ (.int .i64 0)).setCell ⟨vb, k * 7 + 4, none⟩ (.bool false)).setCell ⟨vb, k * 7 + 5, none⟩ (.bool false)).setCell ⟨vb, k * 7 + 6, none⟩ (.slice (some ⟨wx.drew.heap.size, 0, none⟩) 1 1)) xb [.bool false, .slice v.rs v.l.length v.rc, .slice (some ⟨fb, 0, none⟩) L.length gcc]) := ⟨(⟨⟨false, ⟨true, 0, 0⟩, false, false, [(m : Int)]⟩, some ⟨wx.drew.heap.size, 0, none⟩, 1⟩ : Gc), rfl, GZ, hbx, hbw, AZ⟩
 have HEX : Hid (picOf false v L = x) := EX
 have HOF : Hid (Off v (Value.slice (some ⟨fb, 0, none⟩) L.length gcc).ownBlock L xb) := OF
 have HEK : Hid (i.tgt = k ∧ at_ = m) := ⟨ek, em⟩
 have HEV : Hid (v.rs = some ⟨vb, 0, none⟩) := evb
 clear GZ hbx hbw AZ GI GN A G EX OF ek em hS hP hb hbd he hn evb eb1 hkx hmx hsz hzd
 go_enter Tryz.func79, Tryz.ntmps79
 go_upto_region 0 with fail
 refine wp_region_z (S := (fun wx => wx.cell? ⟨xb, 1, none⟩ = some (.slice (some ⟨vb, 0, none⟩) v.l.length v.rc) ∧ wx.cell? ⟨pb, 0, none⟩ = some (.pointer (some ⟨sb, 0, none⟩)) ∧ wx.cell? ⟨sb, 1, none⟩ = some (.int .i64 (k : Int)) ∧ wx.cell? ⟨sb, 9, none⟩ = some (.int .i64 (m : Int)))) [17] (by kernel_rfl) (HKZ.out _ (Below.refl _ _)) (fun hHeld => ?_)
 generalize wx.drew = wq at *
 refine tZ 0 ?_ ?_;refine sm ?_
 refine tZ 1 ?_ ?_;refine sm ?_
 refine tZ 2 ?_ ?_;refine sm ?_
 refine tZ 3 ?_ ?_;refine sm ?_
 refine tZ 4 ?_ ?_;refine sm ?_
 refine tZ 5 ?_ ?_;refine sm ?_
 refine tZ 6 ?_ ?_;refine sm ?_
 refine tZ 7 ?_ ?_;refine sm ?_
 refine tZ 8 ?_ ?_;refine sm ?_
 refine tZ 9 ?_ ?_;refine sm ?_
 refine tZ 10 ?_ ?_;refine sm ?_
 refine tZ 11 ?_ ?_;refine sm ?_
 refine tZ 12 ?_ ?_;refine sm ?_
 refine tZ 13 ?_ ?_;refine sm ?_
 refine wpAnyZ_one (i := 14) rfl (by kernel_rfl) (fun K hK => ?_)
 go_simp
 refine hK.out _ _ (HKZ.out _ hba) (fun hHeld => ?_)
 clear hK K
 refine sm ?_
 generalize eA : wq.alloc (.cells #[.int .i64 (m : Int)] 3) = wa at *
 clear eA
 generalize eB : wq.heap.size = nb0 at *
 clear eB
 refine tZ 15 ?_ ?_;refine sm ?_
 refine tZ 16 ?_ ?_;refine sm ?_
 refine wpAnyZ_last (i := 17) rfl (by kernel_rfl) (by kernel_rfl) (fun K hK => ?_)
 obtain ⟨⟨q0, q1, q2, q3, q4, q5, q6⟩, qz⟩ := id GU
 have f0 := TH.out (k * 7)
 have f1 := TH.out (k * 7 + 1)
 have f2 := TH.out (k * 7 + 2)
 have f3 := TH.out (k * 7 + 3)
 have f4 := TH.out (k * 7 + 4)
 have f5 := TH.out (k * 7 + 5)
 have f6 := TH.out (k * 7 + 6)
 go_simp
 refine hK.out _ _ ?_
 clear hK K q0 q1 q2 q3 q4 q5 q6 qz f0 f1 f2 f3 f4 f5 f6
 refine sm ?_
 refine wpAnyZ_done (by kernel_rfl) ?_ _
 generalize eW : (((((((wa.setCell ⟨vb, k * 7, none⟩ (.bool false)).setCell ⟨vb, k * 7 + 1, none⟩ (.bool true)).setCell ⟨vb, k * 7 + 2, none⟩ (.int .i64 0)).setCell ⟨vb, k * 7 + 3, none⟩ (.int .i64 0)).setCell ⟨vb, k * 7 + 4, none⟩ (.bool false)).setCell ⟨vb, k * 7 + 5, none⟩ (.bool false)).setCell ⟨vb, k * 7 + 6, none⟩ (.slice (some ⟨nb0, 0, none⟩) 1 1)) = w3 at *
 clear eW GU TH HKZ hba
 obtain ⟨y, ey, G3, hbx, hbw, A3⟩ := HH.out
 have HEY : Hid (y.g = ⟨false, ⟨true, 0, 0⟩, false, false, [(m : Int)]⟩) := ey
 clear HH ey
 have hd3 : Below w3.heap.size w3 w3.drew := (Below.refl _ _).drew
 have G4 := G3.call hd3
 have A4 := A3.call hd3
 have hbx4 := hbx.drew
 have hbw4 := hbw.drew
 clear G3 A3 hbx hbw hd3
 have hcm := (G4.fform (by omega))
 obtain ⟨fb', efb', -, -, hcm⟩ := hcm
 cases efb'
 have HK1 : Hid (w3.drew.cell? ⟨xb, 2, none⟩ = some (.slice (some ⟨fb, 0, none⟩) L.length gcc) ∧ w3.drew.cell? ⟨pb, 0, none⟩ = some (.pointer (some ⟨sb, 0, none⟩)) ∧ w3.drew.cell? ⟨sb, 9, none⟩ = some (.int .i64 (m : Int)) ∧ w3.drew.cell? ⟨fb, m, none⟩ = some (.slice L[m].rs L[m].l.length L[m].rc)) := ⟨A4.1 2 _ rfl, (HSP.out _ hbw4).1, (HSP.out _ hbw4).2.2, hcm m hmL⟩
 clear hcm
 go_upto_region 1 with fail
 refine wp_region_z (S := (fun wx => wx.cell? ⟨xb, 2, none⟩ = some (.slice (some ⟨fb, 0, none⟩) L.length gcc) ∧ wx.cell? ⟨pb, 0, none⟩ = some (.pointer (some ⟨sb, 0, none⟩)) ∧ wx.cell? ⟨sb, 9, none⟩ = some (.int .i64 (m : Int)) ∧ wx.cell? ⟨fb, m, none⟩ = some (.slice L[m].rs L[m].l.length L[m].rc))) [] (by kernel_rfl) HK1.out (fun hHeld => ?_)
 generalize w3.drew = w4 at *
 refine tZ 0 ?_ ?_;refine sm ?_
 refine tZ 1 ?_ ?_;refine sm ?_
 refine tZ 2 ?_ ?_;refine sm ?_
 refine tZ 3 ?_ ?_;refine sm ?_
 refine tZ 4 ?_ ?_;refine sm ?_
 refine tZ 5 ?_ ?_;refine sm ?_
 refine tZ 6 ?_ ?_;refine sm ?_
 refine tZ 7 ?_ ?_;refine sm ?_
 refine tZ 8 ?_ ?_;refine sm ?_
 refine tZ 9 ?_ ?_;refine sm ?_
 refine tZ 10 ?_ ?_;refine sm ?_
 refine tZ 11 ?_ ?_;refine sm ?_
 refine wpAnyZ_done (by kernel_rfl) ?_ _
 clear HK1
 go_wp2
 go_loopw [32] (fun i wr => ∃ j : Nat, j ≤ L[m].l.length ∧ i = .int .i64 j ∧ Cells wr xb [.bool false, .slice v.rs v.l.length v.rc, .slice (some ⟨fb, 0, none⟩) L.length gcc] ∧ PicG (ClT n sb eb xb) w.heap.size wr ⟨v.rs, v.rc, v.l.set k y⟩ (some ⟨fb, 0, none⟩) gcc (nulR L m j hmL) ∧ Below w.heap.size wx wr ∧ Below w.heap.size w wr) (fun i _ => L[m].l.length - (intOf i).toNat)
 case atStart => exact ⟨0, Nat.zero_le _, rfl, A4, by rw [nulR_zero]; exact G4, hbx4, hbw4⟩
 case round =>
  clear A4 G4 hbx4 hbw4
  obtain ⟨j, hj, rfl, AR, GR, BR, CR⟩ := hrel
  by_cases hlt : j < L[m].l.length
  ·have j0 : (0 : Int) ≤ (j : Int) := by omega
   have j1 : (j : Int) < (L[m].l.length : Int) := by omega
   have hdw : Below wr.heap.size wr wr.drew := (Below.refl _ _).drew
   have A5 := AR.call hdw
   have G5 := GR.call hdw
   have B5 := BR.drew
   have C5 := CR.drew
   clear AR GR BR CR hdw
   have hm' : m < (nulR L m j hmL).length := by rw [nulR_len]; exact hmL
   have RW := G5.rows _ (List.getElem_mem hm')
   have nx : roB (nulR L m j hmL)[m] ≠ some xb := (nulR_off.2 HOF.out).2.2 _ (List.getElem_mem hm')
   rw [nulR_get] at RW nx
   obtain ⟨rb, erb, erB, hrb, zrb⟩ := RW.form (by show 0 < (nulL j L[m].l).length; rw [nulL_len]; omega)
   have nxr : xb ≠ rb := fun e => nx (by rw [erB, e])
   have GUR := RW.gu erb (k := j) (by show j < (nulL j L[m].l).length; rw [nulL_len]; exact hlt)
   have q0 := GUR.1.1
   have f0 := RW.thaw erb (j * 7)
   have erb' : L[m].rs = some ⟨rb, 0, none⟩ := erb
   obtain ⟨fb', efb', -, -, hcm⟩ := G5.fform (by rw [nulR_len]; omega)
   cases efb'
   have hcm' := hcm m hm'
   rw [nulR_roV, erb'] at hcm'
   have HK4 : Hid (wr.drew.cell? ⟨xb, 2, none⟩ = some (.slice (some ⟨fb, 0, none⟩) L.length gcc) ∧ wr.drew.cell? ⟨pb, 0, none⟩ = some (.pointer (some ⟨sb, 0, none⟩)) ∧ wr.drew.cell? ⟨sb, 9, none⟩ = some (.int .i64 (m : Int)) ∧ wr.drew.cell? ⟨fb, m, none⟩ = some (.slice (some ⟨rb, 0, none⟩) L[m].l.length L[m].rc)) := ⟨A5.1 2 _ rfl, (HSP.out _ C5).1, (HSP.out _ C5).2.2, hcm'⟩
   have HN : Hid (Cells (wr.drew.setCell ⟨rb, j * 7, none⟩ (.bool true)) xb [.bool false, .slice v.rs v.l.length v.rc, .slice (some ⟨fb, 0, none⟩) L.length gcc] ∧ PicG (ClT n sb eb xb) w.heap.size (wr.drew.setCell ⟨rb, j * 7, none⟩ (.bool true)) ⟨v.rs, v.rc, v.l.set k y⟩ (some ⟨fb, 0, none⟩) gcc (nulR L m (j + 1) hmL) ∧ Below w.heap.size wx (wr.drew.setCell ⟨rb, j * 7, none⟩ (.bool true)) ∧ Below w.heap.size w (wr.drew.setCell ⟨rb, j * 7, none⟩ (.bool true))) := ⟨A5.far nxr _, G5.nul erb' hlt, B5.setCell hrb _, C5.setCell hrb _⟩
   have HQ0 := hideH (And.intro q0 f0)
   clear A5 G5 B5 C5 RW nx erb erB hcm hcm' GUR erb' q0 f0
   go_upto_region 4 with fail
   refine wp_region_z (S := (fun wx => wx.cell? ⟨xb, 2, none⟩ = some (.slice (some ⟨fb, 0, none⟩) L.length gcc) ∧ wx.cell? ⟨pb, 0, none⟩ = some (.pointer (some ⟨sb, 0, none⟩)) ∧ wx.cell? ⟨sb, 9, none⟩ = some (.int .i64 (m : Int)) ∧ wx.cell? ⟨fb, m, none⟩ = some (.slice (some ⟨rb, 0, none⟩) L[m].l.length L[m].rc))) [13] (by kernel_rfl) HK4.out (fun hHeld => ?_)
   generalize wr.drew = w5 at *
   refine tZ 0 ?_ ?_;refine sm ?_
   refine tZ 1 ?_ ?_;refine sm ?_
   refine tZ 2 ?_ ?_;refine sm ?_
   refine tZ 3 ?_ ?_;refine sm ?_
   refine tZ 4 ?_ ?_;refine sm ?_
   refine tZ 5 ?_ ?_;refine sm ?_
   refine tZ 6 ?_ ?_;refine sm ?_
   refine tZ 7 ?_ ?_;refine sm ?_
   refine tZ 8 ?_ ?_;refine sm ?_
   refine tZ 9 ?_ ?_;refine sm ?_
   refine tZ 10 ?_ ?_;refine sm ?_
   refine tZ 11 ?_ ?_;refine sm ?_
   refine tZ 12 ?_ ?_;refine sm ?_
   refine wpAnyZ_last (i := 13) rfl (by kernel_rfl) (by kernel_rfl) (fun K hK => ?_)
   obtain ⟨q0, f0⟩ := HQ0.out
   go_simp
   refine hK.out _ _ ?_
   clear hK K
   refine sm ?_
   refine wpAnyZ_done (by kernel_rfl) ?_ _
   clear HK4 HQ0
   go_wp2
   go_roundw
   case rel => exact ⟨j + 1, by omega, by go_num, HN.out.1, HN.out.2.1, HN.out.2.2.1, HN.out.2.2.2⟩
   case measure => simp [intOf]; omega
  ·have j1 : ¬ (j : Int) < (L[m].l.length : Int) := by omega
   have HF : Hid (∃ v' gs' gc' L', ClPre n sb eb w.heap.size wr xb v' gs' gc' L' (setVar (newPic at_ x) i.tgt ⟨false, ⟨true, 0, 0⟩, false, false, [at_]⟩)) := by
    refine ⟨⟨v.rs, v.rc, v.l.set k y⟩, some ⟨fb, 0, none⟩, gcc, nulR L m j hmL, zxb, ?_, GR, nulR_off.2 ((Off.same (roB_set (by simp))).2 HOF.out), ?_⟩
    ·simp only [List.length_set, nulR_len]
     exact AR
    ·rw [nulR_pic (by omega), picOf_setV, HEX.out, HEY.out, HEK.out.1, HEK.out.2]
     rfl
   clear AR GR CR
   go_wp2
   first | go_end0 | refine bodyPost_ret (results_none rfl _ _ _) rfl ?_
   exact ⟨rfl, HF.out, BR⟩
end
section
open Go.RowKit
theorem tog_joinGs {c : List Ins} {g h : Gs} (h60 : c.length ≤ 60) (hg : ckGs c g = 0) (hh : ckGs c h = 0) : togGs joinSp g h = joinGs false g h := by
 have a := ckGs_sites h60 hg
 have b := ckGs_sites h60 hh
 have e : sitesOf [g, h] = siteSet g.s h.s := sitesOf_eq g h a.1 b.1
 unfold togGs joinGs
 rw [e]
 rfl
theorem putPic_step {x : Pic} {n : Int} {b : Gs} {l : List Int} {j : Nat} (h : j < l.length) : putPic x n b (l.take (j + 1)) = setFld (putPic x n b (l.take j)) l[j] n (joinGs false (fAt (putPic x n b (l.take j)) l[j] n) b) := by
 unfold putPic
 rw [List.take_succ_eq_append_getElem h, List.foldl_append]
 rfl
theorem picOf_setF {n : Bool} {v : Ro} {L : List Ro} {m p : Nat} {z : Gc} (hm : m < L.length) : picOf n v (L.set m ⟨L[m].rs, L[m].rc, L[m].l.set p z⟩) = setFld (picOf n v L) (m : Int) (p : Int) z.g := by
 unfold picOf setFld
 simp only [List.map_set, Int.toNat_natCast]
 congr 1
 refine List.ext_getElem? fun q => ?_
 rw [List.getElem?_set, List.getElem?_modify]
 by_cases e : m = q
 ·subst e
  simp [hm, roG, List.map_set]
 ·simp [e]
theorem picOf_fAt {n : Bool} {v : Ro} {L : List Ro} {m p : Nat} (hm : m < L.length) (hp : p < L[m].l.length) : fAt (picOf n v L) (m : Int) (p : Int) = L[m].l[p].g := by
 unfold fAt picOf roG
 simp [List.getD, hm, hp]
theorem picOf_row {V F : Int} {c : List Ins} {n : Bool} {v : Ro} {L : List Ro} (h : PicOk V F c (picOf n v L)) : L.length = c.length ∧ ∀ m (hm : m < L.length), (L[m].l.length : Int) = F := by
 refine ⟨by simpa [picOf] using h.flds, fun m hm => ?_⟩
 have := h.row m (by simpa [picOf] using hm)
 simpa [picOf, roG] using this
theorem off_setF {v : Ro} {fb : Option Nat} {L : List Ro} {m q : Nat} {l : List Gc} (hm : m < L.length) (hl : l.length = L[m].l.length) : Off v fb (L.set m ⟨L[m].rs, L[m].rc, l⟩) q ↔ Off v fb L q := by
 have e : (L.set m ⟨L[m].rs, L[m].rc, l⟩).map roB = L.map roB := by
  rw [List.map_set, roB_set (v := L[m]) hl, ← List.getElem_map (f := roB) (h := by simpa using hm), List.set_getElem_self]
 have : (∀ r ∈ L.set m ⟨L[m].rs, L[m].rc, l⟩, roB r ≠ some q) ↔ ∀ r ∈ L, roB r ≠ some q := by
  have h1 : ∀ l : List Ro, (∀ r ∈ l, roB r ≠ some q) ↔ ∀ o ∈ l.map roB, o ≠ some q := fun l => by simp
  rw [h1, h1, e]
 unfold Off
 rw [this]
/-- Where new sites lie. -/
theorem gcIn_new {n sb H : Nat} {eb : Option Nat} {w w' : World} {xb : Nat} {v : Ro} {gs : Option Addr} {gc : Nat} {L : List Ro} {y : Gc} (hi : IntsAt w' y.ss y.g.s) (hf : ∀ a, y.ss = some a → w.heap.size ≤ a.block) (h1 : y.g.s.length ≤ y.cap) (h2 : y.cap ≤ maxLen) (G : PicG (ClT n sb eb xb) H w v gs gc L) (hx : xb < w.heap.size) (hs : sb < w.heap.size) (hn : n ≤ w.heap.size) (he : ∀ b, eb = some b → b < w.heap.size) : GcIn (fun b => ClT n sb eb xb b ∧ Off v (Value.slice gs L.length gc).ownBlock L b) w' y := by
 refine ⟨?_, h1, h2⟩
 rcases hi with hi | ⟨b, off, e, hb, hc⟩
 ·exact .inl hi
 ·have hz : w.heap.size ≤ b := hf _ e
  refine .inr ⟨b, off, e, ⟨⟨by omega, by omega, by omega, fun e => by have := he _ e; omega⟩, fun e => ?_, fun e => ?_, fun r hr e => ?_⟩, hb, hc⟩
  ·have := (G.vars.lt e).1; omega
  ·have := (ownsI_lt G.flds e).1; omega
  ·have := ((G.rows r hr).lt e).1; omega
end
section
set_option maxHeartbeats 4000000
set_option maxRecDepth 10000
open Go.RowKit
attribute [local go_sem ↓] Go.wp_at_zero Go.wp_at_succ

theorem beginP_err (V F : Int) (s : Option Addr) (c : List Ins) (cap : Nat) (w : World) (hcd : CodeAt w s c) (h : ckProg V F c ≠ 0) :
  Calls Tryz.prog 29 #[pv V F s c cap] w fun e w' => PicE w' e zeroPic (ckProg V F c) ∧ Below w.heap.size w w' := by
 have B0 : Below w.heap.size w ((w.alloc (.cells #[.int .i64 V, .int .i64 F, .slice s c.length cap] 24)).alloc (.cells #[.bool false, .slice none 0 0, .slice none 0 0] 28)) := by go_grown
 have P0 := (PrAt.new w V F s c cap).call (w' := ((w.alloc (.cells #[.int .i64 V, .int .i64 F, .slice s c.length cap] 24)).alloc (.cells #[.bool false, .slice none 0 0, .slice none 0 0] 28))) (by go_grown)
 have Z0 := X3.new (w.alloc (.cells #[.int .i64 V, .int .i64 F, .slice s c.length cap] 24)) 28 (.bool false) (.slice none 0 0) (.slice none 0 0)
 rw [World.size_alloc] at Z0
 have HC := hideH (codeCheck_any V F s cap c ((w.alloc (.cells #[.int .i64 V, .int .i64 F, .slice s c.length cap] 24)).alloc (.cells #[.bool false, .slice none 0 0, .slice none 0 0] 28)) (hcd.below B0 (Nat.le_refl _)))
 have d1 : (ckProg V F c != 0) = true := by simpa using h
 generalize ckProg V F c = ce at *
 clear h hcd P0
 go_enter Tryz.func29, Tryz.ntmps29
 go_wp2_with (go_at_call 64; fail)
 refine HC.out.mono ?_
 rintro e w1 ⟨rfl, hb1⟩
 have Z1 := Z0.call hb1
 have B1 := B0.trans (hb1.mono B0.size)
 clear hb1 B0 Z0 HC
 obtain ⟨⟨z0, z1, z2⟩, zz, zf⟩ := id Z1
 have f0 := zf 0
 have f1 := zf 1
 have f2 := zf 2
 clear zf
 go_wp2
 refine bodyPost_ret (v := .tuple #[.agg #[.bool false, .slice none 0 0, .slice none 0 0], .int .i64 ce]) (by simp [results, Tryz.results29, go_sem, z0, z1, z2]) rfl ⟨⟨none, 0, none, 0, rfl, ⟨fun i hi => absurd hi (by simp [zeroPic]), fun i hi => absurd hi (by simp [zeroPic])⟩, ⟨Nat.zero_le _, Nat.zero_le _⟩, Nat.zero_le _, Nat.zero_le _⟩, ?_⟩
 exact ((B1.setCell (by simp only; omega) _).setCell (by simp only; omega) _).setCell (by simp only; omega) _
theorem beginP_ok (v f : Nat) (s : Option Addr) (c : List Ins) (cap : Nat) (w : World) (hcd : CodeAt w s c) (h : ckProg (v : Int) (f : Int) c = 0) :
  Calls Tryz.prog 29 #[pv (v : Int) (f : Int) s c cap] w fun e w' => PicF w.heap.size w' e (firstPic (v : Int) (f : Int) c) 0 ∧ Below w.heap.size w w' := by
 have efp : firstPic (v : Int) (f : Int) c = ⟨false, List.replicate v nullG, List.replicate c.length (List.replicate f noneG)⟩ := by simp [firstPic]
 rw [efp]
 clear efp
 obtain ⟨⟨_, hv8⟩, ⟨_, hf3⟩, h60⟩ := ckProg_lim h
 obtain ⟨tk, hk, hx0, hx1, hx2⟩ := info_parts Tryz.info_row
 have B0 : Below w.heap.size w ((w.alloc (.cells #[.int .i64 (v : Int), .int .i64 (f : Int), .slice s c.length cap] 24)).alloc (.cells #[.bool false, .slice none 0 0, .slice none 0 0] 28)) := by go_grown
 have P0 := (PrAt.new w (v : Int) (f : Int) s c cap).call (w' := ((w.alloc (.cells #[.int .i64 (v : Int), .int .i64 (f : Int), .slice s c.length cap] 24)).alloc (.cells #[.bool false, .slice none 0 0, .slice none 0 0] 28))) (by go_grown)
 have Z0 := X3.new (w.alloc (.cells #[.int .i64 (v : Int), .int .i64 (f : Int), .slice s c.length cap] 24)) 28 (.bool false) (.slice none 0 0) (.slice none 0 0)
 rw [World.size_alloc] at Z0
 have HC := hideH (codeCheck_any (v : Int) (f : Int) s cap c ((w.alloc (.cells #[.int .i64 (v : Int), .int .i64 (f : Int), .slice s c.length cap] 24)).alloc (.cells #[.bool false, .slice none 0 0, .slice none 0 0] 28)) (hcd.below B0 (Nat.le_refl _)))
 rw [h] at HC
 have HNO := hideH nothingP_any
 have HRF : Hid (∀ wx, Calls Tryz.prog 66 #[.agg #[.bool false, .bool true, .int .i64 0, .int .i64 0, .bool false, .bool false, .slice none 0 0], .int .i64 (f : Int)] wx fun e w' => (∃ rs, e = .returned (.slice rs f f) ∧ GsIn (fun b => wx.heap.size ≤ b) w' rs (List.replicate f noneG)) ∧ Below wx.heap.size wx w') := fun wx => rowG_any noneG rfl f (by omega) wx
 have HRV : Hid (∀ wx, Calls Tryz.prog 66 #[.agg #[.bool true, .bool true, .int .i64 0, .int .i64 0, .bool false, .bool false, .slice none 0 0], .int .i64 (v : Int)] wx fun e w' => (∃ rs, e = .returned (.slice rs v v) ∧ GsIn (fun b => wx.heap.size ≤ b) w' rs (List.replicate v nullG)) ∧ Below wx.heap.size wx w') := fun wx => rowG_any nullG rfl v (by omega) wx
 clear h hcd
 go_enter Tryz.func29, Tryz.ntmps29
 go_wp2_with (go_at_call 64; fail)
 refine HC.out.mono ?_
 rintro e w1 ⟨rfl, hb1⟩
 have Z1 := Z0.call hb1
 have P1 := P0.call hb1
 have B1 := B0.trans (hb1.mono B0.size)
 have z1 : w.heap.size + 1 + 1 ≤ w1.heap.size := by have := hb1.size; simpa using this
 clear hb1 B0 Z0 P0 HC
 go_wp2_with (go_at_call 65; fail)
 refine (HNO.out _).mono ?_
 rintro e w2 ⟨rfl, hb2⟩
 have hb3 : Below w2.heap.size w2 (w2.alloc (.cells #[.bool true, .bool true, .int .i64 0, .int .i64 0, .bool false, .bool false, .slice none 0 0] 61)) := by go_grown
 have hb23 := hb2.trans (hb3.mono hb2.size)
 have Z3 := Z1.call hb23
 have P3 := P1.call hb23
 have B3 := B1.trans (hb23.mono B1.size)
 have z3 : w.heap.size + 1 + 1 ≤ (w2.alloc (.cells #[.bool true, .bool true, .int .i64 0, .int .i64 0, .bool false, .bool false, .slice none 0 0] 61)).heap.size := Nat.le_trans z1 hb23.size
 clear hb2 hb3 hb23 Z1 P1 B1 z1
 obtain ⟨⟨p0, p1, p2⟩, pz⟩ := id P3
 go_wp2_with (go_at_call 66; fail)
 refine (HRV.out _).mono ?_
 rintro e w4 ⟨⟨vs, rfl, GV0⟩, hb4⟩
 clear p0 p1 p2 pz HRV
 have hbx : Below w4.heap.size w4 (w4.alloc (.cells #[.bool false, .slice vs v v, .slice none 0 0] 28)) := by go_grown
 have hb45 := hb4.trans (hbx.mono hb4.size)
 have Z5 := Z3.call hb45
 have P5 := P3.call hb45
 have B5 := B3.trans (hb45.mono B3.size)
 have U5 := X3.new w4 28 (.bool false) (.slice vs v v) (.slice none 0 0)
 have z5 : w.heap.size + 1 + 1 ≤ w4.heap.size := Nat.le_trans z3 hb4.size
 have GV5 : GsIn (fun b => w.heap.size + 1 + 1 ≤ b ∧ b < w4.heap.size + 1 ∧ b ≠ w4.heap.size) (w4.alloc (.cells #[.bool false, .slice vs v v, .slice none 0 0] 28)) vs (List.replicate v nullG) := (GV0.mono (S' := fun b => w.heap.size + 1 + 1 ≤ b ∧ b < w4.heap.size + 1 ∧ b ≠ w4.heap.size) fun b h1 h2 => ⟨Nat.le_trans z3 h1, by omega, by omega⟩).call hbx
 have e5 : w4.heap.size + 1 ≤ (w4.alloc (.cells #[.bool false, .slice vs v v, .slice none 0 0] 28)).heap.size := by simp
 have l5 : w4.heap.size < w4.heap.size + 1 := by omega
 clear hb4 hbx hb45 Z3 P3 B3 z3 GV0
 obtain ⟨⟨p0, p1, p2⟩, pz⟩ := id P5
 go_wp2
 clear p0 p1 p2 pz
 generalize w4.alloc (.cells #[.bool false, .slice vs v v, .slice none 0 0] 28) = w5 at *
 generalize w4.heap.size + 1 = N at *
 generalize w4.heap.size = zb at *
 go_loopw [23] (fun i wr => ∃ (k : Nat) (fs : Option Addr) (fc : Nat) (L : List Rw), k ≤ c.length ∧ i = .int .i64 k ∧ PrAt wr w.heap.size (v : Int) (f : Int) s c cap ∧ X3 wr (w.heap.size + 1) (.bool false) (.slice none 0 0) (.slice none 0 0) ∧ X3 wr zb (.bool false) (.slice vs v v) (.slice fs L.length fc) ∧ FRow wr N (.slice fs L.length fc) L ∧ Hid (L.map Rw.l = List.replicate k (List.replicate f noneG)) ∧ GsIn (fun b => w.heap.size + 1 + 1 ≤ b ∧ b < N ∧ b ≠ zb) wr vs (List.replicate v nullG) ∧ Below w.heap.size w wr ∧ N ≤ wr.heap.size) (fun i _ => c.length - (intOf i).toNat)
 case atStart => exact ⟨0, none, 0, [], Nat.zero_le _, rfl, P5, Z5, U5, FRow.nil _ _, rfl, GV5, B5, e5⟩
 case round =>
  clear P5 Z5 U5 GV5 B5 e5
  obtain ⟨k, fs, fc, L, hk1, rfl, PR, ZR, UR, FR, HL, GV, LR, zr⟩ := hrel
  have LL : Hid (L.length = k) := by
   show _ = _
   have h1 := congrArg List.length HL.out
   simpa using h1
  by_cases hlt : k < c.length
  ·have n0 : (0 : Int) ≤ (k : Int) := by omega
   have n1 : (k : Int) < (c.length : Int) := by omega
   obtain ⟨⟨p0, p1, p2⟩, pz⟩ := id PR
   obtain ⟨⟨y0, y1, y2⟩, yz, yf⟩ := id UR
   have HKZ : Hid (∀ wx, Below N wr wx → wx.cell? ⟨w.heap.size, 1, none⟩ = some (.int .i64 (f : Int)) ∧ wx.cell? ⟨zb, 2, none⟩ = some (.slice fs L.length fc)) := fun wx hx => ⟨by rw [hx.cell (by simp only; omega)]; exact p1, by rw [hx.cell (by simp only; omega)]; exact y2⟩
   have HD : Below wr.heap.size wr wr.drew := (Below.refl _ _).drew
   go_upto_region 9 with fail
   clear p0 p1 p2 pz y0 y1 y2 yz yf
   refine wp_region_z (S := (fun wx => wx.cell? ⟨w.heap.size, 1, none⟩ = some (.int .i64 (f : Int)) ∧ wx.cell? ⟨zb, 2, none⟩ = some (.slice fs L.length fc))) [9] (by kernel_rfl) (HKZ.out _ (HD.mono zr)) (fun hHeld => ?_)
   refine tZ 0 ?_ ?_;refine sm ?_
   refine tZ 1 ?_ ?_;refine sm ?_
   refine tZ 3 ?_ ?_;refine sm ?_
   refine tZ 4 ?_ ?_;refine sm ?_
   refine wpAnyZ_one (i := 2) rfl (by kernel_rfl) (fun K hK => ?_)
   go_simp
   go_at_call 65
   refine (HNO.out _).mono ?_
   rintro e w4 ⟨rfl, hb4⟩
   have HW4 : Below wr.heap.size wr w4 := HD.trans (hb4.mono HD.size)
   have HB4 : Below N wr w4 := HW4.mono zr
   go_wp2_with fail
   refine hK.out _ _ (HKZ.out _ HB4) (fun hHeld => ?_)
   clear hK K
   refine sm ?_
   refine wpAnyZ_one (i := 5) rfl (by kernel_rfl) (fun K hK => ?_)
   go_simp
   go_at_call 66
   refine (HRF.out _).mono ?_
   rintro e w5 ⟨⟨rs, rfl, GR⟩, hb5⟩
   have HW5 : Below wr.heap.size wr w5 := HW4.trans (hb5.mono HW4.size)
   have HB5 : Below N wr w5 := HW5.mono zr
   go_wp2_with fail
   refine hK.out _ _ (HKZ.out _ HB5) (fun hHeld => ?_)
   clear hK K
   refine sm ?_
   refine wpAnyZ_one (i := 6) rfl (by kernel_rfl) (fun K hK => ?_)
   go_simp
   have HW6 : Below wr.heap.size wr (w5.alloc (.cells #[.slice rs f f] 25)) := HW5.alloc HW5.size _
   have HB6 : Below N wr (w5.alloc (.cells #[.slice rs f f] 25)) := HW6.mono zr
   refine hK.out _ _ (HKZ.out _ HB6) (fun hHeld => ?_)
   clear hK K
   refine sm ?_
   refine wpAnyZ_one (i := 7) rfl (by kernel_rfl) (fun K hK => ?_)
   have F6 := FR.call HW6
   have RX : RwIn (fun b => N ≤ b ∧ (Value.slice fs L.length fc).ownBlock ≠ some b) (w5.alloc (.cells #[.slice rs f f] 25)) ⟨rs, f, List.replicate f noneG⟩ := ⟨(GR.mono fun b h1 _ => ⟨Nat.le_trans zr (Nat.le_trans HW4.size h1), fun e => by have := (ownsI_lt FR.1 e).1; have := HW4.size; omega⟩).call (by go_grown), by simp, by unfold maxLen; simp only; omega⟩
   have hlr : (List.replicate f noneG).length = f := List.length_replicate
   refine step_append_any _ rfl _ _ 26 rfl N 25 tk (.slice none 0 0) 1 24 Tryz.underlying26 hk hx0 hx1 hx2 rfl (by decide) _ _ _ rfl F6.1 (some ⟨w5.heap.size, 0, none⟩) 1 1 [.slice rs f f] rfl rfl (fun h => by cases h) (news1 w5 _ _) (by intro u hu; rw [List.mem_singleton.1 hu]; rfl) (by unfold maxLen; have := LL.out; omega) (by have := LL.out; omega) (by rw [World.size_alloc]; have := HW5.size; omega) ?_
   intro v' w7 hown hgrow hat
   have F7 := F6.grown (x := ⟨rs, f, List.replicate f noneG⟩) RX (by unfold rwV; rw [hlr]; exact hown) hgrow hat
   have HB7 : Below N wr w7 := HB6.grown hgrow (by rw [World.size_alloc]; have := HW5.size; omega) (fun k hk => (ownsI_lt F6.1 hk).2)
   obtain ⟨fs', fc', rfl, -, -, -⟩ := F7.rows
   refine hK.out _ _ (HKZ.out _ HB7) (fun hHeld => ?_)
   clear hK K hown hgrow hat F6 RX HB6 HW6 HB5 HW5 GR hlr
   refine sm ?_
   refine tZ 8 ?_ ?_;refine sm ?_
   refine wpAnyZ_last (i := 9) rfl (by kernel_rfl) (by kernel_rfl) (fun K hK => ?_)
   have U7 : X3 w7 zb _ _ _ := UR.same (HB7.block _ (by omega)) HB7.size
   obtain ⟨⟨y0, y1, y2⟩, yz, yf⟩ := id U7
   have yf2 := yf 2
   clear yf
   go_simp
   refine hK.out _ _ ?_
   clear hK K
   refine sm ?_
   refine wpAnyZ_done (by kernel_rfl) ?_ _
   clear y0 y1 y2 yz yf2
   have P7 := PR.low HB7 (by omega)
   have Z7 : X3 w7 (w.heap.size + 1) (.bool false) (.slice none 0 0) (.slice none 0 0) := ZR.same (HB7.block _ (by omega)) HB7.size
   have V7 := GV.same (w' := w7) (fun b hS _ => HB7.block b hS.2.1) HB7.size
   have L7 := LR.trans (HB7.mono (by omega))
   have z7 : N ≤ w7.heap.size := Nat.le_trans zr HB7.size
   have E7 : Hid (∀ (x : Value) b, b ≠ zb → (w7.setCell ⟨zb, 2, none⟩ x).heap[b]? = w7.heap[b]?) := fun x b hb => Below.heap_setCell _ _ _ _ hb
   have S7 : Hid (∀ (x : Value), w7.heap.size ≤ (w7.setCell ⟨zb, 2, none⟩ x).heap.size) := fun x => by simp [World.setCell]
   clear PR ZR UR FR LR zr HKZ GV HB7
   go_wp2
   go_roundw
   case rel => exact ⟨k + 1, fs', fc', L ++ [⟨rs, f, List.replicate f noneG⟩], by omega, by go_num, P7.far (by simp only; omega) _, Z7.same (E7.out _ _ (by omega)) (S7.out _), by first | exact U7.put2 _ | (rw [List.length_append]; exact U7.put2 _), F7.old (fun b hb => E7.out _ b (by omega)) (S7.out _), by show _ = _; rw [List.map_append, HL.out, List.replicate_succ']; rfl, V7.same (fun b hS _ => E7.out _ b hS.2.2) (S7.out _), L7.setCell (by simp only; omega) _, by simpa [World.setCell] using z7⟩
   case measure => simp [intOf]; omega
  ·have n1' : ¬ (k : Int) < (c.length : Int) := by omega
   have ek : k = c.length := by omega
   have ELL : Hid (L.length = c.length) := by show _ = _; rw [LL.out, ek]
   have hch : ∀ b, b ≠ w.heap.size + 1 → (((wr.setCell ⟨w.heap.size + 1, 0, none⟩ (.bool false)).setCell ⟨w.heap.size + 1, 1, none⟩ (.slice vs v v)).setCell ⟨w.heap.size + 1, 2, none⟩ (.slice fs L.length fc)).heap[b]? = wr.heap[b]? := fun b hb => by rw [Below.heap_setCell _ _ _ _ hb, Below.heap_setCell _ _ _ _ hb, Below.heap_setCell _ _ _ _ hb]
   have hcz : wr.heap.size ≤ (((wr.setCell ⟨w.heap.size + 1, 0, none⟩ (.bool false)).setCell ⟨w.heap.size + 1, 1, none⟩ (.slice vs v v)).setCell ⟨w.heap.size + 1, 2, none⟩ (.slice fs L.length fc)).heap.size := by simp [World.setCell]
   have FX := FR.old (w' := (((wr.setCell ⟨w.heap.size + 1, 0, none⟩ (.bool false)).setCell ⟨w.heap.size + 1, 1, none⟩ (.slice vs v v)).setCell ⟨w.heap.size + 1, 2, none⟩ (.slice fs L.length fc))) (fun b hb => hch b (by omega)) hcz
   have GX := GV.same (w' := (((wr.setCell ⟨w.heap.size + 1, 0, none⟩ (.bool false)).setCell ⟨w.heap.size + 1, 1, none⟩ (.slice vs v v)).setCell ⟨w.heap.size + 1, 2, none⟩ (.slice fs L.length fc))) (fun b hS _ => hch b (by omega)) hcz
   have BX : Below w.heap.size w (((wr.setCell ⟨w.heap.size + 1, 0, none⟩ (.bool false)).setCell ⟨w.heap.size + 1, 1, none⟩ (.slice vs v v)).setCell ⟨w.heap.size + 1, 2, none⟩ (.slice fs L.length fc)) := ((LR.setCell (by simp only; omega) _).setCell (by simp only; omega) _).setCell (by simp only; omega) _
   have HFX : Hid (∀ wz : World, (∀ b, w.heap.size ≤ b → b < (((wr.setCell ⟨w.heap.size + 1, 0, none⟩ (.bool false)).setCell ⟨w.heap.size + 1, 1, none⟩ (.slice vs v v)).setCell ⟨w.heap.size + 1, 2, none⟩ (.slice fs L.length fc)).heap.size → wz.heap[b]? = (((wr.setCell ⟨w.heap.size + 1, 0, none⟩ (.bool false)).setCell ⟨w.heap.size + 1, 1, none⟩ (.slice vs v v)).setCell ⟨w.heap.size + 1, 2, none⟩ (.slice fs L.length fc)).heap[b]?) → (((wr.setCell ⟨w.heap.size + 1, 0, none⟩ (.bool false)).setCell ⟨w.heap.size + 1, 1, none⟩ (.slice vs v v)).setCell ⟨w.heap.size + 1, 2, none⟩ (.slice fs L.length fc)).heap.size ≤ wz.heap.size → GsAt wz vs (List.replicate v nullG) ∧ RowsAt wz fs (List.replicate c.length (List.replicate f noneG))) := fun wz hs hz => by
    obtain ⟨fs0, fc0, e0, hk0, hk00, RW0⟩ := (FX.olden (w' := wz) (fun b hb hlt => hs b (by omega) hlt) hz).rows
    cases e0
    rw [HL.out, ek] at RW0
    exact ⟨(GX.same (fun b hS hlt => hs b (by have := hS.1; omega) hlt) hz).at, RW0⟩
   have CFX : Hid (L.length ≤ fc ∧ fc ≤ maxLen) := by
    obtain ⟨fs0, fc0, e0, hk0, hk00, -⟩ := FR.rows
    cases e0
    exact ⟨hk0, hk00⟩
   obtain ⟨⟨y0, y1, y2⟩, yz, yf⟩ := id UR
   obtain ⟨⟨d0, d1, d2⟩, dz, df⟩ := id ZR
   have f0 := df 0
   have f1 := df 1
   have f2 := df 2
   clear df yf hch hcz FX GX ek
   go_wp2
   refine bodyPost_ret (v := .tuple #[.agg #[.bool false, .slice vs v v, .slice fs L.length fc], .int .i64 0]) (by simp [results, Tryz.results29, go_sem, d0, d1, d2]) rfl ⟨?_, BX⟩
   refine ⟨vs, v, fs, fc, ?_, fun wz hs hz => HFX.out wz hs hz, ⟨by simp, by unfold maxLen; omega⟩, by rw [List.length_replicate, ← ELL.out]; exact CFX.out⟩
   rw [ELL.out]
   simp
theorem beginPU (V F : Int) (s : Option Addr) (c : List Ins) (cap : Nat) (w : World) (hcd : CodeAt w s c) :
  Calls Tryz.prog 29 #[pv V F s c cap] w fun e w' => PicF w.heap.size w' e (if ckProg V F c = 0 then firstPic V F c else zeroPic) (ckProg V F c) ∧ Below w.heap.size w w' := by
 by_cases h : ckProg V F c = 0
 ·rw [if_pos h, h]
  obtain ⟨⟨hV, _⟩, ⟨hF, _⟩, _⟩ := ckProg_lim h
  obtain ⟨v, rfl⟩ := Int.eq_ofNat_of_zero_le (show 0 ≤ V by omega)
  obtain ⟨f, rfl⟩ := Int.eq_ofNat_of_zero_le hF
  exact beginP_ok v f s c cap w hcd h
 ·rw [if_neg h]
  refine (beginP_err V F s c cap w hcd h).mono ?_
  rintro e w1 ⟨⟨us, uc, gs, gc, he, -, hcp⟩, hb⟩
  exact ⟨⟨us, uc, gs, gc, he, fun wz _ _ => ⟨fun i hi => absurd hi (by simp [zeroPic]), fun i hi => absurd hi (by simp [zeroPic])⟩, hcp⟩, hb⟩
end
section
set_option maxHeartbeats 8000000
set_option maxRecDepth 100000
open Go.RowKit
attribute [local go_sem ↓] Go.wp_at_zero Go.wp_at_succ

theorem prf_6421ee {p : Prop} (h : p := by
 simp only [setL] at ewx
 rw [← ewx]
 clear ewx
 have TX := PU.cells
 have IX := PU.keep IP
 have YX := PU.keep YP
 have OX := PU.keep OP
 have BX := PU.low (by omega) BP
 have YWX := PU.low (by omega) YW
 clear PU
 have TX2 : Cells wx w11.heap.size [.bool gg.n, .bool gg.sp.n, .int .i64 gg.sp.lo, .int .i64 gg.sp.hi, .bool gg.t, .bool gg.f, .slice ss gg.s.length cp] := by rw [HGG.out.1, HGG.out.2.1, HGG.out.2.2]; exact TX
 have HGI : Hid (IntsIn (fun b => (T b ∧ b < w.heap.size) ∨ w3.heap.size ≤ b) wx ss gg.s) := .inl HGS.out
 have HCP : Hid (gg.s.length ≤ cp ∧ cp ≤ maxLen) := ⟨by rw [HGS.out]; exact Nat.zero_le _, by rw [HGG.out.2.2]; exact Nat.zero_le _⟩
 clear TX
 have TX := TX2
 clear TX2 HGG HGS i0
 have HIS : Hid (∀ wz, Calls Tryz.prog 28 #[.agg #[.bool gg.n, .bool gg.sp.n, .int .i64 gg.sp.lo, .int .i64 gg.sp.hi, .bool gg.t, .bool gg.f, .slice ss gg.s.length cp]] wz fun e w' => e = .returned (.bool false) ∧ Below wz.heap.size wz w') := fun wz => by have h := isNothing_any gg ss cp wz; rw [hng.out] at h; exact h
 have t0 := TX.1 0 _ rfl
 have t1 := TX.1 1 _ rfl
 have t2 := TX.1 2 _ rfl
 have t3 := TX.1 3 _ rfl
 have t4 := TX.1 4 _ rfl
 have t5 := TX.1 5 _ rfl
 have t6 := TX.1 6 _ rfl
 go_wp2_with (go_at_call 28; fail)
 refine ((HIS.out wx).mono ?_)
 rintro e wy ⟨rfl, hby⟩
 clear t0 t1 t2 t3 t4 t5 t6
 have TY := TX.call hby
 have IY := IX.call hby
 have YY := YX.call hby
 have OY := OX.call hby
 have BY := BX.trans (hby.mono BX.size)
 have YWY := YWX.trans (hby.mono YWX.size)
 have HGY := hideH (IntsIn.call HGI.out hby)
 clear TX IX YX OX BX YWX HIS HGI
 have GP := GOW.same (w' := wy) (fun b _ hlt => YWY.block b hlt) YWY.size
 have GC := gc_away (T := T) (y := ⟨gg, ss, cp⟩) GOW (by omega) (by omega) HGY.out HCP.out.1 HCP.out.2
 have hktv : kt < v.l.length := by have h := hktx; rw [EPV.out] at h; simpa [picOf, roG] using h
 obtain ⟨vb, evb, eb1, hvb, zvb⟩ := GOW.vars.form (by omega)
 have GP2 := (GP.mono (T' := fun b => T b ∨ w.heap.size ≤ b) fun b hb _ => .inr hb)
 have GS := GP2.setV evb hktv GC
 have GU := GP.vars.gu evb (k := kt) hktv
 obtain ⟨⟨u0, u1, u2, u3, u4, u5, u6⟩, uz⟩ := GU
 have TH := GP.vars.thaw evb
 have f0 := TH (kt * 7)
 have f1 := TH (kt * 7 + 1)
 have f2 := TH (kt * 7 + 2)
 have f3 := TH (kt * 7 + 3)
 have f4 := TH (kt * 7 + 4)
 have f5 := TH (kt * 7 + 5)
 have f6 := TH (kt * 7 + 6)
 have y1 := YY.1 1 _ rfl
 rw [evb] at y1
 have i1 := IY.1 1 _ rfl
 rw [HKT.out] at i1
 have t0 := TY.1 0 _ rfl
 have t1 := TY.1 1 _ rfl
 have t2 := TY.1 2 _ rfl
 have t3 := TY.1 3 _ rfl
 have t4 := TY.1 4 _ rfl
 have t5 := TY.1 5 _ rfl
 have t6 := TY.1 6 _ rfl
 have q0 : (0 : Int) ≤ (kt : Int) := by omega
 have q1 : (kt : Int) < (v.l.length : Int) := by omega
 have HEV := hideH evb
 have OS : Cells (set7 wy vb kt ⟨gg, ss, cp⟩) w4.heap.size [.int .i64 ((m : Int) + 1), .bool false, .slice v.rs v.l.length v.rc, .slice gs L.length gc] := OY.same (heap_set7 (by omega)) (by rw [size_set7]; exact Nat.le_refl _)
 have BS : Below w.heap.size w (set7 wy vb kt ⟨gg, ss, cp⟩) := below_set7 BY (by omega)
 have HF : Hid (StpAns (fun b => T b ∨ w.heap.size ≤ b) (set7 wy vb kt ⟨gg, ss, cp⟩) (.returned (.tuple #[.slice (some ⟨w4.heap.size, 0, none⟩) 1 1, .bool false, .bool false])) (stepPic i (m : Int) x)) := by
  show StpAns _ _ _ _
  rw [HST.out, if_neg (by rw [hng.out]; decide)]
  refine ⟨some ⟨w4.heap.size, 0, none⟩, 1, rfl, ?_⟩
  refine eds_one (S := (fun b => T b ∨ w.heap.size ≤ b)) (v := ⟨v.rs, v.rc, v.l.set kt ⟨gg, ss, cp⟩⟩) (L := L) (by simp only [List.length_set]; exact OS) (.inr (by omega)) GS (fun b hb => hb) (fun b hb => .inr (by omega)) ?_
  rw [picOf_setV, ← EPV.out, HKT.out]
 clear GP GC GP2 GS TH TY IY YY OY OS BY HGY GOW YWY EPV evb
 obtain ⟨wv, ewv⟩ : ∃ q, q = set7 wy vb kt ⟨gg, ss, cp⟩ := ⟨_, rfl⟩
 have HF2 := hideH (And.intro HF.out BS)
 rw [← ewv] at HF2
 go_upto_region 87 with fail
 clear u0 u1 u2 u3 u4 u5 u6 uz f0 f1 f2 f3 f4 f5 f6 t0 t1 t2 t3 t4 t5 t6 y1 i1 HF BS
 simp only [set7] at ewv
 rw [← ewv]
 clear ewv
 go_wp2
 refine bodyPost_ret (v := .tuple #[.slice (some ⟨w4.heap.size, 0, none⟩) 1 1, .bool false, .bool false]) (by simp [results, Tryz.results7, go_sem]) rfl HF2.out) : p := h
theorem stepT_1 {T : Nat → Prop} {V F : Int} {s : Option Addr} {c : List Ins} {cap m : Nat} {i : Ins} {x : Pic} {vs : Option Addr} {vc : Nat} {fs : Option Addr} {fc : Nat} {w : World} {w3 w4 w7 w11 wp : World} {v : Ro} {gs : Option Addr} {gc : Nat} {L : List Ro} (hx : PicOn T w x vs fs) (K : SCtx V F c x vc fc i (m : Int)) (hk : i.k = 1) (SP : Hid (SPre T V F s c cap (m : Int) i x vs vc fs fc w wp (w.heap.size + 1 + 1) w3.heap.size w4.heap.size w7.heap.size (w7.heap.size + 1) w11.heap.size w3 v gs gc L noneG none 0 noneG none 0)) : SwT (fun e w' => StpAns (fun b => T b ∨ w.heap.size ≤ b) w' e (stepPic i (m : Int) x) ∧ Below w.heap.size w w') m w w3 w4 w7 w11 wp := by
 have HKK := hideH hk
 clear hk
 have HK := hideH K
 have HX := hideH hx
 have h60 := K.lens.2.1
 have n0 : (0 : Int) ≤ (m : Int) := K.a0
 have n1 : (m : Int) < (c.length : Int) := K.a1
 have hm : m < c.length := by omega
 have w61 : (m : Int) ≤ 60 := by omega
 clear K hx
 refine sw_of rfl fun z0 z2 z4 u => ?_
 simp only [List.range, List.range.loop, List.map]
 obtain ⟨BP, PP, XP, IP, YP, OP, AP, EP, TP, GAI, GBI, GOW, YW, -, EPV0, -, o2, o3, o4, o5, o6⟩ := SP.out
 have EPV := hideH EPV0
 clear EPV0
 have i0 := IP.1 0 _ rfl
 rw [HKK.out] at i0
 obtain ⟨kt, ekt, hktx⟩ := HK.out.varTo (by rw [HKK.out]; rfl)
 have HKT := hideH ekt
 clear ekt
 obtain ⟨gg, hgg⟩ : ∃ g : Gs, g = ⟨false, ⟨false, i.n, i.n⟩, false, false, []⟩ := ⟨_, rfl⟩
 obtain ⟨ss, hss⟩ : ∃ a : Option Addr, a = none := ⟨_, rfl⟩
 obtain ⟨cp, hcp⟩ : ∃ a : Nat, a = 0 := ⟨_, rfl⟩
 have HGS : Hid (gg.s = []) := by show _ = _; simp [hgg, nullG]
 have HST : Hid (stepPic i (m : Int) x = if nothingGs gg then ([], false, false) else ([⟨(m : Int) + 1, setVar x i.tgt gg⟩], false, false)) := by show _ = _; rw [hgg]; simp [stepPic, comesGs, HK.out.kx.none, HKK.out]
 have hng : Hid (nothingGs gg = false) := by
  show _ = _
  rw [hgg]
  simp [nothingGs, otherGs, nullG]
 have HGG := hideH (And.intro hgg (And.intro hss hcp))
 clear hgg hss hcp 
 have z1 := TP.1 1 _ rfl
 have fz1 := TP.2.2 1
 have z2 := TP.1 2 _ rfl
 have fz2 := TP.2.2 2
 have z3 := TP.1 3 _ rfl
 have fz3 := TP.2.2 3
 have i4 := IP.1 4 _ rfl
 go_upto_region 84 with fail
 clear z1 fz1 z2 fz2 z3 fz3 i4
 obtain ⟨wx, ewx⟩ : ∃ q, q = setL wp (w11.heap.size) 1 [.bool false, .int .i64 i.n, .int .i64 i.n] := ⟨_, rfl⟩
 have PU := put_some TP 1 _ ewx
 exact prf_6421ee
theorem stepT_14 {T : Nat → Prop} {V F : Int} {s : Option Addr} {c : List Ins} {cap m : Nat} {i : Ins} {x : Pic} {vs : Option Addr} {vc : Nat} {fs : Option Addr} {fc : Nat} {w : World} {w3 w4 w7 w11 wp : World} {v : Ro} {gs : Option Addr} {gc : Nat} {L : List Ro} (hx : PicOn T w x vs fs) (K : SCtx V F c x vc fc i (m : Int)) (hk : i.k = 14) (SP : Hid (SPre T V F s c cap (m : Int) i x vs vc fs fc w wp (w.heap.size + 1 + 1) w3.heap.size w4.heap.size w7.heap.size (w7.heap.size + 1) w11.heap.size w3 v gs gc L noneG none 0 noneG none 0)) : SwT (fun e w' => StpAns (fun b => T b ∨ w.heap.size ≤ b) w' e (stepPic i (m : Int) x) ∧ Below w.heap.size w w') m w w3 w4 w7 w11 wp := by
 have HKK := hideH hk
 clear hk
 have HK := hideH K
 have HX := hideH hx
 have h60 := K.lens.2.1
 have n0 : (0 : Int) ≤ (m : Int) := K.a0
 have n1 : (m : Int) < (c.length : Int) := K.a1
 have hm : m < c.length := by omega
 have w61 : (m : Int) ≤ 60 := by omega
 clear K hx
 refine sw_of rfl fun z0 z2 z4 u => ?_
 simp only [List.range, List.range.loop, List.map]
 obtain ⟨BP, PP, XP, IP, YP, OP, AP, EP, TP, GAI, GBI, GOW, YW, -, EPV0, -, o2, o3, o4, o5, o6⟩ := SP.out
 have EPV := hideH EPV0
 clear EPV0
 have i0 := IP.1 0 _ rfl
 rw [HKK.out] at i0
 obtain ⟨kt, ekt, hktx⟩ := HK.out.varTo (by rw [HKK.out]; rfl)
 have HKT := hideH ekt
 clear ekt
 have hn14 := (ckOne_parts HK.out.one).2.2.2.2.2.2.2.2 HKK.out
 have hwn : IntKind.i64.wrap (-i.n) = -i.n := by rw [IntKind.wrap_i64]; omega
 obtain ⟨gg, hgg⟩ : ∃ g : Gs, g = ⟨false, ⟨false, -i.n, i.n⟩, false, false, []⟩ := ⟨_, rfl⟩
 obtain ⟨ss, hss⟩ : ∃ a : Option Addr, a = none := ⟨_, rfl⟩
 obtain ⟨cp, hcp⟩ : ∃ a : Nat, a = 0 := ⟨_, rfl⟩
 have HGS : Hid (gg.s = []) := by show _ = _; simp [hgg, nullG]
 have HST : Hid (stepPic i (m : Int) x = if nothingGs gg then ([], false, false) else ([⟨(m : Int) + 1, setVar x i.tgt gg⟩], false, false)) := by show _ = _; rw [hgg]; simp [stepPic, comesGs, HK.out.kx.none, HKK.out]
 have hng : Hid (nothingGs gg = false) := by
  show _ = _
  rw [hgg]
  simp [nothingGs, otherGs, nullG]
 have HGG := hideH (And.intro hgg (And.intro hss hcp))
 clear hgg hss hcp 
 have z1 := TP.1 1 _ rfl
 have fz1 := TP.2.2 1
 have z2 := TP.1 2 _ rfl
 have fz2 := TP.2.2 2
 have z3 := TP.1 3 _ rfl
 have fz3 := TP.2.2 3
 have i4 := IP.1 4 _ rfl
 go_upto_region 84 with fail
 clear z1 fz1 z2 fz2 z3 fz3 i4
 obtain ⟨wx, ewx⟩ : ∃ q, q = setL wp (w11.heap.size) 1 [.bool false, .int .i64 (-i.n), .int .i64 i.n] := ⟨_, rfl⟩
 have PU := put_some TP 1 _ ewx
 exact prf_6421ee
theorem stepT_3 {T : Nat → Prop} {V F : Int} {s : Option Addr} {c : List Ins} {cap m : Nat} {i : Ins} {x : Pic} {vs : Option Addr} {vc : Nat} {fs : Option Addr} {fc : Nat} {w : World} {w3 w4 w7 w11 wp : World} {v : Ro} {gs : Option Addr} {gc : Nat} {L : List Ro} (hx : PicOn T w x vs fs) (K : SCtx V F c x vc fc i (m : Int)) (hk : i.k = 3) (SP : Hid (SPre T V F s c cap (m : Int) i x vs vc fs fc w wp (w.heap.size + 1 + 1) w3.heap.size w4.heap.size w7.heap.size (w7.heap.size + 1) w11.heap.size w3 v gs gc L noneG none 0 noneG none 0)) : SwT (fun e w' => StpAns (fun b => T b ∨ w.heap.size ≤ b) w' e (stepPic i (m : Int) x) ∧ Below w.heap.size w w') m w w3 w4 w7 w11 wp := by
 have HKK := hideH hk
 clear hk
 have HK := hideH K
 have HX := hideH hx
 have h60 := K.lens.2.1
 have n0 : (0 : Int) ≤ (m : Int) := K.a0
 have n1 : (m : Int) < (c.length : Int) := K.a1
 have hm : m < c.length := by omega
 have w61 : (m : Int) ≤ 60 := by omega
 clear K hx
 refine sw_of rfl fun z0 z2 z4 u => ?_
 simp only [List.range, List.range.loop, List.map]
 obtain ⟨BP, PP, XP, IP, YP, OP, AP, EP, TP, GAI, GBI, GOW, YW, -, EPV0, -, o2, o3, o4, o5, o6⟩ := SP.out
 have EPV := hideH EPV0
 clear EPV0
 have i0 := IP.1 0 _ rfl
 rw [HKK.out] at i0
 obtain ⟨kt, ekt, hktx⟩ := HK.out.varTo (by rw [HKK.out]; rfl)
 have HKT := hideH ekt
 clear ekt
 obtain ⟨gg, hgg⟩ : ∃ g : Gs, g = nullG := ⟨_, rfl⟩
 obtain ⟨ss, hss⟩ : ∃ a : Option Addr, a = none := ⟨_, rfl⟩
 obtain ⟨cp, hcp⟩ : ∃ a : Nat, a = 0 := ⟨_, rfl⟩
 have HGS : Hid (gg.s = []) := by show _ = _; simp [hgg, nullG]
 have HST : Hid (stepPic i (m : Int) x = if nothingGs gg then ([], false, false) else ([⟨(m : Int) + 1, setVar x i.tgt gg⟩], false, false)) := by show _ = _; rw [hgg]; simp [stepPic, comesGs, HK.out.kx.none, HKK.out]
 have hng : Hid (nothingGs gg = false) := by
  show _ = _
  rw [hgg]
  simp [nothingGs, otherGs, nullG]
 have HGG := hideH (And.intro hgg (And.intro hss hcp))
 clear hgg hss hcp 
 have z0 := TP.1 0 _ rfl
 have fz0 := TP.2.2 0
 go_upto_region 84 with fail
 clear z0 fz0
 obtain ⟨wx, ewx⟩ : ∃ q, q = setL wp (w11.heap.size) 0 [.bool true] := ⟨_, rfl⟩
 have PU := put_some TP 0 _ ewx
 exact prf_6421ee
theorem stepT_2 {T : Nat → Prop} {V F : Int} {s : Option Addr} {c : List Ins} {cap m : Nat} {i : Ins} {x : Pic} {vs : Option Addr} {vc : Nat} {fs : Option Addr} {fc : Nat} {w : World} {w3 w4 w7 w11 wp : World} {v : Ro} {gs : Option Addr} {gc : Nat} {L : List Ro} (hx : PicOn T w x vs fs) (K : SCtx V F c x vc fc i (m : Int)) (hk : i.k = 2) (SP : Hid (SPre T V F s c cap (m : Int) i x vs vc fs fc w wp (w.heap.size + 1 + 1) w3.heap.size w4.heap.size w7.heap.size (w7.heap.size + 1) w11.heap.size w3 v gs gc L noneG none 0 noneG none 0)) : SwT (fun e w' => StpAns (fun b => T b ∨ w.heap.size ≤ b) w' e (stepPic i (m : Int) x) ∧ Below w.heap.size w w') m w w3 w4 w7 w11 wp := by
 have HKK := hideH hk
 clear hk
 have HK := hideH K
 have HX := hideH hx
 have h60 := K.lens.2.1
 have n0 : (0 : Int) ≤ (m : Int) := K.a0
 have n1 : (m : Int) < (c.length : Int) := K.a1
 have hm : m < c.length := by omega
 have w61 : (m : Int) ≤ 60 := by omega
 clear K hx
 refine sw_of rfl fun z0 z2 z4 u => ?_
 simp only [List.range, List.range.loop, List.map]
 obtain ⟨BP, PP, XP, IP, YP, OP, AP, EP, TP, GAI, GBI, GOW, YW, -, EPV0, -, o2, o3, o4, o5, o6⟩ := SP.out
 have EPV := hideH EPV0
 clear EPV0
 have i0 := IP.1 0 _ rfl
 rw [HKK.out] at i0
 obtain ⟨kt, ekt, hktx⟩ := HK.out.varTo (by rw [HKK.out]; rfl)
 have HKT := hideH ekt
 clear ekt
 have hn2 := (ckOne_parts HK.out.one).2.2.2.2.2.2.2.1 HKK.out
 obtain ⟨gg, hgg⟩ : ∃ g : Gs, g = ⟨false, ⟨true, 0, 0⟩, decide (i.n = 1), decide (i.n = 0), []⟩ := ⟨_, rfl⟩
 obtain ⟨ss, hss⟩ : ∃ a : Option Addr, a = none := ⟨_, rfl⟩
 obtain ⟨cp, hcp⟩ : ∃ a : Nat, a = 0 := ⟨_, rfl⟩
 have HGS : Hid (gg.s = []) := by show _ = _; simp [hgg, nullG]
 have HST : Hid (stepPic i (m : Int) x = if nothingGs gg then ([], false, false) else ([⟨(m : Int) + 1, setVar x i.tgt gg⟩], false, false)) := by show _ = _; rw [hgg]; simp [stepPic, comesGs, HK.out.kx.none, HKK.out]
 have hng : Hid (nothingGs gg = false) := by
  show _ = _
  rw [hgg]
  rcases hn2 with h | h <;> simp [nothingGs, otherGs, h]
 have HGG := hideH (And.intro hgg (And.intro hss hcp))
 clear hgg hss hcp hn2
 have hdr : Below wp.heap.size wp wp.drew := (Below.refl _ _).drew
 have TQ := TP.call hdr
 have IQ := IP.call hdr
 have YQ := YP.call hdr
 have OQ := OP.call hdr
 have BQ := BP.trans (hdr.mono BP.size)
 have YWQ := YW.trans (hdr.mono YW.size)
 clear TP IP YP OP BP YW hdr PP XP AP EP
 go_upto_region 81 with fail
 refine wp_region_z (S := (fun wx => wx.cell? ⟨w.heap.size + 1 + 1, 4, none⟩ = some (.int .i64 i.n))) [9] (by kernel_rfl) (IQ.1 4 _ rfl) (fun hHeld => ?_)
 generalize wp.drew = wq at *
 refine tZ 0 ?_ ?_;refine sm ?_
 refine tZ 1 ?_ ?_;refine sm ?_
 refine tZ 2 ?_ ?_;refine sm ?_
 refine tZ 3 ?_ ?_;refine sm ?_
 refine tZ 4 ?_ ?_;refine sm ?_
 refine tZ 5 ?_ ?_;refine sm ?_
 refine tZ 6 ?_ ?_;refine sm ?_
 refine wpAnyZ_one (i := 7) rfl (by kernel_rfl) (fun K hK => ?_)
 have z4 := TQ.1 4 _ rfl
 have fz4 := TQ.2.2 4
 go_simp
 refine hK.out _ _ ?_ (fun hHeld => ?_)
 ·have h : Cells (wq.setCell ⟨w11.heap.size, 4, none⟩ (.bool (i.n == 1))) (w.heap.size + 1 + 1) _ := IQ.same (Below.heap_setCell _ _ _ _ (by simp only; omega)) (by simp [World.setCell])
  exact h.1 4 _ rfl
 clear hK K z4 fz4
 refine sm ?_
 have TQ4 := TQ.put 4 (by simp) (.bool (i.n == 1))
 refine tZ 8 ?_ ?_;refine sm ?_
 refine wpAnyZ_last (i := 9) rfl (by kernel_rfl) (by kernel_rfl) (fun K hK => ?_)
 have z5 := TQ4.1 5 _ rfl
 have fz5 := TQ4.2.2 5
 go_simp
 refine hK.out _ _ ?_
 clear hK K z5 fz5
 refine sm ?_
 refine wpAnyZ_done (by kernel_rfl) ?_ _
 clear TQ4
 generalize wq = wp at *
 have TP := TQ
 have IP := IQ
 have YP := YQ
 have OP := OQ
 have BP := BQ
 have YW := YWQ
 clear TQ IQ YQ OQ BQ YWQ
 go_upto_region 84 with fail
 obtain ⟨wx, ewx⟩ : ∃ q, q = setL wp (w11.heap.size) 4 [.bool (i.n == 1), .bool (i.n == 0)] := ⟨_, rfl⟩
 have PU := put_some TP 4 _ ewx
 exact prf_6421ee
end
section
set_option maxHeartbeats 8000000
set_option maxRecDepth 20000
open Go.RowKit
attribute [local go_sem ↓] Go.wp_at_zero Go.wp_at_succ

theorem stepT_11 {T : Nat → Prop} {V F : Int} {s : Option Addr} {c : List Ins} {cap m : Nat} {i : Ins} {x : Pic} {vs : Option Addr} {vc : Nat} {fs : Option Addr} {fc : Nat} {w : World} {w3 w4 w7 w11 wp : World} {v : Ro} {gs : Option Addr} {gc : Nat} {L : List Ro} (hx : PicOn T w x vs fs) (K : SCtx V F c x vc fc i (m : Int)) (hk : i.k = 11) (SP : Hid (SPre T V F s c cap (m : Int) i x vs vc fs fc w wp (w.heap.size + 1 + 1) w3.heap.size w4.heap.size w7.heap.size (w7.heap.size + 1) w11.heap.size w3 v gs gc L noneG none 0 noneG none 0)) : SwT (fun e w' => StpAns (fun b => T b ∨ w.heap.size ≤ b) w' e (stepPic i (m : Int) x) ∧ Below w.heap.size w w') m w w3 w4 w7 w11 wp := by
 have HKK := hideH hk
 clear hk
 have HK := hideH K
 have HX := hideH hx
 have h60 := K.lens.2.1
 have n0 : (0 : Int) ≤ (m : Int) := K.a0
 have n1 : (m : Int) < (c.length : Int) := K.a1
 have hm : m < c.length := by omega
 have w61 : (m : Int) ≤ 60 := by omega
 clear K hx
 refine sw_of rfl fun z0 z2 z4 u => ?_
 simp only [List.range, List.range.loop, List.map]
 obtain ⟨BP, PP, XP, IP, YP, OP, AP, EP, TP, GAI, GBI, GOW, YW, -, EPV0, -, o2, o3, o4, o5, o6⟩ := SP.out
 have EPV := hideH EPV0
 clear EPV0
 have i0 := IP.1 0 _ rfl
 rw [HKK.out] at i0
 obtain ⟨kt, ekt, hktx⟩ := HK.out.varTo (by rw [HKK.out]; rfl)
 have HKT := hideH ekt
 clear ekt
 obtain ⟨f, ef⟩ := Int.eq_ofNat_of_zero_le HK.out.lens.2.2.2.1
 have hf3 : f ≤ 3 := by have h := HK.out.lens.2.2.2.2.1; omega
 have hmL : m < L.length := by have h := HK.out.kx.flds; rw [EPV.out] at h; simp [picOf] at h; omega
 have hrow : L[m].l.length = f := by
  have h := HK.out.kx.row m (by rw [EPV.out]; simpa [picOf] using hmL)
  have e : x.flds[m]'(by rw [EPV.out]; simpa [picOf] using hmL) = roG L[m] := by
   have : ∀ (y : Pic) (h : m < y.flds.length) (hy : y = picOf false v L), y.flds[m] = roG L[m] := by intro y h hy; subst hy; simp [picOf]
   exact this x _ EPV.out
  rw [e] at h
  simp [roG] at h
  omega
 obtain ⟨gg, hgg⟩ : ∃ g : Gs, g = ⟨false, ⟨true, 0, 0⟩, false, false, [(m : Int)]⟩ := ⟨_, rfl⟩
 obtain ⟨ss, hss⟩ : ∃ a : Option Addr, a = some ⟨wp.heap.size, 0, none⟩ := ⟨_, rfl⟩
 obtain ⟨cp, hcp⟩ : ∃ a : Nat, a = 1 := ⟨_, rfl⟩
 have HST : Hid (stepPic i (m : Int) x = if nothingGs gg then ([], false, false) else ([⟨(m : Int) + 1, setVar (newPic (m : Int) x) i.tgt gg⟩], false, false)) := by show _ = _; rw [hgg]; simp [stepPic, comesGs, HK.out.kx.none, HKK.out]
 have hng : Hid (nothingGs gg = false) := by show _ = _; rw [hgg]; simp [nothingGs, otherGs]
 have HGG := hideH (And.intro hgg (And.intro hss hcp))
 have HEF := hideH ef
 clear hgg hss hcp ef
 have hba : Below wp.heap.size wp (wp.alloc (.cells #[.int .i64 (m : Int)] 3)) := by go_grown
 have z6 := (TP.call hba).1 6 _ rfl
 have fz6 := (TP.call hba).2.2 6
 go_upto_region 72 with fail
 clear z6 fz6
 have NA : Cells (wp.alloc (.cells #[.int .i64 (m : Int)] 3)) wp.heap.size [.int .i64 (m : Int)] := Cells.new wp 3 [.int .i64 (m : Int)]
 have HTZ : Hid (w11.heap.size < wp.heap.size) := TP.2.1
 have TQ := TP.call hba
 have IQ := IP.call hba
 have YQ := YP.call hba
 have OQ := OP.call hba
 have PQ := PP.call hba
 have BQ := BP.trans (hba.mono BP.size)
 have YWQ := YW.trans (hba.mono YW.size)
 clear TP IP YP OP BP YW hba PP XP AP EP GAI GBI
 generalize wp.alloc (.cells #[.int .i64 (m : Int)] 3) = wq at *
 obtain ⟨wk, ewk⟩ : ∃ q, q = setL wq (w11.heap.size) 6 [.slice (some ⟨wp.heap.size, 0, none⟩) 1 1] := ⟨_, rfl⟩
 have PU := put_some TQ 6 _ ewk
 simp only [setL] at ewk
 rw [← ewk]
 clear ewk
 have TK := PU.cells
 have IK := PU.keep IQ
 have YK := PU.keep YQ
 have OK := PU.keep OQ
 have PK := PU.keep PQ
 have NK := PU.keep NA (by have := HTZ.out; omega)
 have BK := PU.low (by omega) BQ
 have YWK := PU.low (by omega) YWQ
 clear PU TQ IQ YQ OQ PQ NA BQ YWQ
 generalize wp.heap.size = nb at *
 have GK := GOW.same (w' := wk) (fun b _ hlt => YWK.block b hlt) YWK.size
 have p1 := PK.1 1 _ rfl
 rw [HEF.out] at p1
 go_wp2
 clear p1
 obtain ⟨fb, efb, hfb, zfb, -⟩ := GOW.fform (by omega)
 have HRF : Hid (0 < f → ∃ rb, L[m].rs = some ⟨rb, 0, none⟩ ∧ w.heap.size + 1 + 1 + 1 ≤ rb ∧ rb < w3.heap.size ∧ rb ≠ fb) := fun h => by
  obtain ⟨rb, e1, e2, e3, e4⟩ := (GOW.rows _ (List.getElem_mem hmL)).form (by omega)
  refine ⟨rb, e1, e3, e4, fun e => ?_⟩
  exact GOW.df fb (by rw [efb]; rfl) _ (List.getElem_mem hmL) (by rw [e2, e])
 go_loopw [27] (fun i_ wr => ∃ (j : Nat), j ≤ f ∧ i_ = .int .i64 j ∧ PicG (fun b => w.heap.size ≤ b) (w.heap.size + 1 + 1 + 1) wr v gs gc (nulR L m j hmL) ∧ (∀ b, b < w.heap.size + 1 + 1 + 1 ∨ w3.heap.size ≤ b → wr.heap[b]? = wk.heap[b]?) ∧ wk.heap.size ≤ wr.heap.size ∧ Below w.heap.size w wr) (fun i_ _ => f - (intOf i_).toNat)
 case atStart => exact ⟨0, Nat.zero_le _, rfl, by rw [nulR_zero]; exact GK, fun _ _ => rfl, Nat.le_refl _, BK⟩
 case round =>
  obtain ⟨j, hj, rfl, GR, hsm, hsz, BR⟩ := hrel
  have od : Hid (w3.heap.size < w4.heap.size ∧ w4.heap.size < w11.heap.size) := ⟨o3, by omega⟩
  by_cases hlt : j < f
  ·have j0 : (0 : Int) ≤ (j : Int) := by omega
   have j1 : (j : Int) < (f : Int) := by omega
   obtain ⟨rb, erb, hrb, zrb, hne⟩ := HRF.out (by omega)
   have PR := PK.same (hsm _ (.inl (by omega))) hsz
   have YR := YK.same (hsm _ (.inr (by omega))) hsz
   have p1 := PR.1 1 _ rfl
   rw [HEF.out] at p1
   have y2 := YR.1 2 _ rfl
   rw [efb] at y2
   have hjl : j < L[m].l.length := by omega
   have GN := GR.nul erb hjl
   have hm' : m < (nulR L m j hmL).length := by rw [nulR_len]; exact hmL
   obtain ⟨fb2, efb2, -, -, hcf⟩ := GR.fform (by omega)
   have hcm := hcf m hm'
   rw [nulR_roV, erb] at hcm
   have hfe : fb2 = fb := by rw [efb] at efb2; cases efb2; rfl
   subst hfe
   have RW := GR.rows _ (List.getElem_mem hm')
   have erb' : ((nulR L m j hmL)[m]).rs = some ⟨rb, 0, none⟩ := by rw [nulR_get]; exact erb
   have hjl' : j < ((nulR L m j hmL)[m]).l.length := by rw [nulR_get]; simpa [nulL_len] using hjl
   obtain ⟨⟨g0, -⟩, -⟩ := RW.gu erb' (k := j) hjl'
   obtain ⟨bv, hbv⟩ : ∃ bv, wr.cell? ⟨rb, j * 7, none⟩ = some (.bool bv) := ⟨_, g0⟩
   clear g0
   have th := RW.thaw erb' (j * 7)
   have m0 : (0 : Int) ≤ (m : Int) := by omega
   have mm : (m : Int) < (L.length : Int) := by omega
   have jl : (j : Int) < (L[m].l.length : Int) := by omega
   have HP : Hid (PicG (fun b => w.heap.size ≤ b) (w.heap.size + 1 + 1 + 1) (wr.setCell ⟨rb, j * 7, none⟩ (.bool true)) v gs gc (nulR L m (j + 1) hmL) ∧ (∀ b, b < w.heap.size + 1 + 1 + 1 ∨ w3.heap.size ≤ b → (wr.setCell ⟨rb, j * 7, none⟩ (.bool true)).heap[b]? = wk.heap[b]?) ∧ wk.heap.size ≤ (wr.setCell ⟨rb, j * 7, none⟩ (.bool true)).heap.size ∧ Below w.heap.size w (wr.setCell ⟨rb, j * 7, none⟩ (.bool true))) := ⟨GN, fun b hb => by rw [Below.heap_setCell _ _ _ _ (by simp only; omega)]; exact hsm b hb, by simpa [World.setCell] using hsz, BR.setCell (by simp only; omega) _⟩
   clear GN RW hcf GR hsm PR YR efb2 erb' hjl' hm'
   go_wp2
   go_roundw
   case rel => exact ⟨j + 1, by omega, by go_num, HP.out.1, HP.out.2.1, HP.out.2.2.1, HP.out.2.2.2⟩
   case measure => simp [intOf]; omega
  ·have j1 : ¬ (j : Int) < (f : Int) := by omega
   have PR := PK.same (hsm _ (.inl (by omega))) hsz
   have p1 := PR.1 1 _ rfl
   rw [HEF.out] at p1
   have ej : j = f := by omega
   have EPX : Hid (newPic (m : Int) x = picOf false v (nulR L m j hmL)) := by show _ = _; rw [nulR_pic (by omega), ← EPV.out]
   have TX : Cells wr w11.heap.size [.bool gg.n, .bool gg.sp.n, .int .i64 gg.sp.lo, .int .i64 gg.sp.hi, .bool gg.t, .bool gg.f, .slice ss gg.s.length cp] := by rw [HGG.out.1, HGG.out.2.1, HGG.out.2.2]; exact TK.same (hsm _ (.inr (by have := od.out; omega))) hsz
   have IX := IK.same (hsm _ (.inl (by omega))) hsz
   have YX := YK.same (hsm _ (.inr (by omega))) hsz
   have OX := OK.same (hsm _ (.inr (by have := od.out; omega))) hsz
   have NX := NK.same (hsm _ (.inr (by have := HTZ.out; have := od.out; omega))) hsz
   have BX := BR
   have YWX : True := trivial
   have HGI : Hid (IntsIn (fun b => (T b ∧ b < w.heap.size) ∨ w3.heap.size ≤ b) wr ss gg.s) := by
    show IntsIn _ _ _ _
    rw [HGG.out.1, HGG.out.2.1]
    refine .inr ⟨nb, 0, rfl, .inr (by have := HTZ.out; have := od.out; omega), NX.2.1, fun k hk => ?_⟩
    have h0 : k = 0 := by simp at hk; omega
    subst h0
    exact NX.1 0 _ rfl
   have HCP : Hid (gg.s.length ≤ cp ∧ cp ≤ maxLen) := by
    rw [HGG.out.1, HGG.out.2.2]
    exact ⟨by simp, by unfold maxLen; omega⟩
   have HGX := hideH GR
   clear GR hsm PR NX IK YK OK NK PK TK BK YWK GK HGG j1
   generalize wr = wx at *
   go_upto_region 84 with fail
   clear p1
   have HIS : Hid (∀ wz, Calls Tryz.prog 28 #[.agg #[.bool gg.n, .bool gg.sp.n, .int .i64 gg.sp.lo, .int .i64 gg.sp.hi, .bool gg.t, .bool gg.f, .slice ss gg.s.length cp]] wz fun e w' => e = .returned (.bool false) ∧ Below wz.heap.size wz w') := fun wz => by have h := isNothing_any gg ss cp wz; rw [hng.out] at h; exact h
   have t0 := TX.1 0 _ rfl
   have t1 := TX.1 1 _ rfl
   have t2 := TX.1 2 _ rfl
   have t3 := TX.1 3 _ rfl
   have t4 := TX.1 4 _ rfl
   have t5 := TX.1 5 _ rfl
   have t6 := TX.1 6 _ rfl
   go_wp2_with (go_at_call 28; fail)
   refine ((HIS.out wx).mono ?_)
   rintro e wy ⟨rfl, hby⟩
   clear t0 t1 t2 t3 t4 t5 t6
   have TY := TX.call hby
   have IY := IX.call hby
   have YY := YX.call hby
   have OY := OX.call hby
   have BY := BX.trans (hby.mono BX.size)
   have YWY : True := trivial
   have HGY := hideH (IntsIn.call HGI.out hby)
   clear TX IX YX OX BX YWX HIS HGI
   have GP := HGX.out.call hby
   have GC0 := gc_away (T := T) (y := ⟨gg, ss, cp⟩) GOW (by omega) (by omega) HGY.out HCP.out.1 HCP.out.2
   have GC : GcIn (fun b => (T b ∨ w.heap.size ≤ b) ∧ Off v (Value.slice gs (nulR L m j hmL).length gc).ownBlock (nulR L m j hmL) b) wy ⟨gg, ss, cp⟩ := ⟨GC0.1.mono fun b hb _ => ⟨hb.1, by rw [nulR_len]; exact nulR_off.2 hb.2⟩, GC0.2⟩
   clear GC0
   have hktv : kt < v.l.length := by have h := hktx; rw [EPV.out] at h; simpa [picOf, roG] using h
   obtain ⟨vb, evb, eb1, hvb, zvb⟩ := GOW.vars.form (by omega)
   have GP2 := (GP.mono (T' := fun b => T b ∨ w.heap.size ≤ b) fun b hb _ => .inr hb)
   have GS := GP2.setV evb hktv GC
   have GU := GP.vars.gu evb (k := kt) hktv
   obtain ⟨⟨u0, u1, u2, u3, u4, u5, u6⟩, uz⟩ := GU
   have TH := GP.vars.thaw evb
   have f0 := TH (kt * 7)
   have f1 := TH (kt * 7 + 1)
   have f2 := TH (kt * 7 + 2)
   have f3 := TH (kt * 7 + 3)
   have f4 := TH (kt * 7 + 4)
   have f5 := TH (kt * 7 + 5)
   have f6 := TH (kt * 7 + 6)
   have y1 := YY.1 1 _ rfl
   rw [evb] at y1
   have i1 := IY.1 1 _ rfl
   rw [HKT.out] at i1
   have t0 := TY.1 0 _ rfl
   have t1 := TY.1 1 _ rfl
   have t2 := TY.1 2 _ rfl
   have t3 := TY.1 3 _ rfl
   have t4 := TY.1 4 _ rfl
   have t5 := TY.1 5 _ rfl
   have t6 := TY.1 6 _ rfl
   have q0 : (0 : Int) ≤ (kt : Int) := by omega
   have q1 : (kt : Int) < (v.l.length : Int) := by omega
   have HEV := hideH evb
   have OS : Cells (set7 wy vb kt ⟨gg, ss, cp⟩) w4.heap.size [.int .i64 ((m : Int) + 1), .bool false, .slice v.rs v.l.length v.rc, .slice gs (nulR L m j hmL).length gc] := by rw [nulR_len]; exact OY.same (heap_set7 (by omega)) (by rw [size_set7]; exact Nat.le_refl _)
   have BS : Below w.heap.size w (set7 wy vb kt ⟨gg, ss, cp⟩) := below_set7 BY (by omega)
   have HF : Hid (StpAns (fun b => T b ∨ w.heap.size ≤ b) (set7 wy vb kt ⟨gg, ss, cp⟩) (.returned (.tuple #[.slice (some ⟨w4.heap.size, 0, none⟩) 1 1, .bool false, .bool false])) (stepPic i (m : Int) x)) := by
    show StpAns _ _ _ _
    rw [HST.out, if_neg (by rw [hng.out]; decide)]
    refine ⟨some ⟨w4.heap.size, 0, none⟩, 1, rfl, ?_⟩
    refine eds_one (S := (fun b => T b ∨ w.heap.size ≤ b)) (v := ⟨v.rs, v.rc, v.l.set kt ⟨gg, ss, cp⟩⟩) (L := (nulR L m j hmL)) (by simp only [List.length_set]; exact OS) (.inr (by omega)) GS (fun b hb => hb) (fun b hb => .inr (by omega)) ?_
    rw [picOf_setV, ← EPX.out, HKT.out]
   clear GP GC GP2 GS TH TY IY YY OY OS BY HGY GOW YWY EPV evb
   obtain ⟨wv, ewv⟩ : ∃ q, q = set7 wy vb kt ⟨gg, ss, cp⟩ := ⟨_, rfl⟩
   have HF2 := hideH (And.intro HF.out BS)
   rw [← ewv] at HF2
   go_upto_region 87 with fail
   clear u0 u1 u2 u3 u4 u5 u6 uz f0 f1 f2 f3 f4 f5 f6 t0 t1 t2 t3 t4 t5 t6 y1 i1 HF BS
   simp only [set7] at ewv
   rw [← ewv]
   clear ewv
   go_wp2
   refine bodyPost_ret (v := .tuple #[.slice (some ⟨w4.heap.size, 0, none⟩) 1 1, .bool false, .bool false]) (by simp [results, Tryz.results7, go_sem]) rfl HF2.out
end
section
set_option maxHeartbeats 8000000
set_option maxRecDepth 20000
open Go.RowKit
attribute [local go_sem ↓] Go.wp_at_zero Go.wp_at_succ

/-- A part of a text: 0 the left of a sequence, the first of two ways, 1 the other. -/
def goC : List Nat → Option Code → Option Code
 | [], o => o
 | 0 :: p, some (.seq a _) => goC p (some a)
 | _ :: p, some (.seq _ b) => goC p (some b)
 | 0 :: p, some (.cond _ a _) => goC p (some a)
 | _ :: p, some (.cond _ _ b) => goC p (some b)
 | _ :: p, some (.block _ c) => goC p (some c)
 | _ :: _, _ => none
theorem sub_of {P : Program} {Q : Exit → Act → World → Prop} {a : Act} {w : World} {o : Option Code} {c d : Code} (h : o = some c) (h' : o = some d) (hw : d.wp P Q a w) : c.wp P Q a w := by
 cases h.symm.trans h'
 exact hw
theorem ERow.down {n n' sb : Nat} {w : World} {v : Value} {L : List Ed} (h : ERow n sb w v L) (hn : n' ≤ n) : ERow n' sb w v L := ⟨ownsI_lower h.own hn, h.off, fun e he => ⟨(h.pics e he).1.mono fun _ hb _ => ⟨Nat.le_trans hn hb.1, hb.2⟩, (h.pics e he).2⟩⟩
theorem test_span {K K4 : Act → World → Prop} {R : Ending → World → Prop} {c' : Code} {z : Nat → Value} {tl : List Value} {K3 : Act → World → Prop} {vb2 : Nat} {slo shi : Int} {tb : Bool} {sv' : Value} {wv : World} (hc : goC [1, 1, 1, 1, 1, 1, 1, 1, 1, 1, 0, 1, 0, 1, 1, 1, 1, 1, 1, 1, 0, 1, 1, 0, 1, 0, 1, 1, 1, 0, 1, 0] Tryz.f7.body = some c') (hl : tl.length = 317) (hv : Cells wv vb2 [.bool false, .bool false, .int .i64 slo, .int .i64 shi, .bool tb, .bool false, sv']) (hle : slo ≤ shi)
  (H : ∀ (w' : World) (tl' : List Value), tl'.length = 317 → Put vb2 wv w' [.bool false, .bool (trueSp ⟨false, slo, shi⟩).n, .int .i64 (trueSp ⟨false, slo, shi⟩).lo, .int .i64 (trueSp ⟨false, slo, shi⟩).hi, .bool tb, .bool false, sv'] → K ⟨((List.range 20).map z ++ .pointer (some ⟨vb2, 0, none⟩) :: tl').toArray, []⟩ w') : c'.wp Tryz.prog (Exit.then K (Exit.then K3 (Exit.inBlock 0 (Exit.then K4 (bodyPost Tryz.prog Tryz.f7 R))))) ⟨((List.range 20).map z ++ .pointer (some ⟨vb2, 0, none⟩) :: tl).toArray, []⟩ wv := by
 obtain ⟨u, rfl⟩ := list_u tl _ hl
 refine sub_of hc rfl ?_
 simp only [List.range, List.range.loop, List.map, List.cons_append, List.nil_append] at H ⊢
 have HH := hideH H
 clear H hc hl
 have HDP : Hid (Put vb2 wv wv.drew [.bool false, .bool false, .int .i64 slo, .int .i64 shi, .bool tb, .bool false, sv']) := ⟨hv.call (Below.refl _ _).drew, fun _ _ => rfl, Nat.le_refl _, fun _ h => h.drew⟩
 clear hv
 go_upto_region 31 with fail
 refine wp_region_z (S := (fun wx => wx.cell? ⟨vb2, 2, none⟩ = some (.int .i64 slo) ∧ wx.cell? ⟨vb2, 3, none⟩ = some (.int .i64 shi))) [] (by kernel_rfl) ⟨HDP.out.cells.1 2 _ rfl, HDP.out.cells.1 3 _ rfl⟩ (fun hHeld => ?_)
 generalize wv.drew = wd at *
 refine tZ 0 ?_ ?_;refine sm ?_
 refine tZ 1 ?_ ?_;refine sm ?_
 refine tZ 2 ?_ ?_;refine sm ?_
 refine tZ 3 ?_ ?_;refine sm ?_
 refine tZ 4 ?_ ?_;refine sm ?_
 refine tZ 5 ?_ ?_;refine sm ?_
 refine tZ 6 ?_ ?_;refine sm ?_
 refine tZ 7 ?_ ?_;refine sm ?_
 refine wpAnyZ_done (by kernel_rfl) ?_ _
 have k1 := HDP.out.cells.1 1 _ rfl
 have fk1 := HDP.out.cells.2.2 1
 have k2 := HDP.out.cells.1 2 _ rfl
 have fk2 := HDP.out.cells.2.2 2
 have k3 := HDP.out.cells.1 3 _ rfl
 have fk3 := HDP.out.cells.2.2 3
 by_cases e1 : slo = 0
 ·have eb1 : (slo == 0) = true := by simpa using e1
  by_cases e2 : shi = 0
  ·have eb2 : (shi == 0) = true := by simpa using e2
   have HQ : Hid (trueSp ⟨false, slo, shi⟩ = ⟨true, 0, 0⟩) := by show _ = _; unfold trueSp; simp only [e1, e2]; simp; try omega
   clear e1 e2 hle
   go_wp2_with fail
   obtain ⟨wz, ez⟩ : ∃ q, q = setL wd vb2 1 [.bool false, .int .i64 1, .int .i64 (-1)] := ⟨_, rfl⟩
   have PZ : Put vb2 wd wz [.bool false, .bool false, .int .i64 1, .int .i64 (-1), .bool tb, .bool false, sv'] := put_some HDP.out.cells 1 _ ez
   obtain ⟨wy, ey⟩ : ∃ q, q = setL wz vb2 1 [.bool true, .int .i64 0, .int .i64 0] := ⟨_, rfl⟩
   have PY : Put vb2 wz wy [.bool false, .bool true, .int .i64 0, .int .i64 0, .bool tb, .bool false, sv'] := put_some PZ.cells 1 _ ey
   simp only [setL] at ey
   simp only [setL] at ez
   rw [← ez]
   rw [← ey]
   refine HH.out _ _ (by rfl) ?_
   rw [HQ.out]
   exact HDP.out.trans (PZ.trans PY)
  ·have eb2 : (shi == 0) = false := by simpa using e2
   have h3 : ¬ shi < 1 := by omega
   have HQ : Hid (trueSp ⟨false, slo, shi⟩ = ⟨false, 1, shi⟩) := by show _ = _; unfold trueSp; simp only [e1, e2]; simp; try omega
   clear e1 e2 hle
   go_wp2_with fail
   obtain ⟨wz, ez⟩ : ∃ q, q = setL wd vb2 1 [.bool false, .int .i64 1, .int .i64 shi] := ⟨_, rfl⟩
   have PZ : Put vb2 wd wz [.bool false, .bool false, .int .i64 1, .int .i64 shi, .bool tb, .bool false, sv'] := put_some HDP.out.cells 1 _ ez
   simp only [setL] at ez
   rw [← ez]
   refine HH.out _ _ (by rfl) ?_
   rw [HQ.out]
   exact HDP.out.trans PZ
 ·have eb1 : (slo == 0) = false := by simpa using e1
  by_cases e2 : shi = 0
  ·have eb2 : (shi == 0) = true := by simpa using e2
   have h3 : ¬ (-1 : Int) < slo := by omega
   have HQ : Hid (trueSp ⟨false, slo, shi⟩ = ⟨false, slo, -1⟩) := by show _ = _; unfold trueSp; simp only [e1, e2]; simp; try omega
   clear e1 e2 hle
   go_wp2_with fail
   obtain ⟨wz, ez⟩ : ∃ q, q = setL wd vb2 1 [.bool false, .int .i64 slo, .int .i64 (-1)] := ⟨_, rfl⟩
   have PZ : Put vb2 wd wz [.bool false, .bool false, .int .i64 slo, .int .i64 (-1), .bool tb, .bool false, sv'] := put_some HDP.out.cells 1 _ ez
   simp only [setL] at ez
   rw [← ez]
   refine HH.out _ _ (by rfl) ?_
   rw [HQ.out]
   exact HDP.out.trans PZ
  ·have eb2 : (shi == 0) = false := by simpa using e2
   have h3 : ¬ shi < slo := by omega
   have HQ : Hid (trueSp ⟨false, slo, shi⟩ = ⟨false, slo, shi⟩) := by show _ = _; unfold trueSp; simp only [e1, e2]; simp; try omega
   clear e1 e2 hle
   go_wp2_with fail
   obtain ⟨wz, ez⟩ : ∃ q, q = setL wd vb2 1 [.bool false, .int .i64 slo, .int .i64 shi] := ⟨_, rfl⟩
   have PZ : Put vb2 wd wz [.bool false, .bool false, .int .i64 slo, .int .i64 shi, .bool tb, .bool false, sv'] := put_some HDP.out.cells 1 _ ez
   simp only [setL] at ez
   rw [← ez]
   refine HH.out _ _ (by rfl) ?_
   rw [HQ.out]
   exact HDP.out.trans PZ
end
section
set_option maxHeartbeats 8000000
set_option maxRecDepth 20000
open Go.RowKit
attribute [local go_sem ↓] Go.wp_at_zero Go.wp_at_succ

theorem test_end {K K4 : Act → World → Prop} {R : Ending → World → Prop} {c' : Code} {z : Nat → Value} {tl : List Value} {m sb : Nat} {i : Ins} {x : Pic} {w wt : World} {ka : Nat} {v2 : Ro} {gs2 : Option Addr} {gc2 : Nat} {L2 : List Ro} {vb2 gb : Nat} {tg : Gs} {ss : Option Addr} {cp : Nat} {ws : World} (ta : Int) (hc : goC [1, 1, 1, 1, 1, 1, 1, 1, 1, 1, 0, 1, 0, 1, 1, 1, 1, 1, 1, 1, 0, 1, 1, 0, 1, 0, 1, 1, 1, 1] Tryz.f7.body = some c') (hl : tl.length = 317) (h1 : z 1 = .int .i64 (m : Int)) (h9 : z 9 = .pointer (some ⟨w.heap.size + 1 + 1, 0, none⟩)) (w61 : (m : Int) ≤ 60) (n0 : (0 : Int) ≤ (m : Int)) (hta : i.k = 17 ∧ ta = (m : Int) + 1 ∨ i.k = 15 ∧ ta = i.g) (eka : i.a = (ka : Int)) (hkv : ka < v2.l.length) (hzi : w.heap.size + 1 + 1 < wt.heap.size) (hsb : sb < wt.heap.size)
  (GHS : Cells ws gb [.bool false, .slice v2.rs v2.l.length v2.rc, .slice gs2 L2.length gc2]) (hgv : roB v2 ≠ some gb) (IHS : Cells ws (w.heap.size + 1 + 1) [.int .i64 i.k, .int .i64 i.tgt, .int .i64 i.a, .int .i64 i.b, .int .i64 i.n, .int .i64 i.g]) (PHS : PicG (fun b => wt.heap.size ≤ b) (wt.heap.size) ws v2 gs2 gc2 L2) (CS : Cells ws vb2 [.bool tg.n, .bool tg.sp.n, .int .i64 tg.sp.lo, .int .i64 tg.sp.hi, .bool tg.t, .bool tg.f, .slice ss tg.s.length cp]) (GC : GcIn (fun b => wt.heap.size ≤ b ∧ Off v2 (Value.slice gs2 L2.length gc2).ownBlock L2 b) ws ⟨tg, ss, cp⟩) (BTS : Below wt.heap.size wt ws) (ex2 : x = picOf false v2 L2)
  (H : ∀ (ev : List Ed) (t18 : Value) (w' : World) (tl' : List Value), tl'.length = 319 → ERow wt.heap.size sb w' t18 ev → Hid (ev.map edG = [⟨ta, setVar x i.a tg⟩]) → Below wt.heap.size wt w' → K ⟨((List.range 18).map z ++ t18 :: tl').toArray, []⟩ w') : c'.wp Tryz.prog (Exit.then K (Exit.inBlock 0 (Exit.then K4 (bodyPost Tryz.prog Tryz.f7 R)))) ⟨((List.range 18).map z ++ .slice none 0 0 :: .pointer (some ⟨gb, 0, none⟩) :: .pointer (some ⟨vb2, 0, none⟩) :: tl).toArray, []⟩ ws := by
 obtain ⟨u, rfl⟩ := list_u tl _ hl
 refine sub_of hc rfl ?_
 simp only [List.range, List.range.loop, List.map, List.cons_append, List.nil_append, h1, h9] at H ⊢
 have HH := hideH H
 clear H hc hl
 have HKAV := hideH eka
 have EPW := hideH ex2
 have HTA := hideH hta
 obtain ⟨vb, evb, evB, hvb, zvb⟩ := PHS.vars.form (by omega)
 have hgb : gb ≠ vb := fun e => hgv (by rw [evB, e])
 have HEV := hideH evb
 clear eka ex2 hta evb evB hgv h1 h9
 obtain ⟨⟨u0, u1, u2, u3, u4, u5, u6⟩, uz⟩ := PHS.vars.gu HEV.out (k := ka) hkv
 have TH := PHS.vars.thaw HEV.out
 have f0 := TH (ka * 7)
 have f1 := TH (ka * 7 + 1)
 have f2 := TH (ka * 7 + 2)
 have f3 := TH (ka * 7 + 3)
 have f4 := TH (ka * 7 + 4)
 have f5 := TH (ka * 7 + 5)
 have f6 := TH (ka * 7 + 6)
 have g1 := GHS.1 1 _ rfl
 rw [HEV.out] at g1
 have i2 := IHS.1 2 _ rfl
 rw [HKAV.out] at i2
 have t0 := CS.1 0 _ rfl
 have t1 := CS.1 1 _ rfl
 have t2 := CS.1 2 _ rfl
 have t3 := CS.1 3 _ rfl
 have t4 := CS.1 4 _ rfl
 have t5 := CS.1 5 _ rfl
 have t6 := CS.1 6 _ rfl
 obtain ⟨wz, ewz⟩ : ∃ q, q = set7 ws vb ka ⟨tg, ss, cp⟩ := ⟨_, rfl⟩
 have HF : Hid (Cells wz gb [.bool false, .slice v2.rs v2.l.length v2.rc, .slice gs2 L2.length gc2] ∧ Cells wz (w.heap.size + 1 + 1) [.int .i64 i.k, .int .i64 i.tgt, .int .i64 i.a, .int .i64 i.b, .int .i64 i.n, .int .i64 i.g] ∧ PicG (fun b => wt.heap.size ≤ b) (wt.heap.size) wz ⟨v2.rs, v2.rc, v2.l.set ka ⟨tg, ss, cp⟩⟩ gs2 gc2 L2 ∧ Below wt.heap.size wt wz) := by
  rw [ewz]
  exact ⟨GHS.same (heap_set7 hgb) (by rw [size_set7]; exact Nat.le_refl _), IHS.same (heap_set7 (by omega)) (by rw [size_set7]; exact Nat.le_refl _), PHS.setV HEV.out hkv GC, below_set7 BTS (by omega)⟩
 have q0 : (0 : Int) ≤ (ka : Int) := by omega
 have q1 : (ka : Int) < (v2.l.length : Int) := by omega
 clear GHS IHS PHS BTS GC TH CS
 go_upto_region 40 with fail
 clear u0 u1 u2 u3 u4 u5 u6 uz f0 f1 f2 f3 f4 f5 f6 t0 t1 t2 t3 t4 t5 t6 g1 i2
 simp only [set7] at ewz
 rw [← ewz]
 clear ewz
 obtain ⟨GZ, IZ, PZ, BZ⟩ := HF.out
 have HPZ := hideH PZ
 have HBZ := hideH BZ
 have i5 := IZ.1 5 _ rfl
 have g0 := GZ.1 0 _ rfl
 have g1 := GZ.1 1 _ rfl
 have g2 := GZ.1 2 _ rfl
 clear HF PZ BZ
 go_upto_region 41 with fail
 clear g0 g1 g2 i5
 have N4 : Cells (wz.alloc (.cells #[.int .i64 i.g, .bool false, .slice v2.rs v2.l.length v2.rc, .slice gs2 L2.length gc2] 56)) wz.heap.size [.int .i64 i.g, .bool false, .slice v2.rs v2.l.length v2.rc, .slice gs2 L2.length gc2] := Cells.new wz _ [_, _, _, _]
 have h4 : Below wz.heap.size wz (wz.alloc (.cells #[.int .i64 i.g, .bool false, .slice v2.rs v2.l.length v2.rc, .slice gs2 L2.length gc2] 56)) := by go_grown
 generalize wz.alloc (.cells #[.int .i64 i.g, .bool false, .slice v2.rs v2.l.length v2.rc, .slice gs2 L2.length gc2] 56) = w4a at *
 have I4 := IZ.call h4
 have i0 := I4.1 0 _ rfl
 go_upto_if 140 with fail
 clear i0
 go_cut [] (fun wc => Put wz.heap.size w4a wc [.int .i64 ta, .bool false, .slice v2.rs v2.l.length v2.rc, .slice gs2 L2.length gc2])
 case first =>
  have k0 := N4.1 0 _ rfl
  have k1 := N4.2.2 0
  have HN4 := hideH N4
  clear N4
  rcases HTA.out with ⟨hk, hta⟩ | ⟨hk, hta⟩
  ·have hb : (i.k == 17) = true := by rw [hk]; rfl
   have HE := hideH hta
   clear hk hta
   go_wp2_with fail
   go_meet
   obtain ⟨wq, eq⟩ : ∃ q, q = setL w4a wz.heap.size 0 [.int .i64 ((m : Int) + 1)] := ⟨_, rfl⟩
   have PQ := put_some HN4.out 0 _ eq
   simp only [setL] at eq
   rw [← eq, HE.out]
   exact PQ
  ·have hb : (i.k == 17) = false := by rw [hk]; rfl
   have HE := hideH hta
   clear hk hta
   go_wp2_with fail
   go_meet
   rw [HE.out]
   exact Put.refl HN4.out
 have PU := hcut
 generalize wc = w5 at *
 clear wc N4 I4
 have N5 := PU.cells
 have h5 : Below wz.heap.size wz w5 := PU.low (Nat.le_refl _) h4
 have BT5 := HBZ.out.trans (h5.mono HBZ.out.size)
 have h6 : Below w5.heap.size w5 (w5.alloc (.cells #[.int .i64 ta, .bool false, .slice v2.rs v2.l.length v2.rc, .slice gs2 L2.length gc2] 56)) := by go_grown
 have P6 := (HPZ.out.call h5).call h6
 have BT6 := BT5.trans (h6.mono BT5.size)
 have z5 := BT5.size
 have EDI : EdIn (fun b => wt.heap.size ≤ b ∧ b ≠ sb ∧ (Value.slice none 0 0).ownBlock ≠ some b) (w5.alloc (.cells #[.int .i64 ta, .bool false, .slice v2.rs v2.l.length v2.rc, .slice gs2 L2.length gc2] 56)) ⟨ta, picOf false ⟨v2.rs, v2.rc, v2.l.set ka ⟨tg, ss, cp⟩⟩ L2, v2.rs, v2.rc, gs2, gc2⟩ := by
  refine ⟨(P6.on false).mono fun b hb _ => ?_, P6.vcap false, P6.fcap' false⟩
  have hb2 : wt.heap.size ≤ b := by rcases hb with hb | hb <;> exact hb
  exact ⟨hb2, by omega, fun e => by cases e⟩
 have c0 := N5.1 0 _ rfl
 have c1 := N5.1 1 _ rfl
 have c2 := N5.1 2 _ rfl
 have c3 := N5.1 3 _ rfl
 clear GZ IZ HPZ HBZ N5 PU h4
 obtain ⟨tk, hik, hik0, hik1, hik2⟩ := info_parts Tryz.info_edge
 go_wp2_with (at_builtin; refine wpList_append_any _ rfl _ _ 29 rfl (wt.heap.size) 56 tk (.agg #[.int .i64 0, .bool false, .slice none 0 0, .slice none 0 0]) 4 64 Tryz.underlying29 hik hik0 hik1 hik2 rfl (by decide) _ _ _ rfl (ERow.nil _ sb _).own (some ⟨w5.heap.size, 0, none⟩) 1 1 (edCells ⟨ta, picOf false ⟨v2.rs, v2.rc, v2.l.set ka ⟨tg, ss, cp⟩⟩ L2, v2.rs, v2.rc, gs2, gc2⟩) rfl rfl (fun h => by cases h) ?qc2 (edCells_one _) ?qc4 ?qc5 ?qc6 ?_)
 (try (case qc2 => exact news4 w5 ⟨ta, picOf false ⟨v2.rs, v2.rc, v2.l.set ka ⟨tg, ss, cp⟩⟩ L2, v2.rs, v2.rc, gs2, gc2⟩ #[.int .i64 ta, .bool false, .slice v2.rs v2.l.length v2.rc, .slice gs2 L2.length gc2] _ (by simp [edCells, picOf, roG])))
 (try (case qc4 => unfold maxLen; first | omega | (simp; done) | (simp; omega)))
 (try (case qc5 => first | omega | (simp; done) | (simp; omega)))
 (try (case qc6 => first | omega | (rw [World.size_alloc]; omega) | (simp; omega) | simp))
 intro ev' w6 hown hgrow hat
 have RW := (ERow.nil wt.heap.size sb _).grown EDI hown hgrow (by rw [World.size_alloc]; exact hat) (by rw [World.size_alloc]; omega)
 have B6 : Below wt.heap.size wt w6 := BT6.grown hgrow (by rw [World.size_alloc]; omega) (fun k hk => by cases hk)
 go_wp2_with fail
 exact HH.out _ _ _ _ (by rfl) RW (by show _ = _; simp only [List.nil_append, List.map, edG, picOf_setV]; rw [← EPW.out, HKAV.out]) B6
end
section
set_option maxHeartbeats 8000000
set_option maxRecDepth 20000
open Go.RowKit
attribute [local go_sem ↓] Go.wp_at_zero Go.wp_at_succ

theorem heap_set7_at {w w' : World} {b k : Nat} {x : Gc} (h : w'.heap[b]? = w.heap[b]?) : (set7 w' b k x).heap[b]? = (set7 w b k x).heap[b]? := by
 simp only [set7, World.setCell, Array.getElem?_modify, if_true, h]
theorem test_nend {K K4 : Act → World → Prop} {R : Ending → World → Prop} {c' : Code} {z : Nat → Value} {tl : List Value} {m : Nat} {i : Ins} {x : Pic} {w w3 : World} {b4 ka N : Nat} {v : Ro} {gs : Option Addr} {gc : Nat} {L : List Ro} {ev : List Ed} {es : Option Addr} {ec : Nat} {fg : Gs} {vb2 : Nat} {y19 y20 y21 y22 y23 : Value} {ws : World} (hc : goC [1, 1, 1, 1, 1, 1, 1, 1, 1, 1, 0, 1, 0, 1, 1, 1, 1, 1, 1, 1, 0, 1, 1, 1, 1, 0, 1, 0, 1, 1, 1] Tryz.f7.body = some c') (hl : tl.length = 313) (h9 : z 9 = .pointer (some ⟨w.heap.size + 1 + 1, 0, none⟩)) (h10 : z 10 = .pointer (some ⟨w3.heap.size, 0, none⟩)) (h11 : z 11 = .slice (some ⟨b4, 0, none⟩) 1 1) (eka : i.a = (ka : Int)) (ex : x = picOf false v L) (GOW : PicG (fun b => w.heap.size ≤ b) (w.heap.size + 1 + 1 + 1) w3 v gs gc L) (o2 : w.heap.size + 1 + 1 + 1 ≤ w3.heap.size) (o3 : w3.heap.size < b4) (o4 : b4 < N) (hL10 : ev.length ≤ 10) (hkv : ka < v.l.length) (hfs : fg.s = []) (IS : Cells ws (w.heap.size + 1 + 1) [.int .i64 i.k, .int .i64 i.tgt, .int .i64 i.a, .int .i64 i.b, .int .i64 i.n, .int .i64 i.g]) (YS : Cells ws w3.heap.size [.bool false, .slice v.rs v.l.length v.rc, .slice gs L.length gc]) (OS : Cells ws b4 [.int .i64 ((m : Int) + 1), .bool false, .slice v.rs v.l.length v.rc, .slice gs L.length gc]) (YW : Below w3.heap.size w3 ws) (BS : Below w.heap.size w ws) (ES : ERow N w3.heap.size ws (.slice es ev.length ec) ev) (CS : Cells ws vb2 [.bool fg.n, .bool fg.sp.n, .int .i64 fg.sp.lo, .int .i64 fg.sp.hi, .bool fg.t, .bool fg.f, .slice none 0 0])
  (H : ∀ (ev' : List Ed) (t18 : Value) (w' : World) (tl' : List Value), tl'.length = 319 → ERow w.heap.size w3.heap.size w' t18 ev' → Hid (ev'.map edG = ev.map edG ++ [⟨(m : Int) + 1, setVar x i.a fg⟩]) → Below w.heap.size w w' → K ⟨((List.range 18).map z ++ t18 :: tl').toArray, []⟩ w') : c'.wp Tryz.prog (Exit.then K (Exit.inBlock 0 (Exit.then K4 (bodyPost Tryz.prog Tryz.f7 R)))) ⟨((List.range 18).map z ++ .slice es ev.length ec :: y19 :: y20 :: y21 :: y22 :: y23 :: .pointer (some ⟨vb2, 0, none⟩) :: tl).toArray, []⟩ ws := by
 obtain ⟨u, rfl⟩ := list_u tl _ hl
 refine sub_of hc rfl ?_
 simp only [List.range, List.range.loop, List.map, List.cons_append, List.nil_append, h9, h10, h11] at H ⊢
 have HH := hideH H
 clear H hc hl
 have HKAV := hideH eka
 have EPW := hideH ex
 have PHS := GOW.call YW
 obtain ⟨vb, evb, evB, hvb, zvb⟩ := GOW.vars.form (by omega)
 have HEV := hideH evb
 have HFS := hideH hfs
 have zw3 := YW.size
 have GC : GcIn (fun b => w.heap.size ≤ b ∧ Off v (Value.slice gs L.length gc).ownBlock L b) ws ⟨fg, none, 0⟩ := ⟨.inl hfs, by rw [show (⟨fg, none, 0⟩ : Gc).g.s = [] from hfs]; exact Nat.le_refl _, Nat.zero_le _⟩
 have GC3 : GcIn (fun b => w.heap.size ≤ b ∧ Off v (Value.slice gs L.length gc).ownBlock L b) w3 ⟨fg, none, 0⟩ := ⟨.inl hfs, by rw [show (⟨fg, none, 0⟩ : Gc).g.s = [] from hfs]; exact Nat.le_refl _, Nat.zero_le _⟩
 clear eka ex evb evB hfs h9 h10 h11
 obtain ⟨⟨u0, u1, u2, u3, u4, u5, u6⟩, uz⟩ := PHS.vars.gu HEV.out (k := ka) hkv
 have TH := PHS.vars.thaw HEV.out
 have f0 := TH (ka * 7)
 have f1 := TH (ka * 7 + 1)
 have f2 := TH (ka * 7 + 2)
 have f3 := TH (ka * 7 + 3)
 have f4 := TH (ka * 7 + 4)
 have f5 := TH (ka * 7 + 5)
 have f6 := TH (ka * 7 + 6)
 have g1 := YS.1 1 _ rfl
 rw [HEV.out] at g1
 have i2 := IS.1 2 _ rfl
 rw [HKAV.out] at i2
 have t0 := CS.1 0 _ rfl
 have t1 := CS.1 1 _ rfl
 have t2 := CS.1 2 _ rfl
 have t3 := CS.1 3 _ rfl
 have t4 := CS.1 4 _ rfl
 have t5 := CS.1 5 _ rfl
 have t6 := CS.1 6 _ rfl
 obtain ⟨wz, ewz⟩ : ∃ q, q = set7 ws vb ka ⟨fg, none, 0⟩ := ⟨_, rfl⟩
 have GV := PHS.setV HEV.out hkv GC
 have EDZ : EdIn (fun b => w.heap.size ≤ b ∧ b < w3.heap.size) wz ⟨(m : Int) + 1, picOf false ⟨v.rs, v.rc, v.l.set ka ⟨fg, none, 0⟩⟩ L, v.rs, v.rc, gs, gc⟩ := by
  have G3 := GOW.setV HEV.out hkv GC3
  have P3 := (G3.on false).mono (S' := fun b => w.heap.size ≤ b ∧ b < w3.heap.size) fun b hb hlt => ⟨by rcases hb with hb | hb <;> omega, by rw [size_set7] at hlt; exact hlt⟩
  refine ⟨?_, G3.vcap false, G3.fcap' false⟩
  rw [ewz]
  refine (P3.same (fun b hb _ => ?_) (by rw [size_set7, size_set7]; exact zw3)).mono fun b hb _ => hb.1
  by_cases e : b = vb
  ·rw [e]; exact heap_set7_at (YW.block vb zvb)
  ·rw [heap_set7 e, heap_set7 e]; exact YW.block b hb.2
 have HF : Hid (Cells wz b4 [.int .i64 ((m : Int) + 1), .bool false, .slice v.rs v.l.length v.rc, .slice gs L.length gc] ∧ ERow N w3.heap.size wz (.slice es ev.length ec) ev ∧ Below w.heap.size w wz) := by
  rw [ewz]
  exact ⟨OS.same (heap_set7 (by omega)) (by rw [size_set7]; exact Nat.le_refl _), ES.same (fun b hb _ _ => heap_set7 (by omega)) (by rw [size_set7]; exact Nat.le_refl _), below_set7 BS (by omega)⟩
 have HED := hideH EDZ
 have q0 : (0 : Int) ≤ (ka : Int) := by omega
 have q1 : (ka : Int) < (v.l.length : Int) := by omega
 clear OS ES BS GV PHS GC GC3 TH CS YS IS EDZ GOW YW
 go_upto_region 53 with fail
 clear u0 u1 u2 u3 u4 u5 u6 uz f0 f1 f2 f3 f4 f5 f6 t0 t1 t2 t3 t4 t5 t6 g1 i2
 simp only [set7, HFS.out, List.length_nil] at ewz
 rw [← ewz]
 clear ewz
 obtain ⟨OZ, EZ, BZ⟩ := HF.out
 have E0 := EZ.down (n' := w.heap.size) (by omega)
 have zz := BZ.size
 have zo := OZ.2.1
 have EDI : EdIn (fun b => w.heap.size ≤ b ∧ b ≠ w3.heap.size ∧ (Value.slice es ev.length ec).ownBlock ≠ some b) wz ⟨(m : Int) + 1, picOf false ⟨v.rs, v.rc, v.l.set ka ⟨fg, none, 0⟩⟩ L, v.rs, v.rc, gs, gc⟩ := ⟨HED.out.1.mono fun b hb _ => ⟨hb.1, by omega, fun e => by have := (ownsI_lt EZ.own e).2; omega⟩, HED.out.2⟩
 have HNW : Hid (∀ ad, some (⟨b4, 0, none⟩ : Addr) = some ad → ∀ j u, (edCells ⟨(m : Int) + 1, picOf false ⟨v.rs, v.rc, v.l.set ka ⟨fg, none, 0⟩⟩ L, v.rs, v.rc, gs, gc⟩)[j]? = some u → wz.cell? (ad.add j) = some u) := fun ad e j u hj => by
  cases e
  rw [Addr.add_lit, Nat.zero_add]
  exact OZ.1 j u (by simpa [edCells, picOf, roG] using hj)
 clear HF OZ
 obtain ⟨tk, hik, hik0, hik1, hik2⟩ := info_parts Tryz.info_edge
 go_wp2_with (at_builtin; refine wpList_append_any _ rfl _ _ 29 rfl w.heap.size 56 tk (.agg #[.int .i64 0, .bool false, .slice none 0 0, .slice none 0 0]) 4 64 Tryz.underlying29 hik hik0 hik1 hik2 rfl (by decide) _ _ _ rfl E0.own (some ⟨b4, 0, none⟩) 1 1 (edCells ⟨(m : Int) + 1, picOf false ⟨v.rs, v.rc, v.l.set ka ⟨fg, none, 0⟩⟩ L, v.rs, v.rc, gs, gc⟩) rfl rfl (fun h => by cases h) HNW.out (edCells_one _) ?qc4 ?qc5 ?qc6 ?_)
 (try (case qc4 => unfold maxLen; first | omega | (simp; done) | (simp; omega)))
 (try (case qc5 => first | omega | (simp; done) | (simp; omega)))
 (try (case qc6 => first | omega | (rw [World.size_alloc]; omega) | (simp; omega) | simp))
 intro ev' w6 hown hgrow hat
 have RW := E0.grown EDI hown hgrow hat (by omega)
 have B6 : Below w.heap.size w w6 := BZ.grown hgrow (by omega) (fun k hk => (ownsI_lt E0.own hk).2)
 go_wp2_with fail
 exact HH.out _ _ _ _ (by rfl) RW (by show _ = _; rw [List.map_append]; simp only [List.map, edG, picOf_setV]; rw [← EPW.out, HKAV.out]) B6
theorem test_no {K K4 : Act → World → Prop} {R : Ending → World → Prop} {c' : Code} {z : Nat → Value} {tl : List Value} {m : Nat} {i : Ins} {x : Pic} {w w3 : World} {b4 ka N : Nat} {v : Ro} {gs : Option Addr} {gc : Nat} {L : List Ro} {ev : List Ed} {es : Option Addr} {ec : Nat} {wc : World} (hc : goC [1, 1, 1, 1, 1, 1, 1, 1, 1, 1, 0, 1, 0, 1, 1, 1, 1, 1, 1, 1, 0, 1, 1, 1, 1, 0, 1, 0] Tryz.f7.body = some c') (hl : tl.length = 319) (h9 : z 9 = .pointer (some ⟨w.heap.size + 1 + 1, 0, none⟩)) (h10 : z 10 = .pointer (some ⟨w3.heap.size, 0, none⟩)) (h11 : z 11 = .slice (some ⟨b4, 0, none⟩) 1 1) (eka : i.a = (ka : Int)) (ex : x = picOf false v L) (GOW : PicG (fun b => w.heap.size ≤ b) (w.heap.size + 1 + 1 + 1) w3 v gs gc L) (o2 : w.heap.size + 1 + 1 + 1 ≤ w3.heap.size) (o3 : w3.heap.size < b4) (o4 : b4 < N) (hL10 : ev.length ≤ 10) (hkax : ka < x.vars.length) (IS : Cells wc (w.heap.size + 1 + 1) [.int .i64 i.k, .int .i64 i.tgt, .int .i64 i.a, .int .i64 i.b, .int .i64 i.n, .int .i64 i.g]) (YS : Cells wc w3.heap.size [.bool false, .slice v.rs v.l.length v.rc, .slice gs L.length gc]) (OS : Cells wc b4 [.int .i64 ((m : Int) + 1), .bool false, .slice v.rs v.l.length v.rc, .slice gs L.length gc]) (YW : Below w3.heap.size w3 wc) (BS : Below w.heap.size w wc) (ES : ERow N w3.heap.size wc (.slice es ev.length ec) ev)
  (H : ∀ (ev' : List Ed) (t18 : Value) (w' : World) (tl' : List Value), tl'.length = 319 → ERow w.heap.size w3.heap.size w' t18 ev' → Hid (ev'.map edG = ev.map edG ++ [⟨(m : Int) + 1, setVar x i.a (falseGs x.vars[ka])⟩]) → Below w.heap.size w w' → K ⟨((List.range 18).map z ++ t18 :: tl').toArray, []⟩ w') : c'.wp Tryz.prog (Exit.then K (Exit.inBlock 0 (Exit.then K4 (bodyPost Tryz.prog Tryz.f7 R)))) ⟨((List.range 18).map z ++ .slice es ev.length ec :: tl).toArray, []⟩ wc := by
 have hkv : ka < v.l.length := by have h := hkax; rw [ex] at h; simpa [picOf, roG] using h
 have HIS : Hid (∀ wx, Calls Tryz.prog 25 #[.agg #[.bool x.vars[ka].sp.n, .int .i64 x.vars[ka].sp.lo, .int .i64 x.vars[ka].sp.hi], .int .i64 0] wx fun e w' => e = .returned (.bool (x.vars[ka].sp.has 0)) ∧ Below wx.heap.size wx w') := fun wx => inSpan_any x.vars[ka].sp 0 wx
 have HE0 : Hid (∀ ws y19 y20 y21 y22 y23 vb2 (tl' : List Value), tl'.length = 313 → Below wc.heap.size wc ws → Cells ws vb2 [.bool (falseGs x.vars[ka]).n, .bool (falseGs x.vars[ka]).sp.n, .int .i64 (falseGs x.vars[ka]).sp.lo, .int .i64 (falseGs x.vars[ka]).sp.hi, .bool (falseGs x.vars[ka]).t, .bool (falseGs x.vars[ka]).f, .slice none 0 0] → ∀ c'', goC [1, 1, 1, 1, 1, 1, 1, 1, 1, 1, 0, 1, 0, 1, 1, 1, 1, 1, 1, 1, 0, 1, 1, 1, 1, 0, 1, 0, 1, 1, 1] Tryz.f7.body = some c'' → c''.wp Tryz.prog (Exit.then K (Exit.inBlock 0 (Exit.then K4 (bodyPost Tryz.prog Tryz.f7 R)))) ⟨((List.range 18).map z ++ .slice es ev.length ec :: y19 :: y20 :: y21 :: y22 :: y23 :: .pointer (some ⟨vb2, 0, none⟩) :: tl').toArray, []⟩ ws) := fun ws y19 y20 y21 y22 y23 vb2 tl' hl' hb hp c'' hc'' =>
  test_nend hc'' hl' h9 h10 h11 eka ex GOW o2 o3 o4 hL10 hkv rfl (IS.call hb) (YS.call hb) (OS.call hb) (YW.trans (hb.mono YW.size)) (BS.trans (hb.mono BS.size)) (ES.call hb) hp H
 have HKAV := hideH eka
 have EPW := hideH ex
 obtain ⟨u, rfl⟩ := list_u tl _ hl
 refine sub_of hc rfl ?_
 simp only [List.range, List.range.loop, List.map, List.cons_append, List.nil_append, h9, h10, h11] at H ⊢
 have HH := hideH H
 clear H hc hl
 simp only [List.range, List.range.loop, List.map, List.cons_append, List.nil_append, h9, h10, h11] at HE0
 clear HH
 obtain ⟨vb, evb, evB, hvb, zvb⟩ := GOW.vars.form (by omega)
 obtain ⟨y, EY0⟩ : ∃ y, v.l[ka] = y := ⟨_, rfl⟩
 have EYG : y.g = x.vars[ka] := by
  have : ∀ (z : Pic) (h : ka < z.vars.length) (hz : z = picOf false v L), z.vars[ka] = v.l[ka].g := by intro z h hz; subst hz; simp [picOf, roG]
  rw [this x hkax EPW.out, EY0]
 have GU := (GOW.call YW).vars.gu evb (k := ka) hkv
 rw [EY0] at GU
 obtain ⟨⟨u0, u1, u2, u3, u4, u5, u6⟩, uz⟩ := GU
 rw [EYG] at u0 u1 u2 u3 u4 u5 u6
 have g1 := YS.1 1 _ rfl
 rw [evb] at g1
 have i2 := IS.1 2 _ rfl
 rw [HKAV.out] at i2
 have q0 : (0 : Int) ≤ (ka : Int) := by omega
 have q1 : (ka : Int) < (v.l.length : Int) := by omega
 clear evb evB EY0 EYG IS YS OS YW BS ES GOW eka ex h9 h10 h11
 go_upto_region 48 with fail
 clear g1 i2 u0 u1 u2 u3 u4 u5 u6 uz
 have hwi : Below wc.heap.size wc (wc.alloc (.cells #[.bool x.vars[ka].n, .bool x.vars[ka].sp.n, .int .i64 x.vars[ka].sp.lo, .int .i64 x.vars[ka].sp.hi, .bool x.vars[ka].t, .bool x.vars[ka].f, .slice y.ss x.vars[ka].s.length y.cap] 61)) := by go_grown
 have VI : Cells (wc.alloc (.cells #[.bool x.vars[ka].n, .bool x.vars[ka].sp.n, .int .i64 x.vars[ka].sp.lo, .int .i64 x.vars[ka].sp.hi, .bool x.vars[ka].t, .bool x.vars[ka].f, .slice y.ss x.vars[ka].s.length y.cap] 61)) wc.heap.size [.bool x.vars[ka].n, .bool x.vars[ka].sp.n, .int .i64 x.vars[ka].sp.lo, .int .i64 x.vars[ka].sp.hi, .bool x.vars[ka].t, .bool x.vars[ka].f, .slice y.ss x.vars[ka].s.length y.cap] := Cells.new wc 61 [.bool x.vars[ka].n, .bool x.vars[ka].sp.n, .int .i64 x.vars[ka].sp.lo, .int .i64 x.vars[ka].sp.hi, .bool x.vars[ka].t, .bool x.vars[ka].f, .slice y.ss x.vars[ka].s.length y.cap]
 have zwi : Hid ((wc.alloc (.cells #[.bool x.vars[ka].n, .bool x.vars[ka].sp.n, .int .i64 x.vars[ka].sp.lo, .int .i64 x.vars[ka].sp.hi, .bool x.vars[ka].t, .bool x.vars[ka].f, .slice y.ss x.vars[ka].s.length y.cap] 61)).heap.size = wc.heap.size + 1) := by show _ = _; simp
 generalize wc.alloc (.cells #[.bool x.vars[ka].n, .bool x.vars[ka].sp.n, .int .i64 x.vars[ka].sp.lo, .int .i64 x.vars[ka].sp.hi, .bool x.vars[ka].t, .bool x.vars[ka].f, .slice y.ss x.vars[ka].s.length y.cap] 61) = wi at *
 generalize eVB : wc.heap.size = vb2 at *
 have c4 := VI.1 4 _ rfl
 have c6 := VI.1 6 _ rfl
 have d4 := VI.2.2 4
 have d6 := VI.2.2 6
 go_upto_region 49 with fail
 clear c4 c6 d4 d6
 obtain ⟨wj, ewj⟩ : ∃ q, q = setL wi vb2 4 [.bool false] := ⟨_, rfl⟩
 have PJ : Put vb2 wi wj [.bool x.vars[ka].n, .bool x.vars[ka].sp.n, .int .i64 x.vars[ka].sp.lo, .int .i64 x.vars[ka].sp.hi, .bool false, .bool x.vars[ka].f, .slice y.ss x.vars[ka].s.length y.cap] := put_some VI 4 _ ewj
 simp only [setL] at ewj
 rw [← ewj]
 clear ewj
 obtain ⟨wv, ewv⟩ : ∃ q, q = setL wj vb2 6 [.slice none 0 0] := ⟨_, rfl⟩
 have PK : Put vb2 wj wv [.bool x.vars[ka].n, .bool x.vars[ka].sp.n, .int .i64 x.vars[ka].sp.lo, .int .i64 x.vars[ka].sp.hi, .bool false, .bool x.vars[ka].f, .slice none 0 0] := put_some PJ.cells 6 _ ewv
 simp only [setL] at ewv
 rw [← ewv]
 clear ewv
 have PV := PJ.trans PK
 have c1 := PV.cells.1 1 _ rfl
 have c2 := PV.cells.1 2 _ rfl
 have c3 := PV.cells.1 3 _ rfl
 go_wp2_with (go_at_call 25; fail)
 refine (HIS.out wv).mono ?_
 rintro e wk ⟨rfl, hbk⟩
 have CK := PV.cells.call hbk
 have hbw : Below vb2 wc wk := (PV.low (Nat.le_refl _) hwi).trans (hbk.mono (by have := PV.size; have := zwi.out; omega))
 clear c1 c2 c3 PJ PK PV VI HIS
 go_upto_if 164 with fail
 rename_i K9 hK9
 have HK9 := hideH hK9
 clear hK9
 rcases Bool.eq_false_or_eq_true (x.vars[ka].sp.has 0) with hs0 | hs0
 ·have hsn := hideH hs0
  rw [hs0]
  clear hs0
  refine wp_cond_split rfl (fun h => ?_) (fun h => ?_)
  rotate_left
  ·cases h
  have k1 := CK.1 1 _ rfl
  have fk1 := CK.2.2 1
  have k2 := CK.1 2 _ rfl
  have fk2 := CK.2.2 2
  have k3 := CK.1 3 _ rfl
  have fk3 := CK.2.2 3
  go_wp2_with fail
  obtain ⟨ws, es'⟩ : ∃ q, q = setL wk vb2 1 [.bool false, .int .i64 0, .int .i64 0] := ⟨_, rfl⟩
  have PS := put_some CK 1 _ es'
  simp only [setL] at es'
  rw [← es']
  refine HK9.out _ _ (HE0.out ws _ _ _ _ _ _ _ (by rfl) (PS.low (Nat.le_refl _) hbw) ?_ _ rfl)
  have h := PS.cells
  have e : (falseGs x.vars[ka]) = ⟨x.vars[ka].n, ⟨false, 0, 0⟩, false, x.vars[ka].f, []⟩ := by unfold falseGs; rw [hsn.out]; rfl
  rw [e]
  exact h
 ·have hsn := hideH hs0
  rw [hs0]
  clear hs0
  refine wp_cond_split rfl (fun h => ?_) (fun h => ?_)
  skip
  ·cases h
  have k1 := CK.1 1 _ rfl
  have fk1 := CK.2.2 1
  have k2 := CK.1 2 _ rfl
  have fk2 := CK.2.2 2
  have k3 := CK.1 3 _ rfl
  have fk3 := CK.2.2 3
  go_wp2_with fail
  obtain ⟨ws, es'⟩ : ∃ q, q = setL wk vb2 1 [.bool true, .int .i64 0, .int .i64 0] := ⟨_, rfl⟩
  have PS := put_some CK 1 _ es'
  simp only [setL] at es'
  rw [← es']
  refine HK9.out _ _ (HE0.out ws _ _ _ _ _ _ _ (by rfl) (PS.low (Nat.le_refl _) hbw) ?_ _ rfl)
  have h := PS.cells
  have e : (falseGs x.vars[ka]) = ⟨x.vars[ka].n, ⟨true, 0, 0⟩, false, x.vars[ka].f, []⟩ := by unfold falseGs; rw [hsn.out]; rfl
  rw [e]
  exact h
end
end Go.Proofs.YtmapdpcfanecdabGreat
