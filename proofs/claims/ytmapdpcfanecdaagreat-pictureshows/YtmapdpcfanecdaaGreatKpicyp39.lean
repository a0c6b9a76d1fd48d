/- Walks over package picture: Join and Widen. -/
import Derived.Test.YtmapdpcfanecdaaGreatKpicyp38
import Derived.Test.YtmapdpcfanecdaaGreatKpicyp28
import Derived.Test.YtmapdpcfanecdaaGreatKpicyp09
import Derived.Deep.DeepCutAuto
namespace Go.Proofs.YtmapdpcfanecdaaGreat
set_option linter.unusedVariables false
set_option linter.unusedSimpArgs false
open Go.RowKit
attribute [local go_sem ↓] Go.wp_at_zero Go.wp_at_succ

theorem ckPics_two {V F : Int} {c : List Ins} {x y : Pic} (h : ckPics V F c [x, y] = 0) : ckProg V F c = 0 ∧ ckPic V F c x = 0 ∧ ckPic V F c y = 0 := by
  have h0 : ckProg V F c = 0 := by
    unfold ckPics at h
    split at h
    · assumption
    · exact h
  have hl : ckPicL V F c [x, y] = 0 := by
    unfold ckPics at h
    rw [if_pos h0] at h
    exact h
  have hcx : ckPic V F c x = 0 := by
    unfold ckPicL at hl
    split at hl
    · assumption
    · exact hl
  refine ⟨h0, hcx, ?_⟩
  unfold ckPicL at hl
  rw [if_pos hcx] at hl
  unfold ckPicL at hl
  split at hl
  · assumption
  · exact hl
theorem made_join {V F : Int} {s : Option Addr} {c : List Ins} {cap : Nat} (h0 : ckProg V F c = 0) : ∀ (g : Gs) (ss : Option Addr) (gc : Nat) (h : Gs) (st : Option Addr) (hc : Nat) (wx : World), CodeAt wx s c → IntsAt wx ss g.s → g.s.length ≤ gc → gc ≤ maxLen → IntsAt wx st h.s → h.s.length ≤ hc → hc ≤ maxLen → ckGs c g = 0 → ckGs c h = 0 → Calls Tryz.prog 7 #[pv V F s c cap, gv g ss gc, gv h st hc] wx fun e w' => (∃ js jc, e = .returned (.tuple #[gv (togGs joinSp g h) js jc, .int .i64 0]) ∧ IntsAt w' js (togGs joinSp g h).s ∧ (togGs joinSp g h).s.length ≤ jc ∧ jc ≤ maxLen ∧ ∀ a, js = some a → wx.heap.size ≤ a.block) ∧ Below wx.heap.size wx w' := by
  intro g ss gc h st hc wx hcd hs h1 h2 ht h3 h4 hg0 hh0
  have hck := ckAllG_pair h0 hg0 hh0
  obtain ⟨hg, hh⟩ := ckAllG_sites hck
  have l1 := rising_len hg.2 hg.1
  have l2 := rising_len hh.2 hh.1
  refine (joinG_ok V F s c cap g ss gc h st hc wx hcd hs h1 h2 ht h3 h4 hck (by simp; omega)).mono ?_
  rintro e w' ⟨v, rfl, hown, hb⟩
  obtain ⟨js, jc, rfl, hi, k1, k2, hf⟩ := IntsAt.own hown
  exact ⟨⟨js, jc, rfl, hi, k1, k2, hf⟩, hb⟩
theorem togP_join (V F : Int) (s : Option Addr) (c : List Ins) (cap : Nat) (x : Pic) (vs1 : Option Addr) (vc1 : Nat) (fs1 : Option Addr) (fc1 : Nat) (y : Pic) (vs2 : Option Addr) (vc2 : Nat) (fs2 : Option Addr) (fc2 : Nat) (w : World) (hcd : CodeAt w s c) (hx : PicAt w x vs1 fs1) (h1 : x.vars.length ≤ vc1 ∧ vc1 ≤ maxLen) (h2 : x.flds.length ≤ fc1 ∧ fc1 ≤ maxLen) (hy : PicAt w y vs2 fs2) (h3 : y.vars.length ≤ vc2 ∧ vc2 ≤ maxLen) (h4 : y.flds.length ≤ fc2 ∧ fc2 ≤ maxLen) : Calls Tryz.prog 69 #[pv V F s c cap, xv x vs1 vc1 fs1 fc1, xv y vs2 vc2 fs2 fc2, .func (.func 7) #[] #[]] w fun e w' => PicS w.heap.size w' e (if ckPics V F c [x, y] = 0 then joinPic (togGs joinSp) x y else zeroPic) (ckPics V F c [x, y]) ∧ Below w.heap.size w w' := by
  by_cases h : ckPics V F c [x, y] = 0
  · obtain ⟨h0, hcx, hcy⟩ := ckPics_two h
    rw [if_pos h, h]
    exact together_ok_join V F s c cap x vs1 vc1 fs1 fc1 y vs2 vc2 fs2 fc2 w hcd hx h1 h2 hy h3 h4 h hcx hcy h0 (fun g hg => tog_self joinSp_self (ckProg_lim h0).2.2 hg) (made_join h0)
  · rw [if_neg h]
    refine (together_err_join V F s c cap x vs1 vc1 fs1 fc1 y vs2 vc2 fs2 fc2 w hcd hx h1 h2 hy h3 h4 h).mono ?_
    rintro e w1 ⟨rfl, hb⟩
    exact ⟨⟨⟨none, 0, []⟩, none, 0, [], rfl, rfl, picG_zero _ _⟩, hb⟩
set_option maxHeartbeats 2000000 in
set_option maxRecDepth 10000 in
theorem joinPU (V F : Int) (s : Option Addr) (c : List Ins) (cap : Nat) (x : Pic) (vs1 : Option Addr) (vc1 : Nat) (fs1 : Option Addr) (fc1 : Nat) (y : Pic) (vs2 : Option Addr) (vc2 : Nat) (fs2 : Option Addr) (fc2 : Nat) (w : World) (hcd : CodeAt w s c) (hx : PicAt w x vs1 fs1) (h1 : x.vars.length ≤ vc1 ∧ vc1 ≤ maxLen) (h2 : x.flds.length ≤ fc1 ∧ fc1 ≤ maxLen) (hy : PicAt w y vs2 fs2) (h3 : y.vars.length ≤ vc2 ∧ vc2 ≤ maxLen) (h4 : y.flds.length ≤ fc2 ∧ fc2 ≤ maxLen) : Calls Tryz.prog 23 #[pv V F s c cap, xv x vs1 vc1 fs1 fc1, xv y vs2 vc2 fs2 fc2] w fun e w' => PicS w.heap.size w' e (if ckPics V F c [x, y] = 0 then joinPic (togGs joinSp) x y else zeroPic) (ckPics V F c [x, y]) ∧ Below w.heap.size w w' := by
  have B0 : Below w.heap.size w ((((w.alloc (.cells #[.int .i64 V, .int .i64 F, .slice s c.length cap] 24)).alloc (.cells #[.bool x.none, .slice vs1 x.vars.length vc1, .slice fs1 x.flds.length fc1] 58)).alloc (.cells #[.bool y.none, .slice vs2 y.vars.length vc2, .slice fs2 y.flds.length fc2] 58)).alloc (.cells #[.bool false, .slice none 0 0, .slice none 0 0] 58)) := by go_grown
  have Z0 := X3.new (((w.alloc (.cells #[.int .i64 V, .int .i64 F, .slice s c.length cap] 24)).alloc (.cells #[.bool x.none, .slice vs1 x.vars.length vc1, .slice fs1 x.flds.length fc1] 58)).alloc (.cells #[.bool y.none, .slice vs2 y.vars.length vc2, .slice fs2 y.flds.length fc2] 58)) 58 (.bool false) (.slice none 0 0) (.slice none 0 0)
  rw [World.size_alloc, World.size_alloc, World.size_alloc] at Z0
  have HT := hideH (togP_join V F s c cap x vs1 vc1 fs1 fc1 y vs2 vc2 fs2 fc2 ((((w.alloc (.cells #[.int .i64 V, .int .i64 F, .slice s c.length cap] 24)).alloc (.cells #[.bool x.none, .slice vs1 x.vars.length vc1, .slice fs1 x.flds.length fc1] 58)).alloc (.cells #[.bool y.none, .slice vs2 y.vars.length vc2, .slice fs2 y.flds.length fc2] 58)).alloc (.cells #[.bool false, .slice none 0 0, .slice none 0 0] 58)) (hcd.below B0 (Nat.le_refl _)) (hx.below B0 (Nat.le_refl _)) h1 h2 (hy.below B0 (Nat.le_refl _)) h3 h4)
  clear hcd hx hy
  generalize (if ckPics V F c [x, y] = 0 then joinPic (togGs joinSp) x y else zeroPic) = z at *
  generalize ckPics V F c [x, y] = ce at *
  go_enter Tryz.func23, Tryz.ntmps23
  go_wp2_with (go_at_call 69; fail)
  refine HT.out.mono ?_
  rintro e w1 ⟨⟨⟨us, uc, vl⟩, gs, gc, L, hZ, rfl, PV⟩, hb1⟩
  have HZZ := hideH hZ
  clear hZ
  have Z1 := Z0.call hb1
  have B1 := B0.trans (hb1.mono B0.size)
  clear HT hb1 B0 Z0
  obtain ⟨⟨z0, z1, z2⟩, zz, zf⟩ := id Z1
  have f0 := zf 0
  have f1 := zf 1
  have f2 := zf 2
  clear zf
  have e3 : ((((w.alloc (.cells #[.int .i64 V, .int .i64 F, .slice s c.length cap] 24)).alloc (.cells #[.bool x.none, .slice vs1 x.vars.length vc1, .slice fs1 x.flds.length fc1] 58)).alloc (.cells #[.bool y.none, .slice vs2 y.vars.length vc2, .slice fs2 y.flds.length fc2] 58)).alloc (.cells #[.bool false, .slice none 0 0, .slice none 0 0] 58)).heap.size = w.heap.size + 1 + 1 + 1 + 1 := by simp
  rw [e3] at PV
  have HPV := hideH PV
  clear PV e3
  go_wp2
  refine bodyPost_ret (v := .tuple #[.agg #[.bool z.none, .slice us vl.length uc, .slice gs L.length gc], .int .i64 ce]) (by simp [results, Tryz.results23, go_sem, z0, z1, z2]) rfl ⟨⟨⟨us, uc, vl⟩, gs, gc, L, HZZ.out, rfl, ((HPV.out.same (fun b hb _ => ?_) (by simp [World.setCell])).mono fun b hb _ => by omega).down (by omega)⟩, ?_⟩
  · rw [Below.heap_setCell _ _ _ _ (by simp only; omega), Below.heap_setCell _ _ _ _ (by simp only; omega), Below.heap_setCell _ _ _ _ (by simp only; omega)]
  · exact ((B1.setCell (by simp only; omega) _).setCell (by simp only; omega) _).setCell (by simp only; omega) _
theorem joinPF (V F : Int) (s : Option Addr) (c : List Ins) (cap : Nat) (x : Pic) (vs1 : Option Addr) (vc1 : Nat) (fs1 : Option Addr) (fc1 : Nat) (y : Pic) (vs2 : Option Addr) (vc2 : Nat) (fs2 : Option Addr) (fc2 : Nat) (w : World) (hcd : CodeAt w s c) (hx : PicAt w x vs1 fs1) (h1 : x.vars.length ≤ vc1 ∧ vc1 ≤ maxLen) (h2 : x.flds.length ≤ fc1 ∧ fc1 ≤ maxLen) (hy : PicAt w y vs2 fs2) (h3 : y.vars.length ≤ vc2 ∧ vc2 ≤ maxLen) (h4 : y.flds.length ≤ fc2 ∧ fc2 ≤ maxLen) : Calls Tryz.prog 23 #[pv V F s c cap, xv x vs1 vc1 fs1 fc1, xv y vs2 vc2 fs2 fc2] w fun e w' => PicF w.heap.size w' e (if ckPics V F c [x, y] = 0 then joinPic (togGs joinSp) x y else zeroPic) (ckPics V F c [x, y]) ∧ Below w.heap.size w w' :=
  (joinPU V F s c cap x vs1 vc1 fs1 fc1 y vs2 vc2 fs2 fc2 w hcd hx h1 h2 hy h3 h4).mono fun e w' h => ⟨h.1.weak, h.2⟩
theorem made_wide {V F : Int} {s : Option Addr} {c : List Ins} {cap : Nat} (h0 : ckProg V F c = 0) : ∀ (g : Gs) (ss : Option Addr) (gc : Nat) (h : Gs) (st : Option Addr) (hc : Nat) (wx : World), CodeAt wx s c → IntsAt wx ss g.s → g.s.length ≤ gc → gc ≤ maxLen → IntsAt wx st h.s → h.s.length ≤ hc → hc ≤ maxLen → ckGs c g = 0 → ckGs c h = 0 → Calls Tryz.prog 8 #[pv V F s c cap, gv g ss gc, gv h st hc] wx fun e w' => (∃ js jc, e = .returned (.tuple #[gv (togGs wideSp g h) js jc, .int .i64 0]) ∧ IntsAt w' js (togGs wideSp g h).s ∧ (togGs wideSp g h).s.length ≤ jc ∧ jc ≤ maxLen ∧ ∀ a, js = some a → wx.heap.size ≤ a.block) ∧ Below wx.heap.size wx w' := by
  intro g ss gc h st hc wx hcd hs h1 h2 ht h3 h4 hg0 hh0
  have hck := ckAllG_pair h0 hg0 hh0
  obtain ⟨hg, hh⟩ := ckAllG_sites hck
  have l1 := rising_len hg.2 hg.1
  have l2 := rising_len hh.2 hh.1
  refine (wideG_ok V F s c cap g ss gc h st hc wx hcd hs h1 h2 ht h3 h4 hck (by simp; omega)).mono ?_
  rintro e w' ⟨v, rfl, hown, hb⟩
  obtain ⟨js, jc, rfl, hi, k1, k2, hf⟩ := IntsAt.own hown
  exact ⟨⟨js, jc, rfl, hi, k1, k2, hf⟩, hb⟩
theorem togP_wide (V F : Int) (s : Option Addr) (c : List Ins) (cap : Nat) (x : Pic) (vs1 : Option Addr) (vc1 : Nat) (fs1 : Option Addr) (fc1 : Nat) (y : Pic) (vs2 : Option Addr) (vc2 : Nat) (fs2 : Option Addr) (fc2 : Nat) (w : World) (hcd : CodeAt w s c) (hx : PicAt w x vs1 fs1) (h1 : x.vars.length ≤ vc1 ∧ vc1 ≤ maxLen) (h2 : x.flds.length ≤ fc1 ∧ fc1 ≤ maxLen) (hy : PicAt w y vs2 fs2) (h3 : y.vars.length ≤ vc2 ∧ vc2 ≤ maxLen) (h4 : y.flds.length ≤ fc2 ∧ fc2 ≤ maxLen) : Calls Tryz.prog 69 #[pv V F s c cap, xv x vs1 vc1 fs1 fc1, xv y vs2 vc2 fs2 fc2, .func (.func 8) #[] #[]] w fun e w' => PicS w.heap.size w' e (if ckPics V F c [x, y] = 0 then joinPic (togGs wideSp) x y else zeroPic) (ckPics V F c [x, y]) ∧ Below w.heap.size w w' := by
  by_cases h : ckPics V F c [x, y] = 0
  · obtain ⟨h0, hcx, hcy⟩ := ckPics_two h
    rw [if_pos h, h]
    exact together_ok_wide V F s c cap x vs1 vc1 fs1 fc1 y vs2 vc2 fs2 fc2 w hcd hx h1 h2 hy h3 h4 h hcx hcy h0 (fun g hg => tog_self wideSp_self (ckProg_lim h0).2.2 hg) (made_wide h0)
  · rw [if_neg h]
    refine (together_err_wide V F s c cap x vs1 vc1 fs1 fc1 y vs2 vc2 fs2 fc2 w hcd hx h1 h2 hy h3 h4 h).mono ?_
    rintro e w1 ⟨rfl, hb⟩
    exact ⟨⟨⟨none, 0, []⟩, none, 0, [], rfl, rfl, picG_zero _ _⟩, hb⟩
set_option maxHeartbeats 2000000 in
set_option maxRecDepth 10000 in
theorem widePU (V F : Int) (s : Option Addr) (c : List Ins) (cap : Nat) (x : Pic) (vs1 : Option Addr) (vc1 : Nat) (fs1 : Option Addr) (fc1 : Nat) (y : Pic) (vs2 : Option Addr) (vc2 : Nat) (fs2 : Option Addr) (fc2 : Nat) (w : World) (hcd : CodeAt w s c) (hx : PicAt w x vs1 fs1) (h1 : x.vars.length ≤ vc1 ∧ vc1 ≤ maxLen) (h2 : x.flds.length ≤ fc1 ∧ fc1 ≤ maxLen) (hy : PicAt w y vs2 fs2) (h3 : y.vars.length ≤ vc2 ∧ vc2 ≤ maxLen) (h4 : y.flds.length ≤ fc2 ∧ fc2 ≤ maxLen) : Calls Tryz.prog 24 #[pv V F s c cap, xv x vs1 vc1 fs1 fc1, xv y vs2 vc2 fs2 fc2] w fun e w' => PicS w.heap.size w' e (if ckPics V F c [x, y] = 0 then joinPic (togGs wideSp) x y else zeroPic) (ckPics V F c [x, y]) ∧ Below w.heap.size w w' := by
  have B0 : Below w.heap.size w ((((w.alloc (.cells #[.int .i64 V, .int .i64 F, .slice s c.length cap] 24)).alloc (.cells #[.bool x.none, .slice vs1 x.vars.length vc1, .slice fs1 x.flds.length fc1] 58)).alloc (.cells #[.bool y.none, .slice vs2 y.vars.length vc2, .slice fs2 y.flds.length fc2] 58)).alloc (.cells #[.bool false, .slice none 0 0, .slice none 0 0] 58)) := by go_grown
  have Z0 := X3.new (((w.alloc (.cells #[.int .i64 V, .int .i64 F, .slice s c.length cap] 24)).alloc (.cells #[.bool x.none, .slice vs1 x.vars.length vc1, .slice fs1 x.flds.length fc1] 58)).alloc (.cells #[.bool y.none, .slice vs2 y.vars.length vc2, .slice fs2 y.flds.length fc2] 58)) 58 (.bool false) (.slice none 0 0) (.slice none 0 0)
  rw [World.size_alloc, World.size_alloc, World.size_alloc] at Z0
  have HT := hideH (togP_wide V F s c cap x vs1 vc1 fs1 fc1 y vs2 vc2 fs2 fc2 ((((w.alloc (.cells #[.int .i64 V, .int .i64 F, .slice s c.length cap] 24)).alloc (.cells #[.bool x.none, .slice vs1 x.vars.length vc1, .slice fs1 x.flds.length fc1] 58)).alloc (.cells #[.bool y.none, .slice vs2 y.vars.length vc2, .slice fs2 y.flds.length fc2] 58)).alloc (.cells #[.bool false, .slice none 0 0, .slice none 0 0] 58)) (hcd.below B0 (Nat.le_refl _)) (hx.below B0 (Nat.le_refl _)) h1 h2 (hy.below B0 (Nat.le_refl _)) h3 h4)
  clear hcd hx hy
  generalize (if ckPics V F c [x, y] = 0 then joinPic (togGs wideSp) x y else zeroPic) = z at *
  generalize ckPics V F c [x, y] = ce at *
  go_enter Tryz.func24, Tryz.ntmps24
  go_wp2_with (go_at_call 69; fail)
  refine HT.out.mono ?_
  rintro e w1 ⟨⟨⟨us, uc, vl⟩, gs, gc, L, hZ, rfl, PV⟩, hb1⟩
  have HZZ := hideH hZ
  clear hZ
  have Z1 := Z0.call hb1
  have B1 := B0.trans (hb1.mono B0.size)
  clear HT hb1 B0 Z0
  obtain ⟨⟨z0, z1, z2⟩, zz, zf⟩ := id Z1
  have f0 := zf 0
  have f1 := zf 1
  have f2 := zf 2
  clear zf
  have e3 : ((((w.alloc (.cells #[.int .i64 V, .int .i64 F, .slice s c.length cap] 24)).alloc (.cells #[.bool x.none, .slice vs1 x.vars.length vc1, .slice fs1 x.flds.length fc1] 58)).alloc (.cells #[.bool y.none, .slice vs2 y.vars.length vc2, .slice fs2 y.flds.length fc2] 58)).alloc (.cells #[.bool false, .slice none 0 0, .slice none 0 0] 58)).heap.size = w.heap.size + 1 + 1 + 1 + 1 := by simp
  rw [e3] at PV
  have HPV := hideH PV
  clear PV e3
  go_wp2
  refine bodyPost_ret (v := .tuple #[.agg #[.bool z.none, .slice us vl.length uc, .slice gs L.length gc], .int .i64 ce]) (by simp [results, Tryz.results24, go_sem, z0, z1, z2]) rfl ⟨⟨⟨us, uc, vl⟩, gs, gc, L, HZZ.out, rfl, ((HPV.out.same (fun b hb _ => ?_) (by simp [World.setCell])).mono fun b hb _ => by omega).down (by omega)⟩, ?_⟩
  · rw [Below.heap_setCell _ _ _ _ (by simp only; omega), Below.heap_setCell _ _ _ _ (by simp only; omega), Below.heap_setCell _ _ _ _ (by simp only; omega)]
  · exact ((B1.setCell (by simp only; omega) _).setCell (by simp only; omega) _).setCell (by simp only; omega) _
theorem widePF (V F : Int) (s : Option Addr) (c : List Ins) (cap : Nat) (x : Pic) (vs1 : Option Addr) (vc1 : Nat) (fs1 : Option Addr) (fc1 : Nat) (y : Pic) (vs2 : Option Addr) (vc2 : Nat) (fs2 : Option Addr) (fc2 : Nat) (w : World) (hcd : CodeAt w s c) (hx : PicAt w x vs1 fs1) (h1 : x.vars.length ≤ vc1 ∧ vc1 ≤ maxLen) (h2 : x.flds.length ≤ fc1 ∧ fc1 ≤ maxLen) (hy : PicAt w y vs2 fs2) (h3 : y.vars.length ≤ vc2 ∧ vc2 ≤ maxLen) (h4 : y.flds.length ≤ fc2 ∧ fc2 ≤ maxLen) : Calls Tryz.prog 24 #[pv V F s c cap, xv x vs1 vc1 fs1 fc1, xv y vs2 vc2 fs2 fc2] w fun e w' => PicF w.heap.size w' e (if ckPics V F c [x, y] = 0 then joinPic (togGs wideSp) x y else zeroPic) (ckPics V F c [x, y]) ∧ Below w.heap.size w w' :=
  (widePU V F s c cap x vs1 vc1 fs1 fc1 y vs2 vc2 fs2 fc2 w hcd hx h1 h2 hy h3 h4).mono fun e w' h => ⟨h.1.weak, h.2⟩
end Go.Proofs.YtmapdpcfanecdaaGreat
