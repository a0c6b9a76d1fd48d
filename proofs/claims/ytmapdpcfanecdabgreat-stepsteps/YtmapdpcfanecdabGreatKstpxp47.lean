/- The document's step up to its switch, told once. -/
import Derived.Test.YtmapdpcfanecdabGreatKstpxp46
import Derived.Test.YtmapdpcfanecdabGreatKstpxp07
import Derived.Deep.RegionHeld
import Derived.WalkKit
import Derived.WalkSpells
import Derived.WalkLawsBesides
import Derived.Handy
import Derived.Deep.DeepCutAuto
set_option linter.unusedSimpArgs false
set_option linter.unusedVariables false
namespace Go.Proofs.YtmapdpcfanecdabGreat
section
set_option maxHeartbeats 8000000
set_option maxRecDepth 20000
open Go.RowKit
attribute [local go_sem ↓] Go.wp_at_zero Go.wp_at_succ

/-- The text behind n statements. -/
def dropO : Nat → Option Code → Option Code
 | 0, o => o
 | n + 1, some (.seq _ b) => dropO n (some b)
 | _ + 1, _ => none
/-- The document's step from its switch on. -/
def SwT (R : Ending → World → Prop) (m : Nat) (w w3 w4 w7 w11 wp : World) : Prop := ∀ (z0 z2 z4 : Value) (tl : List Value), tl.length = 322 → ∃ c, dropO 10 Tryz.f7.body = some c ∧ c.wp Tryz.prog (bodyPost Tryz.prog Tryz.f7 R) ⟨(z0 :: .int .i64 (m : Int) :: z2 :: .pointer (some ⟨w.heap.size, 0, none⟩) :: z4 :: .pointer (some ⟨w.heap.size + 1, 0, none⟩) :: .slice none 0 0 :: .bool false :: .bool false :: .pointer (some ⟨w.heap.size + 1 + 1, 0, none⟩) :: .pointer (some ⟨w3.heap.size, 0, none⟩) :: .slice (some ⟨w4.heap.size, 0, none⟩) 1 1 :: .pointer (some ⟨w7.heap.size, 0, none⟩) :: .pointer (some ⟨w7.heap.size + 1, 0, none⟩) :: .pointer (some ⟨w11.heap.size, 0, none⟩) :: .bool false :: tl).toArray, []⟩ wp
theorem list_u (l : List Value) (n : Nat) (h : l.length = n) : ∃ u : Nat → Value, l = (List.range n).map u := ⟨fun k => l.getD k (.bool false), by
 refine List.ext_getElem (by simp [h]) fun k h1 h2 => ?_
 simp [List.getD, h1]⟩
theorem sw_of {R : Ending → World → Prop} {m : Nat} {w w3 w4 w7 w11 wp : World} {c : Code} (hc : dropO 10 Tryz.f7.body = some c) (h : ∀ (z0 z2 z4 : Value) (u : Nat → Value), c.wp Tryz.prog (bodyPost Tryz.prog Tryz.f7 R) ⟨(z0 :: .int .i64 (m : Int) :: z2 :: .pointer (some ⟨w.heap.size, 0, none⟩) :: z4 :: .pointer (some ⟨w.heap.size + 1, 0, none⟩) :: .slice none 0 0 :: .bool false :: .bool false :: .pointer (some ⟨w.heap.size + 1 + 1, 0, none⟩) :: .pointer (some ⟨w3.heap.size, 0, none⟩) :: .slice (some ⟨w4.heap.size, 0, none⟩) 1 1 :: .pointer (some ⟨w7.heap.size, 0, none⟩) :: .pointer (some ⟨w7.heap.size + 1, 0, none⟩) :: .pointer (some ⟨w11.heap.size, 0, none⟩) :: .bool false :: (List.range 322).map u).toArray, []⟩ wp) : SwT R m w w3 w4 w7 w11 wp := fun z0 z2 z4 tl hl => by
 obtain ⟨u, rfl⟩ := list_u tl _ hl
 exact ⟨c, hc, h z0 z2 z4 u⟩
section
variable {P : Program} {Q : Exit → Act → World → Prop} {a : Act} {w : World}
theorem drop_wp {o : Option Code} {c : Code} (h : o = some c) (hw : ∃ c, o = some c ∧ c.wp P Q a w) : c.wp P Q a w := by
 obtain ⟨d, hd, hw⟩ := hw
 cases h.symm.trans hd
 exact hw
end
theorem stepPre_ff {T : Nat → Prop} {V F : Int} {s : Option Addr} {c : List Ins} {cap m : Nat} {i : Ins} {x : Pic} {vs : Option Addr} {vc : Nat} {fs : Option Addr} {fc : Nat} {w : World} (hc : CodeAt w s c) (hx : PicOn T w x vs fs) (K : SCtx V F c x vc fc i (m : Int)) (hnA : nA i.k = false) (hnB : nB i.k = false) (H : ∀ (w3 w4 w7 w11 wp : World) (v : Ro) (gs : Option Addr) (gc : Nat) (L : List Ro) , Hid (SPre T V F s c cap (m : Int) i x vs vc fs fc w wp (w.heap.size + 1 + 1) w3.heap.size w4.heap.size w7.heap.size (w7.heap.size + 1) w11.heap.size w3 v gs gc L noneG none 0 noneG none 0) → SwT (fun e w' => StpAns (fun b => T b ∨ w.heap.size ≤ b) w' e (stepPic i (m : Int) x) ∧ Below w.heap.size w w') m w w3 w4 w7 w11 wp) :
  Calls Tryz.prog 7 #[pv V F s c cap, .int .i64 (m : Int), xv x vs vc fs fc] w fun e w' => StpAns (fun b => T b ∨ w.heap.size ≤ b) w' e (stepPic i (m : Int) x) ∧ Below w.heap.size w w' := by
 have HH := hideH H
 clear H
 have hn := K.kx.none
 have ha1 := K.a1
 have hm : m < c.length := by omega
 have hcm : c[m] = i := by rw [K.hi]; unfold insAt; simp [List.getD, hm]
 have h60 := K.lens.2.1
 have HIN := hideH hx.in
 have exv : xv x vs vc fs fc = .agg #[.bool false, .slice vs x.vars.length vc, .slice fs x.flds.length fc] := by unfold xv; rw [hn]
 rw [exv]
 have HCP : Hid (∀ wx, Below w.heap.size w wx → Calls Tryz.prog 20 #[.agg #[.bool false, .slice vs x.vars.length vc, .slice fs x.flds.length fc]] wx fun e w' => (∃ v gs gc L, x = picOf false v L ∧ e = .returned (.agg #[.bool false, .slice v.rs v.l.length v.rc, .slice gs L.length gc]) ∧ PicG (fun b => wx.heap.size ≤ b) wx.heap.size w' v gs gc L) ∧ Below wx.heap.size wx w') := fun wx hb => by
  have h := copyPicture_any x vs vc fs fc wx ((hx.at).below hb (Nat.le_refl _)) K
  rw [exv] at h
  refine h.mono ?_
  rintro e w' ⟨⟨v, gs, gc, L, h1, h2, h3⟩, h4⟩
  rw [hn] at h1 h2
  exact ⟨⟨v, gs, gc, L, h1, h2, h3⟩, h4⟩
 have hb1 : Below w.heap.size w ((w.alloc (.cells #[.int .i64 V, .int .i64 F, .slice s c.length cap] 24)).alloc (.cells #[.bool false, .slice vs x.vars.length vc, .slice fs x.flds.length fc] 28)) := by go_grown
 have P1 : Cells ((w.alloc (.cells #[.int .i64 V, .int .i64 F, .slice s c.length cap] 24)).alloc (.cells #[.bool false, .slice vs x.vars.length vc, .slice fs x.flds.length fc] 28)) w.heap.size [.int .i64 V, .int .i64 F, .slice s c.length cap] := (Cells.new w 24 [.int .i64 V, .int .i64 F, .slice s c.length cap]).call (by go_grown)
 have X1 : Cells ((w.alloc (.cells #[.int .i64 V, .int .i64 F, .slice s c.length cap] 24)).alloc (.cells #[.bool false, .slice vs x.vars.length vc, .slice fs x.flds.length fc] 28)) (w.heap.size + 1) [.bool false, .slice vs x.vars.length vc, .slice fs x.flds.length fc] := by
  have h := Cells.new (w.alloc (.cells #[.int .i64 V, .int .i64 F, .slice s c.length cap] 24)) 28 [.bool false, .slice vs x.vars.length vc, .slice fs x.flds.length fc]
  rw [World.size_alloc] at h
  exact h
 have HZ1 : Hid (((w.alloc (.cells #[.int .i64 V, .int .i64 F, .slice s c.length cap] 24)).alloc (.cells #[.bool false, .slice vs x.vars.length vc, .slice fs x.flds.length fc] 28)).heap.size = w.heap.size + 1 + 1) := by show _ = _; simp
 obtain ⟨cb0, co, es, hcb, hci⟩ := (hc.below hb1 (Nat.le_refl _)).get m hm
 obtain ⟨j0, j1, j2, j3, j4, j5⟩ := hci m hm
 rw [hcm] at j0 j1 j2 j3 j4 j5
 have HES : Hid (s = some ⟨cb0, co, none⟩) := es
 clear es
 have n0 : (0 : Int) ≤ (m : Int) := by omega
 have n1 : (m : Int) < (c.length : Int) := by omega
 have HNA : Hid (∀ wx, Calls Tryz.prog 22 #[.int .i64 i.k] wx fun e w' => e = .returned (.bool false) ∧ w' = wx) := fun wx => by have h := namesA_any i.k wx; rw [hnA] at h; exact h
 have HNB : Hid (∀ wx, Calls Tryz.prog 23 #[.int .i64 i.k] wx fun e w' => e = .returned (.bool false) ∧ w' = wx) := fun wx => by have h := namesB_any i.k wx; rw [hnB] at h; exact h
 skip
 skip
 skip
 skip
 skip
 skip
 have HK := hideH K
 have HX := hideH hx
 have HCM := hideH hcm
 clear hc hx K hn exv hci hcm
 clear hnA hnB
 have w61 : (m : Int) ≤ 60 := by omega
 go_enter Tryz.func7, Tryz.ntmps7
 go_upto_region 3 with fail
 generalize ((w.alloc (.cells #[.int .i64 V, .int .i64 F, .slice s c.length cap] 24)).alloc (.cells #[.bool false, .slice vs x.vars.length vc, .slice fs x.flds.length fc] 28)) = w1 at *
 have p2 := P1.1 2 _ rfl
 rw [HES.out] at p2
 go_upto_region 4 with fail
 clear p2 j0 j1 j2 j3 j4 j5
 have hb2 : Below w1.heap.size w1 (w1.alloc (.cells #[.int .i64 i.k, .int .i64 i.to, .int .i64 i.a, .int .i64 i.b, .int .i64 i.n, .int .i64 i.g] 51)) := by go_grown
 have I2 : Cells (w1.alloc (.cells #[.int .i64 i.k, .int .i64 i.to, .int .i64 i.a, .int .i64 i.b, .int .i64 i.n, .int .i64 i.g] 51)) w1.heap.size [.int .i64 i.k, .int .i64 i.to, .int .i64 i.a, .int .i64 i.b, .int .i64 i.n, .int .i64 i.g] := Cells.new w1 51 [.int .i64 i.k, .int .i64 i.to, .int .i64 i.a, .int .i64 i.b, .int .i64 i.n, .int .i64 i.g]
 have HZ2 : Hid ((w1.alloc (.cells #[.int .i64 i.k, .int .i64 i.to, .int .i64 i.a, .int .i64 i.b, .int .i64 i.n, .int .i64 i.g] 51)).heap.size = w.heap.size + 1 + 1 + 1) := by show _ = _; rw [World.size_alloc, HZ1.out]
 rw [HZ1.out] at I2
 rw [HZ1.out]
 generalize w1.alloc (.cells #[.int .i64 i.k, .int .i64 i.to, .int .i64 i.a, .int .i64 i.b, .int .i64 i.n, .int .i64 i.g] 51) = w2 at *
 have P2 := P1.call hb2
 have X2 := X1.call hb2
 have B2 := hb1.trans (hb2.mono hb1.size)
 have x0 := X2.1 0 _ rfl
 have x1 := X2.1 1 _ rfl
 have x2 := X2.1 2 _ rfl
 clear P1 X1 hb1 hb2 HZ1
 go_wp2_with (go_at_call 20; fail)
 refine (HCP.out w2 B2).mono ?_
 rintro e w3 ⟨⟨v, gs, gc, L, EX0, rfl, PG⟩, hb3⟩
 have EX := hideH EX0
 clear EX0 x0 x1 x2 HCP
 have HNO : Hid (∀ wx, Calls Tryz.prog 21 #[] wx fun e w' => e = .returned (.agg #[.bool false, .bool true, .int .i64 0, .int .i64 0, .bool false, .bool false, .slice none 0 0]) ∧ Below wx.heap.size wx w') := fun wx => nothingR_any wx
 go_upto_region 5 with fail
 have hb4 : Below w3.heap.size w3 (w3.alloc (.cells #[.bool false, .slice v.rs v.l.length v.rc, .slice gs L.length gc] 28)) := by go_grown
 have Y4 : Cells (w3.alloc (.cells #[.bool false, .slice v.rs v.l.length v.rc, .slice gs L.length gc] 28)) w3.heap.size [.bool false, .slice v.rs v.l.length v.rc, .slice gs L.length gc] := Cells.new w3 28 [.bool false, .slice v.rs v.l.length v.rc, .slice gs L.length gc]
 have Z4 : Hid ((w3.alloc (.cells #[.bool false, .slice v.rs v.l.length v.rc, .slice gs L.length gc] 28)).heap.size = w3.heap.size + 1) := by show _ = _; simp
 generalize w3.alloc (.cells #[.bool false, .slice v.rs v.l.length v.rc, .slice gs L.length gc] 28) = w4 at *
 have y0 := Y4.1 0 _ rfl
 have y1 := Y4.1 1 _ rfl
 have y2 := Y4.1 2 _ rfl
 go_upto_region 6 with fail
 clear y0 y1 y2
 have hb5 : Below w4.heap.size w4 (w4.alloc (.cells #[.int .i64 ((m : Int) + 1), .bool false, .slice v.rs v.l.length v.rc, .slice gs L.length gc] 56)) := by go_grown
 have O5 : Cells (w4.alloc (.cells #[.int .i64 ((m : Int) + 1), .bool false, .slice v.rs v.l.length v.rc, .slice gs L.length gc] 56)) w4.heap.size [.int .i64 ((m : Int) + 1), .bool false, .slice v.rs v.l.length v.rc, .slice gs L.length gc] := Cells.new w4 56 [.int .i64 ((m : Int) + 1), .bool false, .slice v.rs v.l.length v.rc, .slice gs L.length gc]
 generalize w4.alloc (.cells #[.int .i64 ((m : Int) + 1), .bool false, .slice v.rs v.l.length v.rc, .slice gs L.length gc] 56) = w5 at *
 go_wp2_with (go_at_call 21; fail)
 refine (HNO.out w5).mono ?_
 rintro e w6 ⟨rfl, hb6⟩
 go_wp2_with (go_at_call 21; fail)
 refine (HNO.out w6).mono ?_
 rintro e w7 ⟨rfl, hb7⟩
 go_upto_region 7 with fail
 have hb8 : Below w7.heap.size w7 ((w7.alloc (.cells #[.bool false, .bool true, .int .i64 0, .int .i64 0, .bool false, .bool false, .slice none 0 0] 61)).alloc (.cells #[.bool false, .bool true, .int .i64 0, .int .i64 0, .bool false, .bool false, .slice none 0 0] 61)) := by go_grown
 have A8 : Cells ((w7.alloc (.cells #[.bool false, .bool true, .int .i64 0, .int .i64 0, .bool false, .bool false, .slice none 0 0] 61)).alloc (.cells #[.bool false, .bool true, .int .i64 0, .int .i64 0, .bool false, .bool false, .slice none 0 0] 61)) w7.heap.size [.bool false, .bool true, .int .i64 0, .int .i64 0, .bool false, .bool false, .slice none 0 0] := (Cells.new w7 61 [.bool false, .bool true, .int .i64 0, .int .i64 0, .bool false, .bool false, .slice none 0 0]).call (by go_grown)
 have E8 : Cells ((w7.alloc (.cells #[.bool false, .bool true, .int .i64 0, .int .i64 0, .bool false, .bool false, .slice none 0 0] 61)).alloc (.cells #[.bool false, .bool true, .int .i64 0, .int .i64 0, .bool false, .bool false, .slice none 0 0] 61)) (w7.heap.size + 1) [.bool false, .bool true, .int .i64 0, .int .i64 0, .bool false, .bool false, .slice none 0 0] := by
  have h := Cells.new (w7.alloc (.cells #[.bool false, .bool true, .int .i64 0, .int .i64 0, .bool false, .bool false, .slice none 0 0] 61)) 61 [.bool false, .bool true, .int .i64 0, .int .i64 0, .bool false, .bool false, .slice none 0 0]
  rw [World.size_alloc] at h
  exact h
 generalize (w7.alloc (.cells #[.bool false, .bool true, .int .i64 0, .int .i64 0, .bool false, .bool false, .slice none 0 0] 61)).alloc (.cells #[.bool false, .bool true, .int .i64 0, .int .i64 0, .bool false, .bool false, .slice none 0 0] 61) = w8 at *
 have hb48 : Below w4.heap.size w4 w8 := hb5.trans (((hb6.trans (hb7.mono hb6.size)).trans (hb8.mono (hb6.trans (hb7.mono hb6.size)).size)).mono hb5.size)
 have hb28 : Below w2.heap.size w2 w8 := (hb3.trans (hb4.mono hb3.size)).trans (hb48.mono (hb3.trans (hb4.mono hb3.size)).size)
 have hb38 : Below w3.heap.size w3 w8 := hb4.trans (hb48.mono hb4.size)
 have O8 := O5.call ((hb6.trans (hb7.mono hb6.size)).trans (hb8.mono (hb6.trans (hb7.mono hb6.size)).size))
 have P8 := P2.call hb28
 have X8 := X2.call hb28
 have I8 := I2.call hb28
 have Y8 := Y4.call hb48
 have B8 := B2.trans (hb28.mono B2.size)
 have HORD : Hid (w.heap.size + 1 + 1 + 1 ≤ w3.heap.size ∧ w3.heap.size < w4.heap.size ∧ w4.heap.size < w7.heap.size) := by
  have h1 := hb3.size
  have h2 := HZ2.out
  have h3 := Z4.out
  have h4 := hb6.size
  have h5 := hb7.size
  have h6 := O5.2.1
  exact ⟨by omega, by omega, by omega⟩
 have HPG : Hid (PicG (fun b => w.heap.size ≤ b) (w.heap.size + 1 + 1 + 1) w3 v gs gc L) := by
  show PicG _ _ _ _ _ _ _
  rw [← HZ2.out]
  exact PG.mono fun b hb _ => by have := HZ2.out; omega
 have HB8 := hideH hb38
 clear PG hb3 hb4 hb5 hb6 hb7 hb8 hb48 hb28 hb38 P2 X2 I2 Y4 O5 B2 Z4 HZ2
 have i0 := I8.1 0 _ rfl
 go_wp2_with (go_at_call 22; fail)
 refine (HNA.out w8).mono ?_
 rintro e wz ⟨rfl, ew⟩
 rw [ew]
 clear ew wz
 have A9 := A8
 have E9 := E8
 have P9 := P8
 have X9 := X8
 have I9 := I8
 have Y9 := Y8
 have O9 := O8
 have B9 := B8
 have HB9 := HB8
 clear A8 E8 P8 X8 I8 Y8 O8 B8 HB8
 generalize w8 = w9 at *
 go_wp2_with (go_at_call 23; fail)
 refine (HNB.out w9).mono ?_
 rintro e wz ⟨rfl, ew⟩
 rw [ew]
 clear ew wz
 have A10 := A9
 have E10 := E9
 have P10 := P9
 have X10 := X9
 have I10 := I9
 have Y10 := Y9
 have O10 := O9
 have B10 := B9
 have HB10 := HB9
 clear A9 E9 P9 X9 I9 Y9 O9 B9 HB9
 generalize w9 = w10 at *
 go_wp2_with (go_at_call 21; fail)
 refine (HNO.out w10).mono ?_
 rintro e w11 ⟨rfl, hb11⟩
 clear i0
 go_upto_region 12 with fail
 have hb12 : Below w11.heap.size w11 (w11.alloc (.cells #[.bool false, .bool true, .int .i64 0, .int .i64 0, .bool false, .bool false, .slice none 0 0] 61)) := by go_grown
 have T12 : Cells (w11.alloc (.cells #[.bool false, .bool true, .int .i64 0, .int .i64 0, .bool false, .bool false, .slice none 0 0] 61)) w11.heap.size [.bool false, .bool true, .int .i64 0, .int .i64 0, .bool false, .bool false, .slice none 0 0] := Cells.new w11 61 [.bool false, .bool true, .int .i64 0, .int .i64 0, .bool false, .bool false, .slice none 0 0]
 have hb1012 : Below w10.heap.size w10 (w11.alloc (.cells #[.bool false, .bool true, .int .i64 0, .int .i64 0, .bool false, .bool false, .slice none 0 0] 61)) := hb11.trans (hb12.mono hb11.size)
 generalize w11.alloc (.cells #[.bool false, .bool true, .int .i64 0, .int .i64 0, .bool false, .bool false, .slice none 0 0] 61) = wp at *
 have SP : Hid (SPre T V F s c cap (m : Int) i x vs vc fs fc w wp (w.heap.size + 1 + 1) w3.heap.size w4.heap.size w7.heap.size (w7.heap.size + 1) w11.heap.size w3 v gs gc L noneG none 0 noneG none 0) := by
  have o := HORD.out
  have o2 := E10.2.1
  have o3 := hb11.size
  exact ⟨B10.trans (hb1012.mono B10.size), P10.call hb1012, X10.call hb1012, I10.call hb1012, Y10.call hb1012, O10.call hb1012, A10.call hb1012, E10.call hb1012, T12, ⟨.inl rfl, Nat.le_refl _, Nat.zero_le _⟩, ⟨.inl rfl, Nat.le_refl _, Nat.zero_le _⟩, HPG.out, HB10.out.trans (hb1012.mono HB10.out.size), rfl, EX.out, rfl, by omega, by omega, by omega, by omega, by omega⟩
 clear A10 B10 P10 X10 I10 Y10 O10 E10 T12 HPG HB10 hb11 hb12 hb1012 EX HORD HNO HNA HNB HIN
 refine wp_region_lit ?_
 refine tL (.bool false) ?_
 refine sm ?_
 refine wpList_nil ?_
 rename_i K9 hK9
 refine hK9 _ _ (drop_wp rfl (HH.out w3 w4 w7 w11 wp v gs gc L SP _ _ _ _ (by rfl)))
theorem stepPre_tf {T : Nat → Prop} {V F : Int} {s : Option Addr} {c : List Ins} {cap m : Nat} {i : Ins} {x : Pic} {vs : Option Addr} {vc : Nat} {fs : Option Addr} {fc : Nat} {w : World} (hc : CodeAt w s c) (hx : PicOn T w x vs fs) (K : SCtx V F c x vc fc i (m : Int)) (hnA : nA i.k = true) (hnB : nB i.k = false) (H : ∀ (w3 w4 w7 w11 wp : World) (v : Ro) (gs : Option Addr) (gc : Nat) (L : List Ro) (ka : Nat) (sska : Option Addr) (gcka : Nat) (hkax : ka < x.vars.length) (_ : i.a = (ka : Int)) , Hid (SPre T V F s c cap (m : Int) i x vs vc fs fc w wp (w.heap.size + 1 + 1) w3.heap.size w4.heap.size w7.heap.size (w7.heap.size + 1) w11.heap.size w3 v gs gc L x.vars[ka] sska gcka noneG none 0) → SwT (fun e w' => StpAns (fun b => T b ∨ w.heap.size ≤ b) w' e (stepPic i (m : Int) x) ∧ Below w.heap.size w w') m w w3 w4 w7 w11 wp) :
  Calls Tryz.prog 7 #[pv V F s c cap, .int .i64 (m : Int), xv x vs vc fs fc] w fun e w' => StpAns (fun b => T b ∨ w.heap.size ≤ b) w' e (stepPic i (m : Int) x) ∧ Below w.heap.size w w' := by
 have HH := hideH H
 clear H
 have hn := K.kx.none
 have ha1 := K.a1
 have hm : m < c.length := by omega
 have hcm : c[m] = i := by rw [K.hi]; unfold insAt; simp [List.getD, hm]
 have h60 := K.lens.2.1
 have HIN := hideH hx.in
 have exv : xv x vs vc fs fc = .agg #[.bool false, .slice vs x.vars.length vc, .slice fs x.flds.length fc] := by unfold xv; rw [hn]
 rw [exv]
 have HCP : Hid (∀ wx, Below w.heap.size w wx → Calls Tryz.prog 20 #[.agg #[.bool false, .slice vs x.vars.length vc, .slice fs x.flds.length fc]] wx fun e w' => (∃ v gs gc L, x = picOf false v L ∧ e = .returned (.agg #[.bool false, .slice v.rs v.l.length v.rc, .slice gs L.length gc]) ∧ PicG (fun b => wx.heap.size ≤ b) wx.heap.size w' v gs gc L) ∧ Below wx.heap.size wx w') := fun wx hb => by
  have h := copyPicture_any x vs vc fs fc wx ((hx.at).below hb (Nat.le_refl _)) K
  rw [exv] at h
  refine h.mono ?_
  rintro e w' ⟨⟨v, gs, gc, L, h1, h2, h3⟩, h4⟩
  rw [hn] at h1 h2
  exact ⟨⟨v, gs, gc, L, h1, h2, h3⟩, h4⟩
 have hb1 : Below w.heap.size w ((w.alloc (.cells #[.int .i64 V, .int .i64 F, .slice s c.length cap] 24)).alloc (.cells #[.bool false, .slice vs x.vars.length vc, .slice fs x.flds.length fc] 28)) := by go_grown
 have P1 : Cells ((w.alloc (.cells #[.int .i64 V, .int .i64 F, .slice s c.length cap] 24)).alloc (.cells #[.bool false, .slice vs x.vars.length vc, .slice fs x.flds.length fc] 28)) w.heap.size [.int .i64 V, .int .i64 F, .slice s c.length cap] := (Cells.new w 24 [.int .i64 V, .int .i64 F, .slice s c.length cap]).call (by go_grown)
 have X1 : Cells ((w.alloc (.cells #[.int .i64 V, .int .i64 F, .slice s c.length cap] 24)).alloc (.cells #[.bool false, .slice vs x.vars.length vc, .slice fs x.flds.length fc] 28)) (w.heap.size + 1) [.bool false, .slice vs x.vars.length vc, .slice fs x.flds.length fc] := by
  have h := Cells.new (w.alloc (.cells #[.int .i64 V, .int .i64 F, .slice s c.length cap] 24)) 28 [.bool false, .slice vs x.vars.length vc, .slice fs x.flds.length fc]
  rw [World.size_alloc] at h
  exact h
 have HZ1 : Hid (((w.alloc (.cells #[.int .i64 V, .int .i64 F, .slice s c.length cap] 24)).alloc (.cells #[.bool false, .slice vs x.vars.length vc, .slice fs x.flds.length fc] 28)).heap.size = w.heap.size + 1 + 1) := by show _ = _; simp
 obtain ⟨cb0, co, es, hcb, hci⟩ := (hc.below hb1 (Nat.le_refl _)).get m hm
 obtain ⟨j0, j1, j2, j3, j4, j5⟩ := hci m hm
 rw [hcm] at j0 j1 j2 j3 j4 j5
 have HES : Hid (s = some ⟨cb0, co, none⟩) := es
 clear es
 have n0 : (0 : Int) ≤ (m : Int) := by omega
 have n1 : (m : Int) < (c.length : Int) := by omega
 have HNA : Hid (∀ wx, Calls Tryz.prog 22 #[.int .i64 i.k] wx fun e w' => e = .returned (.bool true) ∧ w' = wx) := fun wx => by have h := namesA_any i.k wx; rw [hnA] at h; exact h
 have HNB : Hid (∀ wx, Calls Tryz.prog 23 #[.int .i64 i.k] wx fun e w' => e = .returned (.bool false) ∧ w' = wx) := fun wx => by have h := namesB_any i.k wx; rw [hnB] at h; exact h
 obtain ⟨ka, eka, hkax⟩ := K.varA hnA
 have HKAV := hideH eka
 skip
 skip
 clear eka
 skip
 have HK := hideH K
 have HX := hideH hx
 have HCM := hideH hcm
 clear hc hx K hn exv hci hcm
 clear hnA hnB
 have w61 : (m : Int) ≤ 60 := by omega
 go_enter Tryz.func7, Tryz.ntmps7
 go_upto_region 3 with fail
 generalize ((w.alloc (.cells #[.int .i64 V, .int .i64 F, .slice s c.length cap] 24)).alloc (.cells #[.bool false, .slice vs x.vars.length vc, .slice fs x.flds.length fc] 28)) = w1 at *
 have p2 := P1.1 2 _ rfl
 rw [HES.out] at p2
 go_upto_region 4 with fail
 clear p2 j0 j1 j2 j3 j4 j5
 have hb2 : Below w1.heap.size w1 (w1.alloc (.cells #[.int .i64 i.k, .int .i64 i.to, .int .i64 i.a, .int .i64 i.b, .int .i64 i.n, .int .i64 i.g] 51)) := by go_grown
 have I2 : Cells (w1.alloc (.cells #[.int .i64 i.k, .int .i64 i.to, .int .i64 i.a, .int .i64 i.b, .int .i64 i.n, .int .i64 i.g] 51)) w1.heap.size [.int .i64 i.k, .int .i64 i.to, .int .i64 i.a, .int .i64 i.b, .int .i64 i.n, .int .i64 i.g] := Cells.new w1 51 [.int .i64 i.k, .int .i64 i.to, .int .i64 i.a, .int .i64 i.b, .int .i64 i.n, .int .i64 i.g]
 have HZ2 : Hid ((w1.alloc (.cells #[.int .i64 i.k, .int .i64 i.to, .int .i64 i.a, .int .i64 i.b, .int .i64 i.n, .int .i64 i.g] 51)).heap.size = w.heap.size + 1 + 1 + 1) := by show _ = _; rw [World.size_alloc, HZ1.out]
 rw [HZ1.out] at I2
 rw [HZ1.out]
 generalize w1.alloc (.cells #[.int .i64 i.k, .int .i64 i.to, .int .i64 i.a, .int .i64 i.b, .int .i64 i.n, .int .i64 i.g] 51) = w2 at *
 have P2 := P1.call hb2
 have X2 := X1.call hb2
 have B2 := hb1.trans (hb2.mono hb1.size)
 have x0 := X2.1 0 _ rfl
 have x1 := X2.1 1 _ rfl
 have x2 := X2.1 2 _ rfl
 clear P1 X1 hb1 hb2 HZ1
 go_wp2_with (go_at_call 20; fail)
 refine (HCP.out w2 B2).mono ?_
 rintro e w3 ⟨⟨v, gs, gc, L, EX0, rfl, PG⟩, hb3⟩
 have EX := hideH EX0
 clear EX0 x0 x1 x2 HCP
 have HNO : Hid (∀ wx, Calls Tryz.prog 21 #[] wx fun e w' => e = .returned (.agg #[.bool false, .bool true, .int .i64 0, .int .i64 0, .bool false, .bool false, .slice none 0 0]) ∧ Below wx.heap.size wx w') := fun wx => nothingR_any wx
 go_upto_region 5 with fail
 have hb4 : Below w3.heap.size w3 (w3.alloc (.cells #[.bool false, .slice v.rs v.l.length v.rc, .slice gs L.length gc] 28)) := by go_grown
 have Y4 : Cells (w3.alloc (.cells #[.bool false, .slice v.rs v.l.length v.rc, .slice gs L.length gc] 28)) w3.heap.size [.bool false, .slice v.rs v.l.length v.rc, .slice gs L.length gc] := Cells.new w3 28 [.bool false, .slice v.rs v.l.length v.rc, .slice gs L.length gc]
 have Z4 : Hid ((w3.alloc (.cells #[.bool false, .slice v.rs v.l.length v.rc, .slice gs L.length gc] 28)).heap.size = w3.heap.size + 1) := by show _ = _; simp
 generalize w3.alloc (.cells #[.bool false, .slice v.rs v.l.length v.rc, .slice gs L.length gc] 28) = w4 at *
 have y0 := Y4.1 0 _ rfl
 have y1 := Y4.1 1 _ rfl
 have y2 := Y4.1 2 _ rfl
 go_upto_region 6 with fail
 clear y0 y1 y2
 have hb5 : Below w4.heap.size w4 (w4.alloc (.cells #[.int .i64 ((m : Int) + 1), .bool false, .slice v.rs v.l.length v.rc, .slice gs L.length gc] 56)) := by go_grown
 have O5 : Cells (w4.alloc (.cells #[.int .i64 ((m : Int) + 1), .bool false, .slice v.rs v.l.length v.rc, .slice gs L.length gc] 56)) w4.heap.size [.int .i64 ((m : Int) + 1), .bool false, .slice v.rs v.l.length v.rc, .slice gs L.length gc] := Cells.new w4 56 [.int .i64 ((m : Int) + 1), .bool false, .slice v.rs v.l.length v.rc, .slice gs L.length gc]
 generalize w4.alloc (.cells #[.int .i64 ((m : Int) + 1), .bool false, .slice v.rs v.l.length v.rc, .slice gs L.length gc] 56) = w5 at *
 go_wp2_with (go_at_call 21; fail)
 refine (HNO.out w5).mono ?_
 rintro e w6 ⟨rfl, hb6⟩
 go_wp2_with (go_at_call 21; fail)
 refine (HNO.out w6).mono ?_
 rintro e w7 ⟨rfl, hb7⟩
 go_upto_region 7 with fail
 have hb8 : Below w7.heap.size w7 ((w7.alloc (.cells #[.bool false, .bool true, .int .i64 0, .int .i64 0, .bool false, .bool false, .slice none 0 0] 61)).alloc (.cells #[.bool false, .bool true, .int .i64 0, .int .i64 0, .bool false, .bool false, .slice none 0 0] 61)) := by go_grown
 have A8 : Cells ((w7.alloc (.cells #[.bool false, .bool true, .int .i64 0, .int .i64 0, .bool false, .bool false, .slice none 0 0] 61)).alloc (.cells #[.bool false, .bool true, .int .i64 0, .int .i64 0, .bool false, .bool false, .slice none 0 0] 61)) w7.heap.size [.bool false, .bool true, .int .i64 0, .int .i64 0, .bool false, .bool false, .slice none 0 0] := (Cells.new w7 61 [.bool false, .bool true, .int .i64 0, .int .i64 0, .bool false, .bool false, .slice none 0 0]).call (by go_grown)
 have E8 : Cells ((w7.alloc (.cells #[.bool false, .bool true, .int .i64 0, .int .i64 0, .bool false, .bool false, .slice none 0 0] 61)).alloc (.cells #[.bool false, .bool true, .int .i64 0, .int .i64 0, .bool false, .bool false, .slice none 0 0] 61)) (w7.heap.size + 1) [.bool false, .bool true, .int .i64 0, .int .i64 0, .bool false, .bool false, .slice none 0 0] := by
  have h := Cells.new (w7.alloc (.cells #[.bool false, .bool true, .int .i64 0, .int .i64 0, .bool false, .bool false, .slice none 0 0] 61)) 61 [.bool false, .bool true, .int .i64 0, .int .i64 0, .bool false, .bool false, .slice none 0 0]
  rw [World.size_alloc] at h
  exact h
 generalize (w7.alloc (.cells #[.bool false, .bool true, .int .i64 0, .int .i64 0, .bool false, .bool false, .slice none 0 0] 61)).alloc (.cells #[.bool false, .bool true, .int .i64 0, .int .i64 0, .bool false, .bool false, .slice none 0 0] 61) = w8 at *
 have hb48 : Below w4.heap.size w4 w8 := hb5.trans (((hb6.trans (hb7.mono hb6.size)).trans (hb8.mono (hb6.trans (hb7.mono hb6.size)).size)).mono hb5.size)
 have hb28 : Below w2.heap.size w2 w8 := (hb3.trans (hb4.mono hb3.size)).trans (hb48.mono (hb3.trans (hb4.mono hb3.size)).size)
 have hb38 : Below w3.heap.size w3 w8 := hb4.trans (hb48.mono hb4.size)
 have O8 := O5.call ((hb6.trans (hb7.mono hb6.size)).trans (hb8.mono (hb6.trans (hb7.mono hb6.size)).size))
 have P8 := P2.call hb28
 have X8 := X2.call hb28
 have I8 := I2.call hb28
 have Y8 := Y4.call hb48
 have B8 := B2.trans (hb28.mono B2.size)
 have HORD : Hid (w.heap.size + 1 + 1 + 1 ≤ w3.heap.size ∧ w3.heap.size < w4.heap.size ∧ w4.heap.size < w7.heap.size) := by
  have h1 := hb3.size
  have h2 := HZ2.out
  have h3 := Z4.out
  have h4 := hb6.size
  have h5 := hb7.size
  have h6 := O5.2.1
  exact ⟨by omega, by omega, by omega⟩
 have HPG : Hid (PicG (fun b => w.heap.size ≤ b) (w.heap.size + 1 + 1 + 1) w3 v gs gc L) := by
  show PicG _ _ _ _ _ _ _
  rw [← HZ2.out]
  exact PG.mono fun b hb _ => by have := HZ2.out; omega
 have HB8 := hideH hb38
 clear PG hb3 hb4 hb5 hb6 hb7 hb8 hb48 hb28 hb38 P2 X2 I2 Y4 O5 B2 Z4 HZ2
 have i0 := I8.1 0 _ rfl
 go_wp2_with (go_at_call 22; fail)
 refine (HNA.out w8).mono ?_
 rintro e wz ⟨rfl, ew⟩
 rw [ew]
 clear ew wz i0
 have x1 := X8.1 1 _ rfl
 have i2 := I8.1 2 _ rfl
 rw [HKAV.out] at i2
 obtain ⟨bka, oka, eka, Ska, sska, gcka, Gka, IkaI, kka1, kka2⟩ := HIN.out.1 ka hkax
 rw [eka] at x1
 clear eka
 obtain ⟨⟨u0, u1, u2, u3, u4, u5, u6⟩, uz⟩ := Gka.below B8 (Nat.le_refl _)
 have r0 := A8.1 0 _ rfl
 have fr0 := A8.2.2 0
 have r1 := A8.1 1 _ rfl
 have fr1 := A8.2.2 1
 have r2 := A8.1 2 _ rfl
 have fr2 := A8.2.2 2
 have r3 := A8.1 3 _ rfl
 have fr3 := A8.2.2 3
 have r4 := A8.1 4 _ rfl
 have fr4 := A8.2.2 4
 have r5 := A8.1 5 _ rfl
 have fr5 := A8.2.2 5
 have r6 := A8.1 6 _ rfl
 have fr6 := A8.2.2 6
 have q0 : (0 : Int) ≤ (ka : Int) := by omega
 have q1 : (ka : Int) < (x.vars.length : Int) := by omega
 go_upto_region 9 with fail
 clear r0 fr0 r1 fr1 r2 fr2 r3 fr3 r4 fr4 r5 fr5 r6 fr6
 obtain ⟨w9, ew9⟩ : ∃ q, q = setL w8 (w7.heap.size) 0 [.bool x.vars[ka].n, .bool x.vars[ka].sp.n, .int .i64 x.vars[ka].sp.lo, .int .i64 x.vars[ka].sp.hi, .bool x.vars[ka].t, .bool x.vars[ka].f, .slice sska x.vars[ka].s.length gcka] := ⟨_, rfl⟩
 have PU := put_some A8 0 _ ew9
 simp only [setL] at ew9
 rw [← ew9]
 clear ew9
 have A9 := PU.cells
 have o1 := HORD.out
 have P9 := PU.keep P8
 have X9 := PU.keep X8
 have I9 := PU.keep I8
 have Y9 := PU.keep Y8
 have O9 := PU.keep O8
 have E9 := PU.keep E8
 have B9 := PU.low (by omega) B8
 have HB9 := hideH (PU.low (by omega) HB8.out)
 clear A8 E8 P8 X8 I8 Y8 O8 B8 HB8 o1 x1 i2 u0 u1 u2 u3 u4 u5 u6 uz q0 q1 PU
 have i0 := I9.1 0 _ rfl
 go_wp2_with (go_at_call 23; fail)
 refine (HNB.out w9).mono ?_
 rintro e wz ⟨rfl, ew⟩
 rw [ew]
 clear ew wz
 have A10 := A9
 have E10 := E9
 have P10 := P9
 have X10 := X9
 have I10 := I9
 have Y10 := Y9
 have O10 := O9
 have B10 := B9
 have HB10 := HB9
 clear A9 E9 P9 X9 I9 Y9 O9 B9 HB9
 generalize w9 = w10 at *
 go_wp2_with (go_at_call 21; fail)
 refine (HNO.out w10).mono ?_
 rintro e w11 ⟨rfl, hb11⟩
 clear i0
 go_upto_region 12 with fail
 have hb12 : Below w11.heap.size w11 (w11.alloc (.cells #[.bool false, .bool true, .int .i64 0, .int .i64 0, .bool false, .bool false, .slice none 0 0] 61)) := by go_grown
 have T12 : Cells (w11.alloc (.cells #[.bool false, .bool true, .int .i64 0, .int .i64 0, .bool false, .bool false, .slice none 0 0] 61)) w11.heap.size [.bool false, .bool true, .int .i64 0, .int .i64 0, .bool false, .bool false, .slice none 0 0] := Cells.new w11 61 [.bool false, .bool true, .int .i64 0, .int .i64 0, .bool false, .bool false, .slice none 0 0]
 have hb1012 : Below w10.heap.size w10 (w11.alloc (.cells #[.bool false, .bool true, .int .i64 0, .int .i64 0, .bool false, .bool false, .slice none 0 0] 61)) := hb11.trans (hb12.mono hb11.size)
 generalize w11.alloc (.cells #[.bool false, .bool true, .int .i64 0, .int .i64 0, .bool false, .bool false, .slice none 0 0] 61) = wp at *
 have SP : Hid (SPre T V F s c cap (m : Int) i x vs vc fs fc w wp (w.heap.size + 1 + 1) w3.heap.size w4.heap.size w7.heap.size (w7.heap.size + 1) w11.heap.size w3 v gs gc L x.vars[ka] sska gcka noneG none 0) := by
  have o := HORD.out
  have o2 := E10.2.1
  have o3 := hb11.size
  exact ⟨B10.trans (hb1012.mono B10.size), P10.call hb1012, X10.call hb1012, I10.call hb1012, Y10.call hb1012, O10.call hb1012, A10.call hb1012, E10.call hb1012, T12, ⟨IkaI, kka1, kka2⟩, ⟨.inl rfl, Nat.le_refl _, Nat.zero_le _⟩, HPG.out, HB10.out.trans (hb1012.mono HB10.out.size), rfl, EX.out, rfl, by omega, by omega, by omega, by omega, by omega⟩
 clear A10 B10 P10 X10 I10 Y10 O10 E10 T12 HPG HB10 hb11 hb12 hb1012 EX HORD HNO HNA HNB HIN
 refine wp_region_lit ?_
 refine tL (.bool false) ?_
 refine sm ?_
 refine wpList_nil ?_
 rename_i K9 hK9
 refine hK9 _ _ (drop_wp rfl (HH.out w3 w4 w7 w11 wp v gs gc L ka sska gcka hkax HKAV.out SP _ _ _ _ (by rfl)))
theorem stepPre_tt {T : Nat → Prop} {V F : Int} {s : Option Addr} {c : List Ins} {cap m : Nat} {i : Ins} {x : Pic} {vs : Option Addr} {vc : Nat} {fs : Option Addr} {fc : Nat} {w : World} (hc : CodeAt w s c) (hx : PicOn T w x vs fs) (K : SCtx V F c x vc fc i (m : Int)) (hnA : nA i.k = true) (hnB : nB i.k = true) (H : ∀ (w3 w4 w7 w11 wp : World) (v : Ro) (gs : Option Addr) (gc : Nat) (L : List Ro) (ka : Nat) (sska : Option Addr) (gcka : Nat) (hkax : ka < x.vars.length) (_ : i.a = (ka : Int)) (kb : Nat) (sskb : Option Addr) (gckb : Nat) (hkbx : kb < x.vars.length) (_ : i.b = (kb : Int)) , Hid (SPre T V F s c cap (m : Int) i x vs vc fs fc w wp (w.heap.size + 1 + 1) w3.heap.size w4.heap.size w7.heap.size (w7.heap.size + 1) w11.heap.size w3 v gs gc L x.vars[ka] sska gcka x.vars[kb] sskb gckb) → SwT (fun e w' => StpAns (fun b => T b ∨ w.heap.size ≤ b) w' e (stepPic i (m : Int) x) ∧ Below w.heap.size w w') m w w3 w4 w7 w11 wp) :
  Calls Tryz.prog 7 #[pv V F s c cap, .int .i64 (m : Int), xv x vs vc fs fc] w fun e w' => StpAns (fun b => T b ∨ w.heap.size ≤ b) w' e (stepPic i (m : Int) x) ∧ Below w.heap.size w w' := by
 have HH := hideH H
 clear H
 have hn := K.kx.none
 have ha1 := K.a1
 have hm : m < c.length := by omega
 have hcm : c[m] = i := by rw [K.hi]; unfold insAt; simp [List.getD, hm]
 have h60 := K.lens.2.1
 have HIN := hideH hx.in
 have exv : xv x vs vc fs fc = .agg #[.bool false, .slice vs x.vars.length vc, .slice fs x.flds.length fc] := by unfold xv; rw [hn]
 rw [exv]
 have HCP : Hid (∀ wx, Below w.heap.size w wx → Calls Tryz.prog 20 #[.agg #[.bool false, .slice vs x.vars.length vc, .slice fs x.flds.length fc]] wx fun e w' => (∃ v gs gc L, x = picOf false v L ∧ e = .returned (.agg #[.bool false, .slice v.rs v.l.length v.rc, .slice gs L.length gc]) ∧ PicG (fun b => wx.heap.size ≤ b) wx.heap.size w' v gs gc L) ∧ Below wx.heap.size wx w') := fun wx hb => by
  have h := copyPicture_any x vs vc fs fc wx ((hx.at).below hb (Nat.le_refl _)) K
  rw [exv] at h
  refine h.mono ?_
  rintro e w' ⟨⟨v, gs, gc, L, h1, h2, h3⟩, h4⟩
  rw [hn] at h1 h2
  exact ⟨⟨v, gs, gc, L, h1, h2, h3⟩, h4⟩
 have hb1 : Below w.heap.size w ((w.alloc (.cells #[.int .i64 V, .int .i64 F, .slice s c.length cap] 24)).alloc (.cells #[.bool false, .slice vs x.vars.length vc, .slice fs x.flds.length fc] 28)) := by go_grown
 have P1 : Cells ((w.alloc (.cells #[.int .i64 V, .int .i64 F, .slice s c.length cap] 24)).alloc (.cells #[.bool false, .slice vs x.vars.length vc, .slice fs x.flds.length fc] 28)) w.heap.size [.int .i64 V, .int .i64 F, .slice s c.length cap] := (Cells.new w 24 [.int .i64 V, .int .i64 F, .slice s c.length cap]).call (by go_grown)
 have X1 : Cells ((w.alloc (.cells #[.int .i64 V, .int .i64 F, .slice s c.length cap] 24)).alloc (.cells #[.bool false, .slice vs x.vars.length vc, .slice fs x.flds.length fc] 28)) (w.heap.size + 1) [.bool false, .slice vs x.vars.length vc, .slice fs x.flds.length fc] := by
  have h := Cells.new (w.alloc (.cells #[.int .i64 V, .int .i64 F, .slice s c.length cap] 24)) 28 [.bool false, .slice vs x.vars.length vc, .slice fs x.flds.length fc]
  rw [World.size_alloc] at h
  exact h
 have HZ1 : Hid (((w.alloc (.cells #[.int .i64 V, .int .i64 F, .slice s c.length cap] 24)).alloc (.cells #[.bool false, .slice vs x.vars.length vc, .slice fs x.flds.length fc] 28)).heap.size = w.heap.size + 1 + 1) := by show _ = _; simp
 obtain ⟨cb0, co, es, hcb, hci⟩ := (hc.below hb1 (Nat.le_refl _)).get m hm
 obtain ⟨j0, j1, j2, j3, j4, j5⟩ := hci m hm
 rw [hcm] at j0 j1 j2 j3 j4 j5
 have HES : Hid (s = some ⟨cb0, co, none⟩) := es
 clear es
 have n0 : (0 : Int) ≤ (m : Int) := by omega
 have n1 : (m : Int) < (c.length : Int) := by omega
 have HNA : Hid (∀ wx, Calls Tryz.prog 22 #[.int .i64 i.k] wx fun e w' => e = .returned (.bool true) ∧ w' = wx) := fun wx => by have h := namesA_any i.k wx; rw [hnA] at h; exact h
 have HNB : Hid (∀ wx, Calls Tryz.prog 23 #[.int .i64 i.k] wx fun e w' => e = .returned (.bool true) ∧ w' = wx) := fun wx => by have h := namesB_any i.k wx; rw [hnB] at h; exact h
 obtain ⟨ka, eka, hkax⟩ := K.varA hnA
 have HKAV := hideH eka
 obtain ⟨kb, ekb, hkbx⟩ := K.varB hnB
 have HKBV := hideH ekb
 clear eka
 clear ekb
 have HK := hideH K
 have HX := hideH hx
 have HCM := hideH hcm
 clear hc hx K hn exv hci hcm
 clear hnA hnB
 have w61 : (m : Int) ≤ 60 := by omega
 go_enter Tryz.func7, Tryz.ntmps7
 go_upto_region 3 with fail
 generalize ((w.alloc (.cells #[.int .i64 V, .int .i64 F, .slice s c.length cap] 24)).alloc (.cells #[.bool false, .slice vs x.vars.length vc, .slice fs x.flds.length fc] 28)) = w1 at *
 have p2 := P1.1 2 _ rfl
 rw [HES.out] at p2
 go_upto_region 4 with fail
 clear p2 j0 j1 j2 j3 j4 j5
 have hb2 : Below w1.heap.size w1 (w1.alloc (.cells #[.int .i64 i.k, .int .i64 i.to, .int .i64 i.a, .int .i64 i.b, .int .i64 i.n, .int .i64 i.g] 51)) := by go_grown
 have I2 : Cells (w1.alloc (.cells #[.int .i64 i.k, .int .i64 i.to, .int .i64 i.a, .int .i64 i.b, .int .i64 i.n, .int .i64 i.g] 51)) w1.heap.size [.int .i64 i.k, .int .i64 i.to, .int .i64 i.a, .int .i64 i.b, .int .i64 i.n, .int .i64 i.g] := Cells.new w1 51 [.int .i64 i.k, .int .i64 i.to, .int .i64 i.a, .int .i64 i.b, .int .i64 i.n, .int .i64 i.g]
 have HZ2 : Hid ((w1.alloc (.cells #[.int .i64 i.k, .int .i64 i.to, .int .i64 i.a, .int .i64 i.b, .int .i64 i.n, .int .i64 i.g] 51)).heap.size = w.heap.size + 1 + 1 + 1) := by show _ = _; rw [World.size_alloc, HZ1.out]
 rw [HZ1.out] at I2
 rw [HZ1.out]
 generalize w1.alloc (.cells #[.int .i64 i.k, .int .i64 i.to, .int .i64 i.a, .int .i64 i.b, .int .i64 i.n, .int .i64 i.g] 51) = w2 at *
 have P2 := P1.call hb2
 have X2 := X1.call hb2
 have B2 := hb1.trans (hb2.mono hb1.size)
 have x0 := X2.1 0 _ rfl
 have x1 := X2.1 1 _ rfl
 have x2 := X2.1 2 _ rfl
 clear P1 X1 hb1 hb2 HZ1
 go_wp2_with (go_at_call 20; fail)
 refine (HCP.out w2 B2).mono ?_
 rintro e w3 ⟨⟨v, gs, gc, L, EX0, rfl, PG⟩, hb3⟩
 have EX := hideH EX0
 clear EX0 x0 x1 x2 HCP
 have HNO : Hid (∀ wx, Calls Tryz.prog 21 #[] wx fun e w' => e = .returned (.agg #[.bool false, .bool true, .int .i64 0, .int .i64 0, .bool false, .bool false, .slice none 0 0]) ∧ Below wx.heap.size wx w') := fun wx => nothingR_any wx
 go_upto_region 5 with fail
 have hb4 : Below w3.heap.size w3 (w3.alloc (.cells #[.bool false, .slice v.rs v.l.length v.rc, .slice gs L.length gc] 28)) := by go_grown
 have Y4 : Cells (w3.alloc (.cells #[.bool false, .slice v.rs v.l.length v.rc, .slice gs L.length gc] 28)) w3.heap.size [.bool false, .slice v.rs v.l.length v.rc, .slice gs L.length gc] := Cells.new w3 28 [.bool false, .slice v.rs v.l.length v.rc, .slice gs L.length gc]
 have Z4 : Hid ((w3.alloc (.cells #[.bool false, .slice v.rs v.l.length v.rc, .slice gs L.length gc] 28)).heap.size = w3.heap.size + 1) := by show _ = _; simp
 generalize w3.alloc (.cells #[.bool false, .slice v.rs v.l.length v.rc, .slice gs L.length gc] 28) = w4 at *
 have y0 := Y4.1 0 _ rfl
 have y1 := Y4.1 1 _ rfl
 have y2 := Y4.1 2 _ rfl
 go_upto_region 6 with fail
 clear y0 y1 y2
 have hb5 : Below w4.heap.size w4 (w4.alloc (.cells #[.int .i64 ((m : Int) + 1), .bool false, .slice v.rs v.l.length v.rc, .slice gs L.length gc] 56)) := by go_grown
 have O5 : Cells (w4.alloc (.cells #[.int .i64 ((m : Int) + 1), .bool false, .slice v.rs v.l.length v.rc, .slice gs L.length gc] 56)) w4.heap.size [.int .i64 ((m : Int) + 1), .bool false, .slice v.rs v.l.length v.rc, .slice gs L.length gc] := Cells.new w4 56 [.int .i64 ((m : Int) + 1), .bool false, .slice v.rs v.l.length v.rc, .slice gs L.length gc]
 generalize w4.alloc (.cells #[.int .i64 ((m : Int) + 1), .bool false, .slice v.rs v.l.length v.rc, .slice gs L.length gc] 56) = w5 at *
 go_wp2_with (go_at_call 21; fail)
 refine (HNO.out w5).mono ?_
 rintro e w6 ⟨rfl, hb6⟩
 go_wp2_with (go_at_call 21; fail)
 refine (HNO.out w6).mono ?_
 rintro e w7 ⟨rfl, hb7⟩
 go_upto_region 7 with fail
 have hb8 : Below w7.heap.size w7 ((w7.alloc (.cells #[.bool false, .bool true, .int .i64 0, .int .i64 0, .bool false, .bool false, .slice none 0 0] 61)).alloc (.cells #[.bool false, .bool true, .int .i64 0, .int .i64 0, .bool false, .bool false, .slice none 0 0] 61)) := by go_grown
 have A8 : Cells ((w7.alloc (.cells #[.bool false, .bool true, .int .i64 0, .int .i64 0, .bool false, .bool false, .slice none 0 0] 61)).alloc (.cells #[.bool false, .bool true, .int .i64 0, .int .i64 0, .bool false, .bool false, .slice none 0 0] 61)) w7.heap.size [.bool false, .bool true, .int .i64 0, .int .i64 0, .bool false, .bool false, .slice none 0 0] := (Cells.new w7 61 [.bool false, .bool true, .int .i64 0, .int .i64 0, .bool false, .bool false, .slice none 0 0]).call (by go_grown)
 have E8 : Cells ((w7.alloc (.cells #[.bool false, .bool true, .int .i64 0, .int .i64 0, .bool false, .bool false, .slice none 0 0] 61)).alloc (.cells #[.bool false, .bool true, .int .i64 0, .int .i64 0, .bool false, .bool false, .slice none 0 0] 61)) (w7.heap.size + 1) [.bool false, .bool true, .int .i64 0, .int .i64 0, .bool false, .bool false, .slice none 0 0] := by
  have h := Cells.new (w7.alloc (.cells #[.bool false, .bool true, .int .i64 0, .int .i64 0, .bool false, .bool false, .slice none 0 0] 61)) 61 [.bool false, .bool true, .int .i64 0, .int .i64 0, .bool false, .bool false, .slice none 0 0]
  rw [World.size_alloc] at h
  exact h
 generalize (w7.alloc (.cells #[.bool false, .bool true, .int .i64 0, .int .i64 0, .bool false, .bool false, .slice none 0 0] 61)).alloc (.cells #[.bool false, .bool true, .int .i64 0, .int .i64 0, .bool false, .bool false, .slice none 0 0] 61) = w8 at *
 have hb48 : Below w4.heap.size w4 w8 := hb5.trans (((hb6.trans (hb7.mono hb6.size)).trans (hb8.mono (hb6.trans (hb7.mono hb6.size)).size)).mono hb5.size)
 have hb28 : Below w2.heap.size w2 w8 := (hb3.trans (hb4.mono hb3.size)).trans (hb48.mono (hb3.trans (hb4.mono hb3.size)).size)
 have hb38 : Below w3.heap.size w3 w8 := hb4.trans (hb48.mono hb4.size)
 have O8 := O5.call ((hb6.trans (hb7.mono hb6.size)).trans (hb8.mono (hb6.trans (hb7.mono hb6.size)).size))
 have P8 := P2.call hb28
 have X8 := X2.call hb28
 have I8 := I2.call hb28
 have Y8 := Y4.call hb48
 have B8 := B2.trans (hb28.mono B2.size)
 have HORD : Hid (w.heap.size + 1 + 1 + 1 ≤ w3.heap.size ∧ w3.heap.size < w4.heap.size ∧ w4.heap.size < w7.heap.size) := by
  have h1 := hb3.size
  have h2 := HZ2.out
  have h3 := Z4.out
  have h4 := hb6.size
  have h5 := hb7.size
  have h6 := O5.2.1
  exact ⟨by omega, by omega, by omega⟩
 have HPG : Hid (PicG (fun b => w.heap.size ≤ b) (w.heap.size + 1 + 1 + 1) w3 v gs gc L) := by
  show PicG _ _ _ _ _ _ _
  rw [← HZ2.out]
  exact PG.mono fun b hb _ => by have := HZ2.out; omega
 have HB8 := hideH hb38
 clear PG hb3 hb4 hb5 hb6 hb7 hb8 hb48 hb28 hb38 P2 X2 I2 Y4 O5 B2 Z4 HZ2
 have i0 := I8.1 0 _ rfl
 go_wp2_with (go_at_call 22; fail)
 refine (HNA.out w8).mono ?_
 rintro e wz ⟨rfl, ew⟩
 rw [ew]
 clear ew wz i0
 have x1 := X8.1 1 _ rfl
 have i2 := I8.1 2 _ rfl
 rw [HKAV.out] at i2
 obtain ⟨bka, oka, eka, Ska, sska, gcka, Gka, IkaI, kka1, kka2⟩ := HIN.out.1 ka hkax
 rw [eka] at x1
 clear eka
 obtain ⟨⟨u0, u1, u2, u3, u4, u5, u6⟩, uz⟩ := Gka.below B8 (Nat.le_refl _)
 have r0 := A8.1 0 _ rfl
 have fr0 := A8.2.2 0
 have r1 := A8.1 1 _ rfl
 have fr1 := A8.2.2 1
 have r2 := A8.1 2 _ rfl
 have fr2 := A8.2.2 2
 have r3 := A8.1 3 _ rfl
 have fr3 := A8.2.2 3
 have r4 := A8.1 4 _ rfl
 have fr4 := A8.2.2 4
 have r5 := A8.1 5 _ rfl
 have fr5 := A8.2.2 5
 have r6 := A8.1 6 _ rfl
 have fr6 := A8.2.2 6
 have q0 : (0 : Int) ≤ (ka : Int) := by omega
 have q1 : (ka : Int) < (x.vars.length : Int) := by omega
 go_upto_region 9 with fail
 clear r0 fr0 r1 fr1 r2 fr2 r3 fr3 r4 fr4 r5 fr5 r6 fr6
 obtain ⟨w9, ew9⟩ : ∃ q, q = setL w8 (w7.heap.size) 0 [.bool x.vars[ka].n, .bool x.vars[ka].sp.n, .int .i64 x.vars[ka].sp.lo, .int .i64 x.vars[ka].sp.hi, .bool x.vars[ka].t, .bool x.vars[ka].f, .slice sska x.vars[ka].s.length gcka] := ⟨_, rfl⟩
 have PU := put_some A8 0 _ ew9
 simp only [setL] at ew9
 rw [← ew9]
 clear ew9
 have A9 := PU.cells
 have o1 := HORD.out
 have P9 := PU.keep P8
 have X9 := PU.keep X8
 have I9 := PU.keep I8
 have Y9 := PU.keep Y8
 have O9 := PU.keep O8
 have E9 := PU.keep E8
 have B9 := PU.low (by omega) B8
 have HB9 := hideH (PU.low (by omega) HB8.out)
 clear A8 E8 P8 X8 I8 Y8 O8 B8 HB8 o1 x1 i2 u0 u1 u2 u3 u4 u5 u6 uz q0 q1 PU
 have i0 := I9.1 0 _ rfl
 go_wp2_with (go_at_call 23; fail)
 refine (HNB.out w9).mono ?_
 rintro e wz ⟨rfl, ew⟩
 rw [ew]
 clear ew wz
 have x1 := X9.1 1 _ rfl
 have i3 := I9.1 3 _ rfl
 rw [HKBV.out] at i3
 obtain ⟨bkb, okb, ekb, Skb, sskb, gckb, Gkb, IkbI, kkb1, kkb2⟩ := HIN.out.1 kb hkbx
 rw [ekb] at x1
 clear ekb
 obtain ⟨⟨u0, u1, u2, u3, u4, u5, u6⟩, uz⟩ := Gkb.below B9 (Nat.le_refl _)
 have r0 := E9.1 0 _ rfl
 have fr0 := E9.2.2 0
 have r1 := E9.1 1 _ rfl
 have fr1 := E9.2.2 1
 have r2 := E9.1 2 _ rfl
 have fr2 := E9.2.2 2
 have r3 := E9.1 3 _ rfl
 have fr3 := E9.2.2 3
 have r4 := E9.1 4 _ rfl
 have fr4 := E9.2.2 4
 have r5 := E9.1 5 _ rfl
 have fr5 := E9.2.2 5
 have r6 := E9.1 6 _ rfl
 have fr6 := E9.2.2 6
 have q0 : (0 : Int) ≤ (kb : Int) := by omega
 have q1 : (kb : Int) < (x.vars.length : Int) := by omega
 go_upto_region 11 with fail
 clear r0 fr0 r1 fr1 r2 fr2 r3 fr3 r4 fr4 r5 fr5 r6 fr6
 obtain ⟨w10, ew10⟩ : ∃ q, q = setL w9 ((w7.heap.size + 1)) 0 [.bool x.vars[kb].n, .bool x.vars[kb].sp.n, .int .i64 x.vars[kb].sp.lo, .int .i64 x.vars[kb].sp.hi, .bool x.vars[kb].t, .bool x.vars[kb].f, .slice sskb x.vars[kb].s.length gckb] := ⟨_, rfl⟩
 have PU := put_some E9 0 _ ew10
 simp only [setL] at ew10
 rw [← ew10]
 clear ew10
 have E10 := PU.cells
 have o1 := HORD.out
 have P10 := PU.keep P9
 have X10 := PU.keep X9
 have I10 := PU.keep I9
 have Y10 := PU.keep Y9
 have O10 := PU.keep O9
 have A10 := PU.keep A9
 have B10 := PU.low (by omega) B9
 have HB10 := hideH (PU.low (by omega) HB9.out)
 clear A9 E9 P9 X9 I9 Y9 O9 B9 HB9 o1 x1 i3 u0 u1 u2 u3 u4 u5 u6 uz q0 q1 PU
 go_wp2_with (go_at_call 21; fail)
 refine (HNO.out w10).mono ?_
 rintro e w11 ⟨rfl, hb11⟩
 clear i0
 go_upto_region 12 with fail
 have hb12 : Below w11.heap.size w11 (w11.alloc (.cells #[.bool false, .bool true, .int .i64 0, .int .i64 0, .bool false, .bool false, .slice none 0 0] 61)) := by go_grown
 have T12 : Cells (w11.alloc (.cells #[.bool false, .bool true, .int .i64 0, .int .i64 0, .bool false, .bool false, .slice none 0 0] 61)) w11.heap.size [.bool false, .bool true, .int .i64 0, .int .i64 0, .bool false, .bool false, .slice none 0 0] := Cells.new w11 61 [.bool false, .bool true, .int .i64 0, .int .i64 0, .bool false, .bool false, .slice none 0 0]
 have hb1012 : Below w10.heap.size w10 (w11.alloc (.cells #[.bool false, .bool true, .int .i64 0, .int .i64 0, .bool false, .bool false, .slice none 0 0] 61)) := hb11.trans (hb12.mono hb11.size)
 generalize w11.alloc (.cells #[.bool false, .bool true, .int .i64 0, .int .i64 0, .bool false, .bool false, .slice none 0 0] 61) = wp at *
 have SP : Hid (SPre T V F s c cap (m : Int) i x vs vc fs fc w wp (w.heap.size + 1 + 1) w3.heap.size w4.heap.size w7.heap.size (w7.heap.size + 1) w11.heap.size w3 v gs gc L x.vars[ka] sska gcka x.vars[kb] sskb gckb) := by
  have o := HORD.out
  have o2 := E10.2.1
  have o3 := hb11.size
  exact ⟨B10.trans (hb1012.mono B10.size), P10.call hb1012, X10.call hb1012, I10.call hb1012, Y10.call hb1012, O10.call hb1012, A10.call hb1012, E10.call hb1012, T12, ⟨IkaI, kka1, kka2⟩, ⟨IkbI, kkb1, kkb2⟩, HPG.out, HB10.out.trans (hb1012.mono HB10.out.size), rfl, EX.out, rfl, by omega, by omega, by omega, by omega, by omega⟩
 clear A10 B10 P10 X10 I10 Y10 O10 E10 T12 HPG HB10 hb11 hb12 hb1012 EX HORD HNO HNA HNB HIN
 refine wp_region_lit ?_
 refine tL (.bool false) ?_
 refine sm ?_
 refine wpList_nil ?_
 rename_i K9 hK9
 refine hK9 _ _ (drop_wp rfl (HH.out w3 w4 w7 w11 wp v gs gc L ka sska gcka hkax HKAV.out kb sskb gckb hkbx HKBV.out SP _ _ _ _ (by rfl)))
end
end Go.Proofs.YtmapdpcfanecdabGreat
