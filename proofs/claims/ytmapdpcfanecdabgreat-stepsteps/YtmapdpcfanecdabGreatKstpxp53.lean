/- The document's step: a test, where it is false. -/
import Derived.Test.YtmapdpcfanecdabGreatKstpxp52
import Derived.Test.YtmapdpcfanecdabGreatKstpxp07
import Derived.Deep.RegionHeld
import Derived.WalkKit
import Derived.WalkSpells
import Derived.WalkLawsBesides
import Derived.Handy
import Derived.Deep.DeepCutAuto
set_option linter.unusedSimpArgs false
set_option linter.unusedVariables false
namespace Go.Proofs.YtmapdpcfanecdabGreat
section
set_option maxHeartbeats 8000000
set_option maxRecDepth 20000
open Go.RowKit
attribute [local go_sem ↓] Go.wp_at_zero Go.wp_at_succ

theorem heap_set7_at {w w' : World} {b k : Nat} {x : Gc} (h : w'.heap[b]? = w.heap[b]?) : (set7 w' b k x).heap[b]? = (set7 w b k x).heap[b]? := by
 simp only [set7, World.setCell, Array.getElem?_modify, if_true, h]
theorem test_nend {K K4 : Act → World → Prop} {R : Ending → World → Prop} {c' : Code} {z : Nat → Value} {tl : List Value} {m : Nat} {i : Ins} {x : Pic} {w w3 : World} {b4 ka N : Nat} {v : Ro} {gs : Option Addr} {gc : Nat} {L : List Ro} {ev : List Ed} {es : Option Addr} {ec : Nat} {fg : Gs} {vb2 : Nat} {y19 y20 y21 y22 y23 : Value} {ws : World} (hc : goC [1, 1, 1, 1, 1, 1, 1, 1, 1, 1, 0, 1, 0, 1, 1, 1, 1, 1, 1, 1, 0, 1, 1, 1, 1, 0, 1, 0, 1, 1, 1] Tryz.f7.body = some c') (hl : tl.length = 313) (h9 : z 9 = .pointer (some ⟨w.heap.size + 1 + 1, 0, none⟩)) (h10 : z 10 = .pointer (some ⟨w3.heap.size, 0, none⟩)) (h11 : z 11 = .slice (some ⟨b4, 0, none⟩) 1 1) (eka : i.a = (ka : Int)) (ex : x = picOf false v L) (GOW : PicG (fun b => w.heap.size ≤ b) (w.heap.size + 1 + 1 + 1) w3 v gs gc L) (o2 : w.heap.size + 1 + 1 + 1 ≤ w3.heap.size) (o3 : w3.heap.size < b4) (o4 : b4 < N) (hL10 : ev.length ≤ 10) (hkv : ka < v.l.length) (hfs : fg.s = []) (IS : Cells ws (w.heap.size + 1 + 1) [.int .i64 i.k, .int .i64 i.to, .int .i64 i.a, .int .i64 i.b, .int .i64 i.n, .int .i64 i.g]) (YS : Cells ws w3.heap.size [.bool false, .slice v.rs v.l.length v.rc, .slice gs L.length gc]) (OS : Cells ws b4 [.int .i64 ((m : Int) + 1), .bool false, .slice v.rs v.l.length v.rc, .slice gs L.length gc]) (YW : Below w3.heap.size w3 ws) (BS : Below w.heap.size w ws) (ES : ERow N w3.heap.size ws (.slice es ev.length ec) ev) (CS : Cells ws vb2 [.bool fg.n, .bool fg.sp.n, .int .i64 fg.sp.lo, .int .i64 fg.sp.hi, .bool fg.t, .bool fg.f, .slice none 0 0])
  (H : ∀ (ev' : List Ed) (t18 : Value) (w' : World) (tl' : List Value), tl'.length = 319 → ERow w.heap.size w3.heap.size w' t18 ev' → Hid (ev'.map edG = ev.map edG ++ [⟨(m : Int) + 1, setVar x i.a fg⟩]) → Below w.heap.size w w' → K ⟨((List.range 18).map z ++ t18 :: tl').toArray, []⟩ w') : c'.wp Tryz.prog (Exit.then K (Exit.inBlock 0 (Exit.then K4 (bodyPost Tryz.prog Tryz.f7 R)))) ⟨((List.range 18).map z ++ .slice es ev.length ec :: y19 :: y20 :: y21 :: y22 :: y23 :: .pointer (some ⟨vb2, 0, none⟩) :: tl).toArray, []⟩ ws := by
 obtain ⟨u, rfl⟩ := list_u tl _ hl
 refine sub_of hc rfl ?_
 simp only [List.range, List.range.loop, List.map, List.cons_append, List.nil_append, h9, h10, h11] at H ⊢
 have HH := hideH H
 clear H hc hl
 have HKAV := hideH eka
 have EPW := hideH ex
 have PHS := GOW.call YW
 obtain ⟨vb, evb, evB, hvb, zvb⟩ := GOW.vars.form (by omega)
 have HEV := hideH evb
 have HFS := hideH hfs
 have zw3 := YW.size
 have GC : GcIn (fun b => w.heap.size ≤ b ∧ Off v (Value.slice gs L.length gc).ownBlock L b) ws ⟨fg, none, 0⟩ := ⟨.inl hfs, by rw [show (⟨fg, none, 0⟩ : Gc).g.s = [] from hfs]; exact Nat.le_refl _, Nat.zero_le _⟩
 have GC3 : GcIn (fun b => w.heap.size ≤ b ∧ Off v (Value.slice gs L.length gc).ownBlock L b) w3 ⟨fg, none, 0⟩ := ⟨.inl hfs, by rw [show (⟨fg, none, 0⟩ : Gc).g.s = [] from hfs]; exact Nat.le_refl _, Nat.zero_le _⟩
 clear eka ex evb evB hfs h9 h10 h11
 obtain ⟨⟨u0, u1, u2, u3, u4, u5, u6⟩, uz⟩ := PHS.vars.gu HEV.out (k := ka) hkv
 have TH := PHS.vars.thaw HEV.out
 have f0 := TH (ka * 7)
 have f1 := TH (ka * 7 + 1)
 have f2 := TH (ka * 7 + 2)
 have f3 := TH (ka * 7 + 3)
 have f4 := TH (ka * 7 + 4)
 have f5 := TH (ka * 7 + 5)
 have f6 := TH (ka * 7 + 6)
 have g1 := YS.1 1 _ rfl
 rw [HEV.out] at g1
 have i2 := IS.1 2 _ rfl
 rw [HKAV.out] at i2
 have t0 := CS.1 0 _ rfl
 have t1 := CS.1 1 _ rfl
 have t2 := CS.1 2 _ rfl
 have t3 := CS.1 3 _ rfl
 have t4 := CS.1 4 _ rfl
 have t5 := CS.1 5 _ rfl
 have t6 := CS.1 6 _ rfl
 obtain ⟨wz, ewz⟩ : ∃ q, q = set7 ws vb ka ⟨fg, none, 0⟩ := ⟨_, rfl⟩
 have GV := PHS.setV HEV.out hkv GC
 have EDZ : EdIn (fun b => w.heap.size ≤ b ∧ b < w3.heap.size) wz ⟨(m : Int) + 1, picOf false ⟨v.rs, v.rc, v.l.set ka ⟨fg, none, 0⟩⟩ L, v.rs, v.rc, gs, gc⟩ := by
  have G3 := GOW.setV HEV.out hkv GC3
  have P3 := (G3.on false).mono (S' := fun b => w.heap.size ≤ b ∧ b < w3.heap.size) fun b hb hlt => ⟨by rcases hb with hb | hb <;> omega, by rw [size_set7] at hlt; exact hlt⟩
  refine ⟨?_, G3.vcap false, G3.fcap' false⟩
  rw [ewz]
  refine (P3.same (fun b hb _ => ?_) (by rw [size_set7, size_set7]; exact zw3)).mono fun b hb _ => hb.1
  by_cases e : b = vb
  ·rw [e]; exact heap_set7_at (YW.block vb zvb)
  ·rw [heap_set7 e, heap_set7 e]; exact YW.block b hb.2
 have HF : Hid (Cells wz b4 [.int .i64 ((m : Int) + 1), .bool false, .slice v.rs v.l.length v.rc, .slice gs L.length gc] ∧ ERow N w3.heap.size wz (.slice es ev.length ec) ev ∧ Below w.heap.size w wz) := by
  rw [ewz]
  exact ⟨OS.same (heap_set7 (by omega)) (by rw [size_set7]; exact Nat.le_refl _), ES.same (fun b hb _ _ => heap_set7 (by omega)) (by rw [size_set7]; exact Nat.le_refl _), below_set7 BS (by omega)⟩
 have HED := hideH EDZ
 have q0 : (0 : Int) ≤ (ka : Int) := by omega
 have q1 : (ka : Int) < (v.l.length : Int) := by omega
 clear OS ES BS GV PHS GC GC3 TH CS YS IS EDZ GOW YW
 go_upto_region 53 with fail
 clear u0 u1 u2 u3 u4 u5 u6 uz f0 f1 f2 f3 f4 f5 f6 t0 t1 t2 t3 t4 t5 t6 g1 i2
 simp only [set7, HFS.out, List.length_nil] at ewz
 rw [← ewz]
 clear ewz
 obtain ⟨OZ, EZ, BZ⟩ := HF.out
 have E0 := EZ.down (n' := w.heap.size) (by omega)
 have zz := BZ.size
 have zo := OZ.2.1
 have EDI : EdIn (fun b => w.heap.size ≤ b ∧ b ≠ w3.heap.size ∧ (Value.slice es ev.length ec).ownBlock ≠ some b) wz ⟨(m : Int) + 1, picOf false ⟨v.rs, v.rc, v.l.set ka ⟨fg, none, 0⟩⟩ L, v.rs, v.rc, gs, gc⟩ := ⟨HED.out.1.mono fun b hb _ => ⟨hb.1, by omega, fun e => by have := (ownsI_lt EZ.own e).2; omega⟩, HED.out.2⟩
 have HNW : Hid (∀ ad, some (⟨b4, 0, none⟩ : Addr) = some ad → ∀ j u, (edCells ⟨(m : Int) + 1, picOf false ⟨v.rs, v.rc, v.l.set ka ⟨fg, none, 0⟩⟩ L, v.rs, v.rc, gs, gc⟩)[j]? = some u → wz.cell? (ad.add j) = some u) := fun ad e j u hj => by
  cases e
  rw [Addr.add_lit, Nat.zero_add]
  exact OZ.1 j u (by simpa [edCells, picOf, roG] using hj)
 clear HF OZ
 obtain ⟨tk, hik, hik0, hik1, hik2⟩ := info_parts Tryz.info_edge
 go_wp2_with (at_builtin; refine wpList_append_any _ rfl _ _ 29 rfl w.heap.size 56 tk (.agg #[.int .i64 0, .bool false, .slice none 0 0, .slice none 0 0]) 4 64 Tryz.underlying29 hik hik0 hik1 hik2 rfl (by decide) _ _ _ rfl E0.own (some ⟨b4, 0, none⟩) 1 1 (edCells ⟨(m : Int) + 1, picOf false ⟨v.rs, v.rc, v.l.set ka ⟨fg, none, 0⟩⟩ L, v.rs, v.rc, gs, gc⟩) rfl rfl (fun h => by cases h) HNW.out (edCells_one _) ?qc4 ?qc5 ?qc6 ?_)
 (try (case qc4 => unfold maxLen; first | omega | (simp; done) | (simp; omega)))
 (try (case qc5 => first | omega | (simp; done) | (simp; omega)))
 (try (case qc6 => first | omega | (rw [World.size_alloc]; omega) | (simp; omega) | simp))
 intro ev' w6 hown hgrow hat
 have RW := E0.grown EDI hown hgrow hat (by omega)
 have B6 : Below w.heap.size w w6 := BZ.grown hgrow (by omega) (fun k hk => (ownsI_lt E0.own hk).2)
 go_wp2_with fail
 exact HH.out _ _ _ _ (by rfl) RW (by show _ = _; rw [List.map_append]; simp only [List.map, edG, picOf_setV]; rw [← EPW.out, HKAV.out]) B6
theorem test_no {K K4 : Act → World → Prop} {R : Ending → World → Prop} {c' : Code} {z : Nat → Value} {tl : List Value} {m : Nat} {i : Ins} {x : Pic} {w w3 : World} {b4 ka N : Nat} {v : Ro} {gs : Option Addr} {gc : Nat} {L : List Ro} {ev : List Ed} {es : Option Addr} {ec : Nat} {wc : World} (hc : goC [1, 1, 1, 1, 1, 1, 1, 1, 1, 1, 0, 1, 0, 1, 1, 1, 1, 1, 1, 1, 0, 1, 1, 1, 1, 0, 1, 0] Tryz.f7.body = some c') (hl : tl.length = 319) (h9 : z 9 = .pointer (some ⟨w.heap.size + 1 + 1, 0, none⟩)) (h10 : z 10 = .pointer (some ⟨w3.heap.size, 0, none⟩)) (h11 : z 11 = .slice (some ⟨b4, 0, none⟩) 1 1) (eka : i.a = (ka : Int)) (ex : x = picOf false v L) (GOW : PicG (fun b => w.heap.size ≤ b) (w.heap.size + 1 + 1 + 1) w3 v gs gc L) (o2 : w.heap.size + 1 + 1 + 1 ≤ w3.heap.size) (o3 : w3.heap.size < b4) (o4 : b4 < N) (hL10 : ev.length ≤ 10) (hkax : ka < x.vars.length) (IS : Cells wc (w.heap.size + 1 + 1) [.int .i64 i.k, .int .i64 i.to, .int .i64 i.a, .int .i64 i.b, .int .i64 i.n, .int .i64 i.g]) (YS : Cells wc w3.heap.size [.bool false, .slice v.rs v.l.length v.rc, .slice gs L.length gc]) (OS : Cells wc b4 [.int .i64 ((m : Int) + 1), .bool false, .slice v.rs v.l.length v.rc, .slice gs L.length gc]) (YW : Below w3.heap.size w3 wc) (BS : Below w.heap.size w wc) (ES : ERow N w3.heap.size wc (.slice es ev.length ec) ev)
  (H : ∀ (ev' : List Ed) (t18 : Value) (w' : World) (tl' : List Value), tl'.length = 319 → ERow w.heap.size w3.heap.size w' t18 ev' → Hid (ev'.map edG = ev.map edG ++ [⟨(m : Int) + 1, setVar x i.a (falseGs x.vars[ka])⟩]) → Below w.heap.size w w' → K ⟨((List.range 18).map z ++ t18 :: tl').toArray, []⟩ w') : c'.wp Tryz.prog (Exit.then K (Exit.inBlock 0 (Exit.then K4 (bodyPost Tryz.prog Tryz.f7 R)))) ⟨((List.range 18).map z ++ .slice es ev.length ec :: tl).toArray, []⟩ wc := by
 have hkv : ka < v.l.length := by have h := hkax; rw [ex] at h; simpa [picOf, roG] using h
 have HIS : Hid (∀ wx, Calls Tryz.prog 25 #[.agg #[.bool x.vars[ka].sp.n, .int .i64 x.vars[ka].sp.lo, .int .i64 x.vars[ka].sp.hi], .int .i64 0] wx fun e w' => e = .returned (.bool (x.vars[ka].sp.has 0)) ∧ Below wx.heap.size wx w') := fun wx => inSpan_any x.vars[ka].sp 0 wx
 have HE0 : Hid (∀ ws y19 y20 y21 y22 y23 vb2 (tl' : List Value), tl'.length = 313 → Below wc.heap.size wc ws → Cells ws vb2 [.bool (falseGs x.vars[ka]).n, .bool (falseGs x.vars[ka]).sp.n, .int .i64 (falseGs x.vars[ka]).sp.lo, .int .i64 (falseGs x.vars[ka]).sp.hi, .bool (falseGs x.vars[ka]).t, .bool (falseGs x.vars[ka]).f, .slice none 0 0] → ∀ c'', goC [1, 1, 1, 1, 1, 1, 1, 1, 1, 1, 0, 1, 0, 1, 1, 1, 1, 1, 1, 1, 0, 1, 1, 1, 1, 0, 1, 0, 1, 1, 1] Tryz.f7.body = some c'' → c''.wp Tryz.prog (Exit.then K (Exit.inBlock 0 (Exit.then K4 (bodyPost Tryz.prog Tryz.f7 R)))) ⟨((List.range 18).map z ++ .slice es ev.length ec :: y19 :: y20 :: y21 :: y22 :: y23 :: .pointer (some ⟨vb2, 0, none⟩) :: tl').toArray, []⟩ ws) := fun ws y19 y20 y21 y22 y23 vb2 tl' hl' hb hp c'' hc'' =>
  test_nend hc'' hl' h9 h10 h11 eka ex GOW o2 o3 o4 hL10 hkv rfl (IS.call hb) (YS.call hb) (OS.call hb) (YW.trans (hb.mono YW.size)) (BS.trans (hb.mono BS.size)) (ES.call hb) hp H
 have HKAV := hideH eka
 have EPW := hideH ex
 obtain ⟨u, rfl⟩ := list_u tl _ hl
 refine sub_of hc rfl ?_
 simp only [List.range, List.range.loop, List.map, List.cons_append, List.nil_append, h9, h10, h11] at H ⊢
 have HH := hideH H
 clear H hc hl
 simp only [List.range, List.range.loop, List.map, List.cons_append, List.nil_append, h9, h10, h11] at HE0
 clear HH
 obtain ⟨vb, evb, evB, hvb, zvb⟩ := GOW.vars.form (by omega)
 obtain ⟨y, EY0⟩ : ∃ y, v.l[ka] = y := ⟨_, rfl⟩
 have EYG : y.g = x.vars[ka] := by
  have : ∀ (z : Pic) (h : ka < z.vars.length) (hz : z = picOf false v L), z.vars[ka] = v.l[ka].g := by intro z h hz; subst hz; simp [picOf, roG]
  rw [this x hkax EPW.out, EY0]
 have GU := (GOW.call YW).vars.gu evb (k := ka) hkv
 rw [EY0] at GU
 obtain ⟨⟨u0, u1, u2, u3, u4, u5, u6⟩, uz⟩ := GU
 rw [EYG] at u0 u1 u2 u3 u4 u5 u6
 have g1 := YS.1 1 _ rfl
 rw [evb] at g1
 have i2 := IS.1 2 _ rfl
 rw [HKAV.out] at i2
 have q0 : (0 : Int) ≤ (ka : Int) := by omega
 have q1 : (ka : Int) < (v.l.length : Int) := by omega
 clear evb evB EY0 EYG IS YS OS YW BS ES GOW eka ex h9 h10 h11
 go_upto_region 48 with fail
 clear g1 i2 u0 u1 u2 u3 u4 u5 u6 uz
 have hwi : Below wc.heap.size wc (wc.alloc (.cells #[.bool x.vars[ka].n, .bool x.vars[ka].sp.n, .int .i64 x.vars[ka].sp.lo, .int .i64 x.vars[ka].sp.hi, .bool x.vars[ka].t, .bool x.vars[ka].f, .slice y.ss x.vars[ka].s.length y.cap] 61)) := by go_grown
 have VI : Cells (wc.alloc (.cells #[.bool x.vars[ka].n, .bool x.vars[ka].sp.n, .int .i64 x.vars[ka].sp.lo, .int .i64 x.vars[ka].sp.hi, .bool x.vars[ka].t, .bool x.vars[ka].f, .slice y.ss x.vars[ka].s.length y.cap] 61)) wc.heap.size [.bool x.vars[ka].n, .bool x.vars[ka].sp.n, .int .i64 x.vars[ka].sp.lo, .int .i64 x.vars[ka].sp.hi, .bool x.vars[ka].t, .bool x.vars[ka].f, .slice y.ss x.vars[ka].s.length y.cap] := Cells.new wc 61 [.bool x.vars[ka].n, .bool x.vars[ka].sp.n, .int .i64 x.vars[ka].sp.lo, .int .i64 x.vars[ka].sp.hi, .bool x.vars[ka].t, .bool x.vars[ka].f, .slice y.ss x.vars[ka].s.length y.cap]
 have zwi : Hid ((wc.alloc (.cells #[.bool x.vars[ka].n, .bool x.vars[ka].sp.n, .int .i64 x.vars[ka].sp.lo, .int .i64 x.vars[ka].sp.hi, .bool x.vars[ka].t, .bool x.vars[ka].f, .slice y.ss x.vars[ka].s.length y.cap] 61)).heap.size = wc.heap.size + 1) := by show _ = _; simp
 generalize wc.alloc (.cells #[.bool x.vars[ka].n, .bool x.vars[ka].sp.n, .int .i64 x.vars[ka].sp.lo, .int .i64 x.vars[ka].sp.hi, .bool x.vars[ka].t, .bool x.vars[ka].f, .slice y.ss x.vars[ka].s.length y.cap] 61) = wi at *
 generalize eVB : wc.heap.size = vb2 at *
 have c4 := VI.1 4 _ rfl
 have c6 := VI.1 6 _ rfl
 have d4 := VI.2.2 4
 have d6 := VI.2.2 6
 go_upto_region 49 with fail
 clear c4 c6 d4 d6
 obtain ⟨wj, ewj⟩ : ∃ q, q = setL wi vb2 4 [.bool false] := ⟨_, rfl⟩
 have PJ : Put vb2 wi wj [.bool x.vars[ka].n, .bool x.vars[ka].sp.n, .int .i64 x.vars[ka].sp.lo, .int .i64 x.vars[ka].sp.hi, .bool false, .bool x.vars[ka].f, .slice y.ss x.vars[ka].s.length y.cap] := put_some VI 4 _ ewj
 simp only [setL] at ewj
 rw [← ewj]
 clear ewj
 obtain ⟨wv, ewv⟩ : ∃ q, q = setL wj vb2 6 [.slice none 0 0] := ⟨_, rfl⟩
 have PK : Put vb2 wj wv [.bool x.vars[ka].n, .bool x.vars[ka].sp.n, .int .i64 x.vars[ka].sp.lo, .int .i64 x.vars[ka].sp.hi, .bool false, .bool x.vars[ka].f, .slice none 0 0] := put_some PJ.cells 6 _ ewv
 simp only [setL] at ewv
 rw [← ewv]
 clear ewv
 have PV := PJ.trans PK
 have c1 := PV.cells.1 1 _ rfl
 have c2 := PV.cells.1 2 _ rfl
 have c3 := PV.cells.1 3 _ rfl
 go_wp2_with (go_at_call 25; fail)
 refine (HIS.out wv).mono ?_
 rintro e wk ⟨rfl, hbk⟩
 have CK := PV.cells.call hbk
 have hbw : Below vb2 wc wk := (PV.low (Nat.le_refl _) hwi).trans (hbk.mono (by have := PV.size; have := zwi.out; omega))
 clear c1 c2 c3 PJ PK PV VI HIS
 go_upto_if 164 with fail
 rename_i K9 hK9
 have HK9 := hideH hK9
 clear hK9
 rcases Bool.eq_false_or_eq_true (x.vars[ka].sp.has 0) with hs0 | hs0
 ·have hsn := hideH hs0
  rw [hs0]
  clear hs0
  refine wp_cond_split rfl (fun h => ?_) (fun h => ?_)
  rotate_left
  ·cases h
  have k1 := CK.1 1 _ rfl
  have fk1 := CK.2.2 1
  have k2 := CK.1 2 _ rfl
  have fk2 := CK.2.2 2
  have k3 := CK.1 3 _ rfl
  have fk3 := CK.2.2 3
  go_wp2_with fail
  obtain ⟨ws, es'⟩ : ∃ q, q = setL wk vb2 1 [.bool false, .int .i64 0, .int .i64 0] := ⟨_, rfl⟩
  have PS := put_some CK 1 _ es'
  simp only [setL] at es'
  rw [← es']
  refine HK9.out _ _ (HE0.out ws _ _ _ _ _ _ _ (by rfl) (PS.low (Nat.le_refl _) hbw) ?_ _ rfl)
  have h := PS.cells
  have e : (falseGs x.vars[ka]) = ⟨x.vars[ka].n, ⟨false, 0, 0⟩, false, x.vars[ka].f, []⟩ := by unfold falseGs; rw [hsn.out]; rfl
  rw [e]
  exact h
 ·have hsn := hideH hs0
  rw [hs0]
  clear hs0
  refine wp_cond_split rfl (fun h => ?_) (fun h => ?_)
  skip
  ·cases h
  have k1 := CK.1 1 _ rfl
  have fk1 := CK.2.2 1
  have k2 := CK.1 2 _ rfl
  have fk2 := CK.2.2 2
  have k3 := CK.1 3 _ rfl
  have fk3 := CK.2.2 3
  go_wp2_with fail
  obtain ⟨ws, es'⟩ : ∃ q, q = setL wk vb2 1 [.bool true, .int .i64 0, .int .i64 0] := ⟨_, rfl⟩
  have PS := put_some CK 1 _ es'
  simp only [setL] at es'
  rw [← es']
  refine HK9.out _ _ (HE0.out ws _ _ _ _ _ _ _ (by rfl) (PS.low (Nat.le_refl _) hbw) ?_ _ rfl)
  have h := PS.cells
  have e : (falseGs x.vars[ka]) = ⟨x.vars[ka].n, ⟨true, 0, 0⟩, false, x.vars[ka].f, []⟩ := by unfold falseGs; rw [hsn.out]; rfl
  rw [e]
  exact h
end
end Go.Proofs.YtmapdpcfanecdabGreat
