/- The document's step: a test, where it is true. -/
import Derived.Test.YtmapdpcfanecdabGreatKstpxp47
import Derived.Test.YtmapdpcfanecdabGreatKstpxp29
import Derived.Test.YtmapdpcfanecdabGreatKstpxp18
import Derived.Test.YtmapdpcfanecdabGreatKstpxp15
import Derived.Test.YtmapdpcfanecdabGreatKstpxp06
import Derived.Test.YtmapdpcfanecdabGreatKstpxp08
import Derived.Deep.DeepCutAuto
import Derived.Test.YtmapdpcfanecdabGreatKstpxp07
import Derived.Deep.RegionHeld
import Derived.WalkKit
import Derived.WalkSpells
import Derived.WalkLawsBesides
import Derived.Handy
set_option linter.unusedSimpArgs false
set_option linter.unusedVariables false
namespace Go.Proofs.YtmapdpcfanecdabGreat
section
set_option maxHeartbeats 8000000
set_option maxRecDepth 20000
open Go.RowKit
attribute [local go_sem ↓] Go.wp_at_zero Go.wp_at_succ

/-- A part of a text: 0 the left of a sequence, the first of two ways, 1 the other. -/
def goC : List Nat → Option Code → Option Code
 | [], o => o
 | 0 :: p, some (.seq a _) => goC p (some a)
 | _ :: p, some (.seq _ b) => goC p (some b)
 | 0 :: p, some (.cond _ a _) => goC p (some a)
 | _ :: p, some (.cond _ _ b) => goC p (some b)
 | _ :: p, some (.block _ c) => goC p (some c)
 | _ :: _, _ => none
theorem sub_of {P : Program} {Q : Exit → Act → World → Prop} {a : Act} {w : World} {o : Option Code} {c d : Code} (h : o = some c) (h' : o = some d) (hw : d.wp P Q a w) : c.wp P Q a w := by
 cases h.symm.trans h'
 exact hw
theorem ERow.down {n n' sb : Nat} {w : World} {v : Value} {L : List Ed} (h : ERow n sb w v L) (hn : n' ≤ n) : ERow n' sb w v L := ⟨ownsI_lower h.own hn, h.off, fun e he => ⟨(h.pics e he).1.mono fun _ hb _ => ⟨Nat.le_trans hn hb.1, hb.2⟩, (h.pics e he).2⟩⟩
theorem test_span {K K4 : Act → World → Prop} {R : Ending → World → Prop} {c' : Code} {z : Nat → Value} {tl : List Value} {K3 : Act → World → Prop} {vb2 : Nat} {slo shi : Int} {tb : Bool} {sv' : Value} {wv : World} (hc : goC [1, 1, 1, 1, 1, 1, 1, 1, 1, 1, 0, 1, 0, 1, 1, 1, 1, 1, 1, 1, 0, 1, 1, 0, 1, 0, 1, 1, 1, 0, 1, 0] Tryz.f7.body = some c') (hl : tl.length = 317) (hv : Cells wv vb2 [.bool false, .bool false, .int .i64 slo, .int .i64 shi, .bool tb, .bool false, sv']) (hle : slo ≤ shi)
  (H : ∀ (w' : World) (tl' : List Value), tl'.length = 317 → Put vb2 wv w' [.bool false, .bool (trueSp ⟨false, slo, shi⟩).n, .int .i64 (trueSp ⟨false, slo, shi⟩).lo, .int .i64 (trueSp ⟨false, slo, shi⟩).hi, .bool tb, .bool false, sv'] → K ⟨((List.range 20).map z ++ .pointer (some ⟨vb2, 0, none⟩) :: tl').toArray, []⟩ w') : c'.wp Tryz.prog (Exit.then K (Exit.then K3 (Exit.inBlock 0 (Exit.then K4 (bodyPost Tryz.prog Tryz.f7 R))))) ⟨((List.range 20).map z ++ .pointer (some ⟨vb2, 0, none⟩) :: tl).toArray, []⟩ wv := by
 obtain ⟨u, rfl⟩ := list_u tl _ hl
 refine sub_of hc rfl ?_
 simp only [List.range, List.range.loop, List.map, List.cons_append, List.nil_append] at H ⊢
 have HH := hideH H
 clear H hc hl
 have HDP : Hid (Put vb2 wv wv.drew [.bool false, .bool false, .int .i64 slo, .int .i64 shi, .bool tb, .bool false, sv']) := ⟨hv.call (Below.refl _ _).drew, fun _ _ => rfl, Nat.le_refl _, fun _ h => h.drew⟩
 clear hv
 go_upto_region 31 with fail
 refine wp_region_z (S := (fun wx => wx.cell? ⟨vb2, 2, none⟩ = some (.int .i64 slo) ∧ wx.cell? ⟨vb2, 3, none⟩ = some (.int .i64 shi))) [] (by kernel_rfl) ⟨HDP.out.cells.1 2 _ rfl, HDP.out.cells.1 3 _ rfl⟩ (fun hHeld => ?_)
 generalize wv.drew = wd at *
 refine tZ 0 ?_ ?_;refine sm ?_
 refine tZ 1 ?_ ?_;refine sm ?_
 refine tZ 2 ?_ ?_;refine sm ?_
 refine tZ 3 ?_ ?_;refine sm ?_
 refine tZ 4 ?_ ?_;refine sm ?_
 refine tZ 5 ?_ ?_;refine sm ?_
 refine tZ 6 ?_ ?_;refine sm ?_
 refine tZ 7 ?_ ?_;refine sm ?_
 refine wpAnyZ_done (by kernel_rfl) ?_ _
 have k1 := HDP.out.cells.1 1 _ rfl
 have fk1 := HDP.out.cells.2.2 1
 have k2 := HDP.out.cells.1 2 _ rfl
 have fk2 := HDP.out.cells.2.2 2
 have k3 := HDP.out.cells.1 3 _ rfl
 have fk3 := HDP.out.cells.2.2 3
 by_cases e1 : slo = 0
 ·have eb1 : (slo == 0) = true := by simpa using e1
  by_cases e2 : shi = 0
  ·have eb2 : (shi == 0) = true := by simpa using e2
   have HQ : Hid (trueSp ⟨false, slo, shi⟩ = ⟨true, 0, 0⟩) := by show _ = _; unfold trueSp; simp only [e1, e2]; simp; try omega
   clear e1 e2 hle
   go_wp2_with fail
   obtain ⟨wz, ez⟩ : ∃ q, q = setL wd vb2 1 [.bool false, .int .i64 1, .int .i64 (-1)] := ⟨_, rfl⟩
   have PZ : Put vb2 wd wz [.bool false, .bool false, .int .i64 1, .int .i64 (-1), .bool tb, .bool false, sv'] := put_some HDP.out.cells 1 _ ez
   obtain ⟨wy, ey⟩ : ∃ q, q = setL wz vb2 1 [.bool true, .int .i64 0, .int .i64 0] := ⟨_, rfl⟩
   have PY : Put vb2 wz wy [.bool false, .bool true, .int .i64 0, .int .i64 0, .bool tb, .bool false, sv'] := put_some PZ.cells 1 _ ey
   simp only [setL] at ey
   simp only [setL] at ez
   rw [← ez]
   rw [← ey]
   refine HH.out _ _ (by rfl) ?_
   rw [HQ.out]
   exact HDP.out.trans (PZ.trans PY)
  ·have eb2 : (shi == 0) = false := by simpa using e2
   have h3 : ¬ shi < 1 := by omega
   have HQ : Hid (trueSp ⟨false, slo, shi⟩ = ⟨false, 1, shi⟩) := by show _ = _; unfold trueSp; simp only [e1, e2]; simp; try omega
   clear e1 e2 hle
   go_wp2_with fail
   obtain ⟨wz, ez⟩ : ∃ q, q = setL wd vb2 1 [.bool false, .int .i64 1, .int .i64 shi] := ⟨_, rfl⟩
   have PZ : Put vb2 wd wz [.bool false, .bool false, .int .i64 1, .int .i64 shi, .bool tb, .bool false, sv'] := put_some HDP.out.cells 1 _ ez
   simp only [setL] at ez
   rw [← ez]
   refine HH.out _ _ (by rfl) ?_
   rw [HQ.out]
   exact HDP.out.trans PZ
 ·have eb1 : (slo == 0) = false := by simpa using e1
  by_cases e2 : shi = 0
  ·have eb2 : (shi == 0) = true := by simpa using e2
   have h3 : ¬ (-1 : Int) < slo := by omega
   have HQ : Hid (trueSp ⟨false, slo, shi⟩ = ⟨false, slo, -1⟩) := by show _ = _; unfold trueSp; simp only [e1, e2]; simp; try omega
   clear e1 e2 hle
   go_wp2_with fail
   obtain ⟨wz, ez⟩ : ∃ q, q = setL wd vb2 1 [.bool false, .int .i64 slo, .int .i64 (-1)] := ⟨_, rfl⟩
   have PZ : Put vb2 wd wz [.bool false, .bool false, .int .i64 slo, .int .i64 (-1), .bool tb, .bool false, sv'] := put_some HDP.out.cells 1 _ ez
   simp only [setL] at ez
   rw [← ez]
   refine HH.out _ _ (by rfl) ?_
   rw [HQ.out]
   exact HDP.out.trans PZ
  ·have eb2 : (shi == 0) = false := by simpa using e2
   have h3 : ¬ shi < slo := by omega
   have HQ : Hid (trueSp ⟨false, slo, shi⟩ = ⟨false, slo, shi⟩) := by show _ = _; unfold trueSp; simp only [e1, e2]; simp; try omega
   clear e1 e2 hle
   go_wp2_with fail
   obtain ⟨wz, ez⟩ : ∃ q, q = setL wd vb2 1 [.bool false, .int .i64 slo, .int .i64 shi] := ⟨_, rfl⟩
   have PZ : Put vb2 wd wz [.bool false, .bool false, .int .i64 slo, .int .i64 shi, .bool tb, .bool false, sv'] := put_some HDP.out.cells 1 _ ez
   simp only [setL] at ez
   rw [← ez]
   refine HH.out _ _ (by rfl) ?_
   rw [HQ.out]
   exact HDP.out.trans PZ
end
section
set_option maxHeartbeats 8000000
set_option maxRecDepth 20000
open Go.RowKit
attribute [local go_sem ↓] Go.wp_at_zero Go.wp_at_succ

theorem test_end {K K4 : Act → World → Prop} {R : Ending → World → Prop} {c' : Code} {z : Nat → Value} {tl : List Value} {m sb : Nat} {i : Ins} {x : Pic} {w wt : World} {ka : Nat} {v2 : Ro} {gs2 : Option Addr} {gc2 : Nat} {L2 : List Ro} {vb2 gb : Nat} {tg : Gs} {ss : Option Addr} {cp : Nat} {ws : World} (ta : Int) (hc : goC [1, 1, 1, 1, 1, 1, 1, 1, 1, 1, 0, 1, 0, 1, 1, 1, 1, 1, 1, 1, 0, 1, 1, 0, 1, 0, 1, 1, 1, 1] Tryz.f7.body = some c') (hl : tl.length = 317) (h1 : z 1 = .int .i64 (m : Int)) (h9 : z 9 = .pointer (some ⟨w.heap.size + 1 + 1, 0, none⟩)) (w61 : (m : Int) ≤ 60) (n0 : (0 : Int) ≤ (m : Int)) (hta : i.k = 17 ∧ ta = (m : Int) + 1 ∨ i.k = 15 ∧ ta = i.g) (eka : i.a = (ka : Int)) (hkv : ka < v2.l.length) (hzi : w.heap.size + 1 + 1 < wt.heap.size) (hsb : sb < wt.heap.size)
  (GHS : Cells ws gb [.bool false, .slice v2.rs v2.l.length v2.rc, .slice gs2 L2.length gc2]) (hgv : roB v2 ≠ some gb) (IHS : Cells ws (w.heap.size + 1 + 1) [.int .i64 i.k, .int .i64 i.to, .int .i64 i.a, .int .i64 i.b, .int .i64 i.n, .int .i64 i.g]) (PHS : PicG (fun b => wt.heap.size ≤ b) (wt.heap.size) ws v2 gs2 gc2 L2) (CS : Cells ws vb2 [.bool tg.n, .bool tg.sp.n, .int .i64 tg.sp.lo, .int .i64 tg.sp.hi, .bool tg.t, .bool tg.f, .slice ss tg.s.length cp]) (GC : GcIn (fun b => wt.heap.size ≤ b ∧ Off v2 (Value.slice gs2 L2.length gc2).ownBlock L2 b) ws ⟨tg, ss, cp⟩) (BTS : Below wt.heap.size wt ws) (ex2 : x = picOf false v2 L2)
  (H : ∀ (ev : List Ed) (t18 : Value) (w' : World) (tl' : List Value), tl'.length = 319 → ERow wt.heap.size sb w' t18 ev → Hid (ev.map edG = [⟨ta, setVar x i.a tg⟩]) → Below wt.heap.size wt w' → K ⟨((List.range 18).map z ++ t18 :: tl').toArray, []⟩ w') : c'.wp Tryz.prog (Exit.then K (Exit.inBlock 0 (Exit.then K4 (bodyPost Tryz.prog Tryz.f7 R)))) ⟨((List.range 18).map z ++ .slice none 0 0 :: .pointer (some ⟨gb, 0, none⟩) :: .pointer (some ⟨vb2, 0, none⟩) :: tl).toArray, []⟩ ws := by
 obtain ⟨u, rfl⟩ := list_u tl _ hl
 refine sub_of hc rfl ?_
 simp only [List.range, List.range.loop, List.map, List.cons_append, List.nil_append, h1, h9] at H ⊢
 have HH := hideH H
 clear H hc hl
 have HKAV := hideH eka
 have EPW := hideH ex2
 have HTA := hideH hta
 obtain ⟨vb, evb, evB, hvb, zvb⟩ := PHS.vars.form (by omega)
 have hgb : gb ≠ vb := fun e => hgv (by rw [evB, e])
 have HEV := hideH evb
 clear eka ex2 hta evb evB hgv h1 h9
 obtain ⟨⟨u0, u1, u2, u3, u4, u5, u6⟩, uz⟩ := PHS.vars.gu HEV.out (k := ka) hkv
 have TH := PHS.vars.thaw HEV.out
 have f0 := TH (ka * 7)
 have f1 := TH (ka * 7 + 1)
 have f2 := TH (ka * 7 + 2)
 have f3 := TH (ka * 7 + 3)
 have f4 := TH (ka * 7 + 4)
 have f5 := TH (ka * 7 + 5)
 have f6 := TH (ka * 7 + 6)
 have g1 := GHS.1 1 _ rfl
 rw [HEV.out] at g1
 have i2 := IHS.1 2 _ rfl
 rw [HKAV.out] at i2
 have t0 := CS.1 0 _ rfl
 have t1 := CS.1 1 _ rfl
 have t2 := CS.1 2 _ rfl
 have t3 := CS.1 3 _ rfl
 have t4 := CS.1 4 _ rfl
 have t5 := CS.1 5 _ rfl
 have t6 := CS.1 6 _ rfl
 obtain ⟨wz, ewz⟩ : ∃ q, q = set7 ws vb ka ⟨tg, ss, cp⟩ := ⟨_, rfl⟩
 have HF : Hid (Cells wz gb [.bool false, .slice v2.rs v2.l.length v2.rc, .slice gs2 L2.length gc2] ∧ Cells wz (w.heap.size + 1 + 1) [.int .i64 i.k, .int .i64 i.to, .int .i64 i.a, .int .i64 i.b, .int .i64 i.n, .int .i64 i.g] ∧ PicG (fun b => wt.heap.size ≤ b) (wt.heap.size) wz ⟨v2.rs, v2.rc, v2.l.set ka ⟨tg, ss, cp⟩⟩ gs2 gc2 L2 ∧ Below wt.heap.size wt wz) := by
  rw [ewz]
  exact ⟨GHS.same (heap_set7 hgb) (by rw [size_set7]; exact Nat.le_refl _), IHS.same (heap_set7 (by omega)) (by rw [size_set7]; exact Nat.le_refl _), PHS.setV HEV.out hkv GC, below_set7 BTS (by omega)⟩
 have q0 : (0 : Int) ≤ (ka : Int) := by omega
 have q1 : (ka : Int) < (v2.l.length : Int) := by omega
 clear GHS IHS PHS BTS GC TH CS
 go_upto_region 40 with fail
 clear u0 u1 u2 u3 u4 u5 u6 uz f0 f1 f2 f3 f4 f5 f6 t0 t1 t2 t3 t4 t5 t6 g1 i2
 simp only [set7] at ewz
 rw [← ewz]
 clear ewz
 obtain ⟨GZ, IZ, PZ, BZ⟩ := HF.out
 have HPZ := hideH PZ
 have HBZ := hideH BZ
 have i5 := IZ.1 5 _ rfl
 have g0 := GZ.1 0 _ rfl
 have g1 := GZ.1 1 _ rfl
 have g2 := GZ.1 2 _ rfl
 clear HF PZ BZ
 go_upto_region 41 with fail
 clear g0 g1 g2 i5
 have N4 : Cells (wz.alloc (.cells #[.int .i64 i.g, .bool false, .slice v2.rs v2.l.length v2.rc, .slice gs2 L2.length gc2] 56)) wz.heap.size [.int .i64 i.g, .bool false, .slice v2.rs v2.l.length v2.rc, .slice gs2 L2.length gc2] := Cells.new wz _ [_, _, _, _]
 have h4 : Below wz.heap.size wz (wz.alloc (.cells #[.int .i64 i.g, .bool false, .slice v2.rs v2.l.length v2.rc, .slice gs2 L2.length gc2] 56)) := by go_grown
 generalize wz.alloc (.cells #[.int .i64 i.g, .bool false, .slice v2.rs v2.l.length v2.rc, .slice gs2 L2.length gc2] 56) = w4a at *
 have I4 := IZ.call h4
 have i0 := I4.1 0 _ rfl
 go_upto_if 140 with fail
 clear i0
 go_cut [] (fun wc => Put wz.heap.size w4a wc [.int .i64 ta, .bool false, .slice v2.rs v2.l.length v2.rc, .slice gs2 L2.length gc2])
 case first =>
  have k0 := N4.1 0 _ rfl
  have k1 := N4.2.2 0
  have HN4 := hideH N4
  clear N4
  rcases HTA.out with ⟨hk, hta⟩ | ⟨hk, hta⟩
  ·have hb : (i.k == 17) = true := by rw [hk]; rfl
   have HE := hideH hta
   clear hk hta
   go_wp2_with fail
   go_meet
   obtain ⟨wq, eq⟩ : ∃ q, q = setL w4a wz.heap.size 0 [.int .i64 ((m : Int) + 1)] := ⟨_, rfl⟩
   have PQ := put_some HN4.out 0 _ eq
   simp only [setL] at eq
   rw [← eq, HE.out]
   exact PQ
  ·have hb : (i.k == 17) = false := by rw [hk]; rfl
   have HE := hideH hta
   clear hk hta
   go_wp2_with fail
   go_meet
   rw [HE.out]
   exact Put.refl HN4.out
 have PU := hcut
 generalize wc = w5 at *
 clear wc N4 I4
 have N5 := PU.cells
 have h5 : Below wz.heap.size wz w5 := PU.low (Nat.le_refl _) h4
 have BT5 := HBZ.out.trans (h5.mono HBZ.out.size)
 have h6 : Below w5.heap.size w5 (w5.alloc (.cells #[.int .i64 ta, .bool false, .slice v2.rs v2.l.length v2.rc, .slice gs2 L2.length gc2] 56)) := by go_grown
 have P6 := (HPZ.out.call h5).call h6
 have BT6 := BT5.trans (h6.mono BT5.size)
 have z5 := BT5.size
 have EDI : EdIn (fun b => wt.heap.size ≤ b ∧ b ≠ sb ∧ (Value.slice none 0 0).ownBlock ≠ some b) (w5.alloc (.cells #[.int .i64 ta, .bool false, .slice v2.rs v2.l.length v2.rc, .slice gs2 L2.length gc2] 56)) ⟨ta, picOf false ⟨v2.rs, v2.rc, v2.l.set ka ⟨tg, ss, cp⟩⟩ L2, v2.rs, v2.rc, gs2, gc2⟩ := by
  refine ⟨(P6.on false).mono fun b hb _ => ?_, P6.vcap false, P6.fcap' false⟩
  have hb2 : wt.heap.size ≤ b := by rcases hb with hb | hb <;> exact hb
  exact ⟨hb2, by omega, fun e => by cases e⟩
 have c0 := N5.1 0 _ rfl
 have c1 := N5.1 1 _ rfl
 have c2 := N5.1 2 _ rfl
 have c3 := N5.1 3 _ rfl
 clear GZ IZ HPZ HBZ N5 PU h4
 obtain ⟨tk, hik, hik0, hik1, hik2⟩ := info_parts Tryz.info_edge
 go_wp2_with (at_builtin; refine wpList_append_any _ rfl _ _ 29 rfl (wt.heap.size) 56 tk (.agg #[.int .i64 0, .bool false, .slice none 0 0, .slice none 0 0]) 4 64 Tryz.underlying29 hik hik0 hik1 hik2 rfl (by decide) _ _ _ rfl (ERow.nil _ sb _).own (some ⟨w5.heap.size, 0, none⟩) 1 1 (edCells ⟨ta, picOf false ⟨v2.rs, v2.rc, v2.l.set ka ⟨tg, ss, cp⟩⟩ L2, v2.rs, v2.rc, gs2, gc2⟩) rfl rfl (fun h => by cases h) ?qc2 (edCells_one _) ?qc4 ?qc5 ?qc6 ?_)
 (try (case qc2 => exact news4 w5 ⟨ta, picOf false ⟨v2.rs, v2.rc, v2.l.set ka ⟨tg, ss, cp⟩⟩ L2, v2.rs, v2.rc, gs2, gc2⟩ #[.int .i64 ta, .bool false, .slice v2.rs v2.l.length v2.rc, .slice gs2 L2.length gc2] _ (by simp [edCells, picOf, roG])))
 (try (case qc4 => unfold maxLen; first | omega | (simp; done) | (simp; omega)))
 (try (case qc5 => first | omega | (simp; done) | (simp; omega)))
 (try (case qc6 => first | omega | (rw [World.size_alloc]; omega) | (simp; omega) | simp))
 intro ev' w6 hown hgrow hat
 have RW := (ERow.nil wt.heap.size sb _).grown EDI hown hgrow (by rw [World.size_alloc]; exact hat) (by rw [World.size_alloc]; omega)
 have B6 : Below wt.heap.size wt w6 := BT6.grown hgrow (by rw [World.size_alloc]; omega) (fun k hk => by cases hk)
 go_wp2_with fail
 exact HH.out _ _ _ _ (by rfl) RW (by show _ = _; simp only [List.nil_append, List.map, edG, picOf_setV]; rw [← EPW.out, HKAV.out]) B6
end
section
set_option maxHeartbeats 8000000
set_option maxRecDepth 20000
open Go.RowKit
attribute [local go_sem ↓] Go.wp_at_zero Go.wp_at_succ

theorem copyP_of {T : Nat → Prop} {V F : Int} {c : List Ins} {i : Ins} {at_ : Int} {x : Pic} {vs : Option Addr} {vc : Nat} {fs : Option Addr} {fc : Nat} {w : World} (K : SCtx V F c x vc fc i at_) (hx : PicOn T w x vs fs) (wx : World) (hb : Below w.heap.size w wx) : Calls Tryz.prog 20 #[.agg #[.bool false, .slice vs x.vars.length vc, .slice fs x.flds.length fc]] wx fun e w' => (∃ v gs gc L, x = picOf false v L ∧ e = .returned (.agg #[.bool false, .slice v.rs v.l.length v.rc, .slice gs L.length gc]) ∧ PicG (fun b => wx.heap.size ≤ b) wx.heap.size w' v gs gc L) ∧ Below wx.heap.size wx w' := by
 have hn := K.kx.none
 have exv : xv x vs vc fs fc = .agg #[.bool false, .slice vs x.vars.length vc, .slice fs x.flds.length fc] := by unfold xv; rw [hn]
 have h := copyPicture_any x vs vc fs fc wx ((hx.at).below hb (Nat.le_refl _)) K
 rw [exv] at h
 refine h.mono ?_
 rintro e w' ⟨⟨v, gs, gc, L, h1, h2, h3⟩, h4⟩
 rw [hn] at h1 h2
 exact ⟨⟨v, gs, gc, L, h1, h2, h3⟩, h4⟩
theorem test_yes {K K4 : Act → World → Prop} {R : Ending → World → Prop} {c' : Code} {z : Nat → Value} {tl : List Value} {V F : Int} {c : List Ins} {vs : Option Addr} {vc : Nat} {fs : Option Addr} {fc : Nat} {T : Nat → Prop} {m sb : Nat} {i : Ins} {x : Pic} {w wt : World} {ka : Nat} (ta : Int) (hc : goC [1, 1, 1, 1, 1, 1, 1, 1, 1, 1, 0, 1, 0, 1, 1, 1, 1, 1, 1, 1, 0, 1, 1, 0, 1, 0] Tryz.f7.body = some c') (hl : tl.length = 319) (h1 : z 1 = .int .i64 (m : Int)) (h9 : z 9 = .pointer (some ⟨w.heap.size + 1 + 1, 0, none⟩)) (h5 : z 5 = .pointer (some ⟨w.heap.size + 1, 0, none⟩)) (K0 : SCtx V F c x vc fc i (m : Int)) (hx : PicOn T w x vs fs) (hta : i.k = 17 ∧ ta = (m : Int) + 1 ∨ i.k = 15 ∧ ta = i.g) (eka : i.a = (ka : Int)) (hkax : ka < x.vars.length) (IT : Cells wt (w.heap.size + 1 + 1) [.int .i64 i.k, .int .i64 i.to, .int .i64 i.a, .int .i64 i.b, .int .i64 i.n, .int .i64 i.g]) (XT : Cells wt (w.heap.size + 1) [.bool false, .slice vs x.vars.length vc, .slice fs x.flds.length fc]) (BT : Below w.heap.size w wt) (hsb : sb < wt.heap.size)
  (H : ∀ (ev : List Ed) (t18 : Value) (w' : World) (tl' : List Value), tl'.length = 319 → ERow wt.heap.size sb w' t18 ev → Hid (ev.map edG = [⟨ta, setVar x i.a (trueGs x.vars[ka])⟩]) → Below wt.heap.size wt w' → K ⟨((List.range 18).map z ++ t18 :: tl').toArray, []⟩ w') : c'.wp Tryz.prog (Exit.then K (Exit.inBlock 0 (Exit.then K4 (bodyPost Tryz.prog Tryz.f7 R)))) ⟨((List.range 18).map z ++ .slice none 0 0 :: tl).toArray, []⟩ wt := by
 have w61 : (m : Int) ≤ 60 := by have := K0.lens.2.1; have := K0.a1; omega
 have n0 : (0 : Int) ≤ (m : Int) := K0.a0
 have hok := K0.kx.gv _ (List.getElem_mem hkax)
 have HOKS := hideH (ckGs_iff.1 hok).1
 have HCQ := hideH (copyP_of K0 hx)
 have zi := IT.2.1
 have HKAV := hideH eka
 have HZ := hideH (And.intro h1 (And.intro h9 (And.intro hta (And.intro eka h5))))
 have H0 := hideH H
 clear hok K0 hx hta
 obtain ⟨u, rfl⟩ := list_u tl _ hl
 refine sub_of hc rfl ?_
 simp only [List.range, List.range.loop, List.map, List.cons_append, List.nil_append, h1, h5, h9] at H ⊢
 have HH := hideH H
 clear H hc hl
 clear HH h1 h9 h5 eka
 have x0 := XT.1 0 _ rfl
 have x1 := XT.1 1 _ rfl
 have x2 := XT.1 2 _ rfl
 go_wp2_with (go_at_call 20; fail)
 refine (HCQ.out wt BT).mono ?_
 rintro e wg ⟨⟨v2, gs2, gc2, L2, EX2, rfl, PG⟩, hbg⟩
 have EPW := hideH EX2
 clear EX2 x0 x1 x2 XT HCQ
 have hkv : ka < v2.l.length := by have h := hkax; rw [EPW.out] at h; simpa [picOf, roG] using h
 have zg := hbg.size
 go_upto_region 28 with fail
 have hwh : Below wg.heap.size wg (wg.alloc (.cells #[.bool false, .slice v2.rs v2.l.length v2.rc, .slice gs2 L2.length gc2] 28)) := by go_grown
 have GH : Cells (wg.alloc (.cells #[.bool false, .slice v2.rs v2.l.length v2.rc, .slice gs2 L2.length gc2] 28)) wg.heap.size [.bool false, .slice v2.rs v2.l.length v2.rc, .slice gs2 L2.length gc2] := Cells.new wg 28 [.bool false, .slice v2.rs v2.l.length v2.rc, .slice gs2 L2.length gc2]
 have zwh : Hid ((wg.alloc (.cells #[.bool false, .slice v2.rs v2.l.length v2.rc, .slice gs2 L2.length gc2] 28)).heap.size = wg.heap.size + 1) := by show _ = _; simp
 generalize wg.alloc (.cells #[.bool false, .slice v2.rs v2.l.length v2.rc, .slice gs2 L2.length gc2] 28) = wh at *
 have hbh := hbg.trans (hwh.mono hbg.size)
 have IH := IT.call hbh
 have PH := PG.call hwh
 obtain ⟨vb, evb, evB, hvb, zvb⟩ := PG.vars.form (by omega)
 have hgv : roB v2 ≠ some wg.heap.size := fun e => by rw [evB] at e; cases e; omega
 obtain ⟨y, EY0⟩ : ∃ y, v2.l[ka] = y := ⟨_, rfl⟩
 have EYG : y.g = x.vars[ka] := by
  have : ∀ (z : Pic) (h : ka < z.vars.length) (hz : z = picOf false v2 L2), z.vars[ka] = v2.l[ka].g := by intro z h hz; subst hz; simp [picOf, roG]
  rw [this x hkax EPW.out, EY0]
 have GU := PH.vars.gu evb (k := ka) hkv
 rw [EY0] at GU
 obtain ⟨⟨u0, u1, u2, u3, u4, u5, u6⟩, uz⟩ := GU
 rw [EYG] at u0 u1 u2 u3 u4 u5 u6
 have YC := PH.sv _ (List.getElem_mem hkv)
 rw [EY0] at YC
 have HYC : Hid (GcIn (fun b => wt.heap.size ≤ b ∧ Off v2 (Value.slice gs2 L2.length gc2).ownBlock L2 b) wh ⟨(trueGs x.vars[ka]), y.ss, y.cap⟩) := by
  refine ⟨?_, ?_, YC.2.2⟩
  ·have h1 := YC.1
   rw [EYG] at h1
   exact h1
  ·have h2 := YC.2.1
   rw [EYG] at h2
   exact h2
 have HPH := hideH PH
 have HEV := hideH evb
 have BTH := hideH hbh
 clear EY0 EYG YC IT BT hbg hwh PG hbh PH evB
 have g1 := GH.1 1 _ rfl
 rw [evb] at g1
 have i2 := IH.1 2 _ rfl
 rw [HKAV.out] at i2
 have q0 : (0 : Int) ≤ (ka : Int) := by omega
 have q1 : (ka : Int) < (v2.l.length : Int) := by omega
 clear evb
 go_upto_region 29 with fail
 clear g1 i2 u0 u1 u2 u3 u4 u5 u6 uz
 have hwi : Below wh.heap.size wh (wh.alloc (.cells #[.bool x.vars[ka].n, .bool x.vars[ka].sp.n, .int .i64 x.vars[ka].sp.lo, .int .i64 x.vars[ka].sp.hi, .bool x.vars[ka].t, .bool x.vars[ka].f, .slice y.ss x.vars[ka].s.length y.cap] 61)) := by go_grown
 have VI : Cells (wh.alloc (.cells #[.bool x.vars[ka].n, .bool x.vars[ka].sp.n, .int .i64 x.vars[ka].sp.lo, .int .i64 x.vars[ka].sp.hi, .bool x.vars[ka].t, .bool x.vars[ka].f, .slice y.ss x.vars[ka].s.length y.cap] 61)) wh.heap.size [.bool x.vars[ka].n, .bool x.vars[ka].sp.n, .int .i64 x.vars[ka].sp.lo, .int .i64 x.vars[ka].sp.hi, .bool x.vars[ka].t, .bool x.vars[ka].f, .slice y.ss x.vars[ka].s.length y.cap] := Cells.new wh 61 [.bool x.vars[ka].n, .bool x.vars[ka].sp.n, .int .i64 x.vars[ka].sp.lo, .int .i64 x.vars[ka].sp.hi, .bool x.vars[ka].t, .bool x.vars[ka].f, .slice y.ss x.vars[ka].s.length y.cap]
 have zwi : Hid ((wh.alloc (.cells #[.bool x.vars[ka].n, .bool x.vars[ka].sp.n, .int .i64 x.vars[ka].sp.lo, .int .i64 x.vars[ka].sp.hi, .bool x.vars[ka].t, .bool x.vars[ka].f, .slice y.ss x.vars[ka].s.length y.cap] 61)).heap.size = wh.heap.size + 1) := by show _ = _; simp
 generalize wh.alloc (.cells #[.bool x.vars[ka].n, .bool x.vars[ka].sp.n, .int .i64 x.vars[ka].sp.lo, .int .i64 x.vars[ka].sp.hi, .bool x.vars[ka].t, .bool x.vars[ka].f, .slice y.ss x.vars[ka].s.length y.cap] 61) = wi at *
 generalize eVB : wh.heap.size = vb2 at *
 have c0 := VI.1 0 _ rfl
 have c5 := VI.1 5 _ rfl
 have d0 := VI.2.2 0
 have d5 := VI.2.2 5
 go_upto_region 30 with fail
 clear c0 c5 d0 d5
 obtain ⟨wj, ewj⟩ : ∃ q, q = setL wi vb2 0 [.bool false] := ⟨_, rfl⟩
 have PJ : Put vb2 wi wj [.bool false, .bool x.vars[ka].sp.n, .int .i64 x.vars[ka].sp.lo, .int .i64 x.vars[ka].sp.hi, .bool x.vars[ka].t, .bool x.vars[ka].f, .slice y.ss x.vars[ka].s.length y.cap] := put_some VI 0 _ ewj
 simp only [setL] at ewj
 rw [← ewj]
 clear ewj
 obtain ⟨wv, ewv⟩ : ∃ q, q = setL wj vb2 5 [.bool false] := ⟨_, rfl⟩
 have PK : Put vb2 wj wv [.bool false, .bool x.vars[ka].sp.n, .int .i64 x.vars[ka].sp.lo, .int .i64 x.vars[ka].sp.hi, .bool x.vars[ka].t, .bool false, .slice y.ss x.vars[ka].s.length y.cap] := put_some PJ.cells 5 _ ewv
 simp only [setL] at ewv
 rw [← ewv]
 clear ewv
 have PV0 := PJ.trans PK
 have HE : Hid (∀ ws (tl' : List Value), tl'.length = 317 → Put vb2 wv ws [.bool (trueGs x.vars[ka]).n, .bool (trueGs x.vars[ka]).sp.n, .int .i64 (trueGs x.vars[ka]).sp.lo, .int .i64 (trueGs x.vars[ka]).sp.hi, .bool (trueGs x.vars[ka]).t, .bool (trueGs x.vars[ka]).f, .slice y.ss (trueGs x.vars[ka]).s.length y.cap] → ∀ c'', goC [1, 1, 1, 1, 1, 1, 1, 1, 1, 1, 0, 1, 0, 1, 1, 1, 1, 1, 1, 1, 0, 1, 1, 0, 1, 0, 1, 1, 1, 1] Tryz.f7.body = some c'' → c''.wp Tryz.prog (Exit.then K (Exit.inBlock 0 (Exit.then K4 (bodyPost Tryz.prog Tryz.f7 R)))) ⟨((List.range 18).map z ++ .slice none 0 0 :: .pointer (some ⟨wg.heap.size, 0, none⟩) :: .pointer (some ⟨vb2, 0, none⟩) :: tl').toArray, []⟩ ws) := fun ws tl' hl' hp c'' hc'' => by
  have hbs : Below wh.heap.size wh ws := by rw [eVB]; exact (PV0.trans hp).low (Nat.le_refl _) hwi
  exact test_end ta hc'' hl' HZ.out.1 HZ.out.2.1 w61 n0 HZ.out.2.2.1 HZ.out.2.2.2.1 hkv zi hsb (GH.call hbs) hgv (IH.call hbs) (HPH.out.call hbs) hp.cells ⟨HYC.out.1.call hbs, HYC.out.2⟩ (BTH.out.trans (hbs.mono BTH.out.size)) EPW.out H0.out
 have h1 := HZ.out.1
 have h9 := HZ.out.2.1
 have h5 := HZ.out.2.2.2.2
 simp only [List.range, List.range.loop, List.map, List.cons_append, List.nil_append, h1, h5, h9] at HE
 have HPV := hideH PV0.cells
 have c1 := PV0.cells.1 1 _ rfl
 clear h1 h5 h9 PJ PK PV0 VI H0 HYC HPH BTH GH IH
 go_upto_if 108 with fail
 clear c1
 rename_i K9 hK9
 rcases Bool.eq_false_or_eq_true x.vars[ka].sp.n with hs0 | hs0
 ·have hsn := hideH hs0
  rw [hs0]
  have HP : Hid (Put vb2 wv wv [.bool (trueGs x.vars[ka]).n, .bool (trueGs x.vars[ka]).sp.n, .int .i64 (trueGs x.vars[ka]).sp.lo, .int .i64 (trueGs x.vars[ka]).sp.hi, .bool (trueGs x.vars[ka]).t, .bool (trueGs x.vars[ka]).f, .slice y.ss (trueGs x.vars[ka]).s.length y.cap]) := by
   have l7 := HOKS.out.2.2.1 hsn.out
   have h := Put.refl HPV.out
   have e : ([.bool false, .bool x.vars[ka].sp.n, .int .i64 x.vars[ka].sp.lo, .int .i64 x.vars[ka].sp.hi, .bool x.vars[ka].t, .bool false, .slice y.ss x.vars[ka].s.length y.cap] : List Value) = [.bool (trueGs x.vars[ka]).n, .bool (trueGs x.vars[ka]).sp.n, .int .i64 (trueGs x.vars[ka]).sp.lo, .int .i64 (trueGs x.vars[ka]).sp.hi, .bool (trueGs x.vars[ka]).t, .bool (trueGs x.vars[ka]).f, .slice y.ss (trueGs x.vars[ka]).s.length y.cap] := by simp [trueGs, trueSp, hsn.out, l7.1, l7.2]
   rw [e] at h
   exact h
  clear hs0
  refine wp_cond_split rfl (fun h => ?_) (fun h => ?_)
  ·cases h
  refine wp_skip ?_
  exact hK9 _ _ (HE.out wv _ (by rfl) HP.out _ rfl)
 ·have hsn := hideH hs0
  have hv := HPV.out
  rw [hs0] at hv ⊢
  have hle : x.vars[ka].sp.lo ≤ x.vars[ka].sp.hi := HOKS.out.2.2.2
  clear hs0
  refine wp_cond_split rfl (fun h => ?_) (fun h => ?_)
  rotate_left
  ·cases h
  refine test_span (z := fun k => ([z 0, .int .i64 (m : Int), z 2, z 3, z 4, .pointer (some ⟨w.heap.size + 1, 0, none⟩), z 6, z 7, z 8, .pointer (some ⟨w.heap.size + 1 + 1, 0, none⟩), z 10, z 11, z 12, z 13, z 14, z 15, z 16, z 17, .slice none 0 0, .pointer (some ⟨wg.heap.size, 0, none⟩)] : List Value).getD k (.bool false)) rfl (by rfl) hv hle fun w' tl' hl' hp => ?_
  refine hK9 _ _ (HE.out w' tl' hl' ?_ _ rfl)
  have esp : (⟨false, x.vars[ka].sp.lo, x.vars[ka].sp.hi⟩ : Sp) = x.vars[ka].sp := by rw [← hsn.out]
  rw [esp] at hp
  exact hp
end
end Go.Proofs.YtmapdpcfanecdabGreat
