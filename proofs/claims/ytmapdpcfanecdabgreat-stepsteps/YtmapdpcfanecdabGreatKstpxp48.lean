/- DoGuess, with where its sites lie. -/
import Derived.Test.YtmapdpcfanecdabGreatKstpxp47
import Derived.Test.YtmapdpcfanecdabGreatKstpxp07
import Derived.Deep.RegionHeld
import Derived.WalkKit
import Derived.WalkSpells
import Derived.WalkLawsBesides
import Derived.Handy
import Derived.Deep.DeepCutAuto
import Derived.Test.YtmapdpcfanecdabGreatKstpxp29
import Derived.Test.YtmapdpcfanecdabGreatKstpxp08
import Derived.Test.YtmapdpcfanecdabGreatKstpxp41
set_option linter.unusedSimpArgs false
set_option linter.unusedVariables false
namespace Go.Proofs.YtmapdpcfanecdabGreat
section
set_option maxHeartbeats 8000000
set_option maxRecDepth 20000
open Go.RowKit
attribute [local go_sem ↓] Go.wp_at_zero Go.wp_at_succ

theorem stepT_18 {T : Nat → Prop} {V F : Int} {s : Option Addr} {c : List Ins} {cap m : Nat} {i : Ins} {x : Pic} {vs : Option Addr} {vc : Nat} {fs : Option Addr} {fc : Nat} {w : World} {w3 w4 w7 w11 wp : World} {v : Ro} {gs : Option Addr} {gc : Nat} {L : List Ro} (hx : PicOn T w x vs fs) (K : SCtx V F c x vc fc i (m : Int)) (hk : i.k = 18) {ka : Nat} {sska : Option Addr} {gcka : Nat} (hkax : ka < x.vars.length) (eka : i.a = (ka : Int)) (SP : Hid (SPre T V F s c cap (m : Int) i x vs vc fs fc w wp (w.heap.size + 1 + 1) w3.heap.size w4.heap.size w7.heap.size (w7.heap.size + 1) w11.heap.size w3 v gs gc L x.vars[ka] sska gcka noneG none 0)) : SwT (fun e w' => StpAns (fun b => T b ∨ w.heap.size ≤ b) w' e (stepPic i (m : Int) x) ∧ Below w.heap.size w w') m w w3 w4 w7 w11 wp := by
 have HKAV := hideH eka
 have HKK := hideH hk
 clear hk
 have HK := hideH K
 have HX := hideH hx
 have h60 := K.lens.2.1
 have n0 : (0 : Int) ≤ (m : Int) := K.a0
 have n1 : (m : Int) < (c.length : Int) := K.a1
 have hm : m < c.length := by omega
 have w61 : (m : Int) ≤ 60 := by omega
 clear K hx eka
 refine sw_of rfl fun z0 z2 z4 u => ?_
 simp only [List.range, List.range.loop, List.map]
 obtain ⟨BP, PP, XP, IP, YP, OP, AP, EP, TP, GAI, GBI, GOW, YW, -, EPV0, -, o2, o3, o4, o5, o6⟩ := SP.out
 have EPV := hideH EPV0
 clear EPV0
 have i0 := IP.1 0 _ rfl
 rw [HKK.out] at i0
 have HST : Hid (stepPic i (m : Int) x = ([⟨(m : Int) + 1, x⟩], false, false)) := by show _ = _; simp [stepPic, HK.out.kx.none, HKK.out]
 have GP := GOW.same (w' := wp) (fun b _ hlt => YW.block b hlt) YW.size
 go_wp2
 refine bodyPost_ret (v := .tuple #[.slice (some ⟨w4.heap.size, 0, none⟩) 1 1, .bool false, .bool false]) (by simp [results, Tryz.results7, go_sem]) rfl ⟨?_, BP⟩
 rw [HST.out]
 exact ⟨some ⟨w4.heap.size, 0, none⟩, 1, rfl, eds_one (S := (fun b => T b ∨ w.heap.size ≤ b)) OP (.inr (by omega)) (GP) (fun b hb => .inr hb) (fun b hb => .inr (by omega)) EPV.out⟩
theorem stepT_19 {T : Nat → Prop} {V F : Int} {s : Option Addr} {c : List Ins} {cap m : Nat} {i : Ins} {x : Pic} {vs : Option Addr} {vc : Nat} {fs : Option Addr} {fc : Nat} {w : World} {w3 w4 w7 w11 wp : World} {v : Ro} {gs : Option Addr} {gc : Nat} {L : List Ro} (hx : PicOn T w x vs fs) (K : SCtx V F c x vc fc i (m : Int)) (hk : i.k = 19) (SP : Hid (SPre T V F s c cap (m : Int) i x vs vc fs fc w wp (w.heap.size + 1 + 1) w3.heap.size w4.heap.size w7.heap.size (w7.heap.size + 1) w11.heap.size w3 v gs gc L noneG none 0 noneG none 0)) : SwT (fun e w' => StpAns (fun b => T b ∨ w.heap.size ≤ b) w' e (stepPic i (m : Int) x) ∧ Below w.heap.size w w') m w w3 w4 w7 w11 wp := by
 have HKK := hideH hk
 clear hk
 have HK := hideH K
 have HX := hideH hx
 have h60 := K.lens.2.1
 have n0 : (0 : Int) ≤ (m : Int) := K.a0
 have n1 : (m : Int) < (c.length : Int) := K.a1
 have hm : m < c.length := by omega
 have w61 : (m : Int) ≤ 60 := by omega
 clear K hx
 refine sw_of rfl fun z0 z2 z4 u => ?_
 simp only [List.range, List.range.loop, List.map]
 obtain ⟨BP, PP, XP, IP, YP, OP, AP, EP, TP, GAI, GBI, GOW, YW, -, EPV0, -, o2, o3, o4, o5, o6⟩ := SP.out
 have EPV := hideH EPV0
 clear EPV0
 have i0 := IP.1 0 _ rfl
 rw [HKK.out] at i0
 have HST : Hid (stepPic i (m : Int) x = ([], false, false)) := by show _ = _; simp [stepPic, HK.out.kx.none, HKK.out]
 go_wp2
 refine bodyPost_ret (v := .tuple #[.slice none 0 0, .bool false, .bool false]) (by simp [results, Tryz.results7, go_sem]) rfl ⟨?_, BP⟩
 rw [HST.out]
 exact ⟨none, 0, rfl, EdsOn.nil⟩
theorem stepT_16 {T : Nat → Prop} {V F : Int} {s : Option Addr} {c : List Ins} {cap m : Nat} {i : Ins} {x : Pic} {vs : Option Addr} {vc : Nat} {fs : Option Addr} {fc : Nat} {w : World} {w3 w4 w7 w11 wp : World} {v : Ro} {gs : Option Addr} {gc : Nat} {L : List Ro} (hx : PicOn T w x vs fs) (K : SCtx V F c x vc fc i (m : Int)) (hk : i.k = 16) (SP : Hid (SPre T V F s c cap (m : Int) i x vs vc fs fc w wp (w.heap.size + 1 + 1) w3.heap.size w4.heap.size w7.heap.size (w7.heap.size + 1) w11.heap.size w3 v gs gc L noneG none 0 noneG none 0)) : SwT (fun e w' => StpAns (fun b => T b ∨ w.heap.size ≤ b) w' e (stepPic i (m : Int) x) ∧ Below w.heap.size w w') m w w3 w4 w7 w11 wp := by
 have HKK := hideH hk
 clear hk
 have HK := hideH K
 have HX := hideH hx
 have h60 := K.lens.2.1
 have n0 : (0 : Int) ≤ (m : Int) := K.a0
 have n1 : (m : Int) < (c.length : Int) := K.a1
 have hm : m < c.length := by omega
 have w61 : (m : Int) ≤ 60 := by omega
 clear K hx
 refine sw_of rfl fun z0 z2 z4 u => ?_
 simp only [List.range, List.range.loop, List.map]
 obtain ⟨BP, PP, XP, IP, YP, OP, AP, EP, TP, GAI, GBI, GOW, YW, -, EPV0, -, o2, o3, o4, o5, o6⟩ := SP.out
 have EPV := hideH EPV0
 clear EPV0
 have i0 := IP.1 0 _ rfl
 rw [HKK.out] at i0
 have HST : Hid (stepPic i (m : Int) x = ([⟨i.g, x⟩], false, false)) := by show _ = _; simp [stepPic, HK.out.kx.none, HKK.out]
 have YW2 : Below w3.heap.size w3 (wp.setCell ⟨w4.heap.size, 0, none⟩ (.int .i64 i.g)) := YW.setCell (by simp only; omega) _
 have GP := GOW.same (fun b _ hlt => YW2.block b hlt) YW2.size
 have i5 := IP.1 5 _ rfl
 have q0 := OP.1 0 _ rfl
 have f0 := OP.2.2 0
 go_wp2
 refine bodyPost_ret (v := .tuple #[.slice (some ⟨w4.heap.size, 0, none⟩) 1 1, .bool false, .bool false]) (by simp [results, Tryz.results7, go_sem]) rfl ⟨?_, BP.setCell (by simp only; omega) _⟩
 rw [HST.out]
 exact ⟨some ⟨w4.heap.size, 0, none⟩, 1, rfl, eds_one (S := (fun b => T b ∨ w.heap.size ≤ b)) (OP.put 0 (by simp) _) (.inr (by omega)) (GP) (fun b hb => .inr hb) (fun b hb => .inr (by omega)) EPV.out⟩
end
section
set_option maxHeartbeats 8000000
set_option maxRecDepth 100000
open Go.RowKit
attribute [local go_sem ↓] Go.wp_at_zero Go.wp_at_succ

theorem prf_6421ee {p : Prop} (h : p := by
 simp only [setL] at ewx
 rw [← ewx]
 clear ewx
 have TX := PU.cells
 have IX := PU.keep IP
 have YX := PU.keep YP
 have OX := PU.keep OP
 have BX := PU.low (by omega) BP
 have YWX := PU.low (by omega) YW
 clear PU
 have TX2 : Cells wx w11.heap.size [.bool gg.n, .bool gg.sp.n, .int .i64 gg.sp.lo, .int .i64 gg.sp.hi, .bool gg.t, .bool gg.f, .slice ss gg.s.length cp] := by rw [HGG.out.1, HGG.out.2.1, HGG.out.2.2]; exact TX
 have HGI : Hid (IntsIn (fun b => (T b ∧ b < w.heap.size) ∨ w3.heap.size ≤ b) wx ss gg.s) := .inl HGS.out
 have HCP : Hid (gg.s.length ≤ cp ∧ cp ≤ maxLen) := ⟨by rw [HGS.out]; exact Nat.zero_le _, by rw [HGG.out.2.2]; exact Nat.zero_le _⟩
 clear TX
 have TX := TX2
 clear TX2 HGG HGS i0
 have HIS : Hid (∀ wz, Calls Tryz.prog 28 #[.agg #[.bool gg.n, .bool gg.sp.n, .int .i64 gg.sp.lo, .int .i64 gg.sp.hi, .bool gg.t, .bool gg.f, .slice ss gg.s.length cp]] wz fun e w' => e = .returned (.bool false) ∧ Below wz.heap.size wz w') := fun wz => by have h := isNothing_any gg ss cp wz; rw [hng.out] at h; exact h
 have t0 := TX.1 0 _ rfl
 have t1 := TX.1 1 _ rfl
 have t2 := TX.1 2 _ rfl
 have t3 := TX.1 3 _ rfl
 have t4 := TX.1 4 _ rfl
 have t5 := TX.1 5 _ rfl
 have t6 := TX.1 6 _ rfl
 go_wp2_with (go_at_call 28; fail)
 refine ((HIS.out wx).mono ?_)
 rintro e wy ⟨rfl, hby⟩
 clear t0 t1 t2 t3 t4 t5 t6
 have TY := TX.call hby
 have IY := IX.call hby
 have YY := YX.call hby
 have OY := OX.call hby
 have BY := BX.trans (hby.mono BX.size)
 have YWY := YWX.trans (hby.mono YWX.size)
 have HGY := hideH (IntsIn.call HGI.out hby)
 clear TX IX YX OX BX YWX HIS HGI
 have GP := GOW.same (w' := wy) (fun b _ hlt => YWY.block b hlt) YWY.size
 have GC := gc_away (T := T) (y := ⟨gg, ss, cp⟩) GOW (by omega) (by omega) HGY.out HCP.out.1 HCP.out.2
 have hktv : kt < v.l.length := by have h := hktx; rw [EPV.out] at h; simpa [picOf, roG] using h
 obtain ⟨vb, evb, eb1, hvb, zvb⟩ := GOW.vars.form (by omega)
 have GP2 := (GP.mono (T' := fun b => T b ∨ w.heap.size ≤ b) fun b hb _ => .inr hb)
 have GS := GP2.setV evb hktv GC
 have GU := GP.vars.gu evb (k := kt) hktv
 obtain ⟨⟨u0, u1, u2, u3, u4, u5, u6⟩, uz⟩ := GU
 have TH := GP.vars.thaw evb
 have f0 := TH (kt * 7)
 have f1 := TH (kt * 7 + 1)
 have f2 := TH (kt * 7 + 2)
 have f3 := TH (kt * 7 + 3)
 have f4 := TH (kt * 7 + 4)
 have f5 := TH (kt * 7 + 5)
 have f6 := TH (kt * 7 + 6)
 have y1 := YY.1 1 _ rfl
 rw [evb] at y1
 have i1 := IY.1 1 _ rfl
 rw [HKT.out] at i1
 have t0 := TY.1 0 _ rfl
 have t1 := TY.1 1 _ rfl
 have t2 := TY.1 2 _ rfl
 have t3 := TY.1 3 _ rfl
 have t4 := TY.1 4 _ rfl
 have t5 := TY.1 5 _ rfl
 have t6 := TY.1 6 _ rfl
 have q0 : (0 : Int) ≤ (kt : Int) := by omega
 have q1 : (kt : Int) < (v.l.length : Int) := by omega
 have HEV := hideH evb
 have OS : Cells (set7 wy vb kt ⟨gg, ss, cp⟩) w4.heap.size [.int .i64 ((m : Int) + 1), .bool false, .slice v.rs v.l.length v.rc, .slice gs L.length gc] := OY.same (heap_set7 (by omega)) (by rw [size_set7]; exact Nat.le_refl _)
 have BS : Below w.heap.size w (set7 wy vb kt ⟨gg, ss, cp⟩) := below_set7 BY (by omega)
 have HF : Hid (StpAns (fun b => T b ∨ w.heap.size ≤ b) (set7 wy vb kt ⟨gg, ss, cp⟩) (.returned (.tuple #[.slice (some ⟨w4.heap.size, 0, none⟩) 1 1, .bool false, .bool false])) (stepPic i (m : Int) x)) := by
  show StpAns _ _ _ _
  rw [HST.out, if_neg (by rw [hng.out]; decide)]
  refine ⟨some ⟨w4.heap.size, 0, none⟩, 1, rfl, ?_⟩
  refine eds_one (S := (fun b => T b ∨ w.heap.size ≤ b)) (v := ⟨v.rs, v.rc, v.l.set kt ⟨gg, ss, cp⟩⟩) (L := L) (by simp only [List.length_set]; exact OS) (.inr (by omega)) GS (fun b hb => hb) (fun b hb => .inr (by omega)) ?_
  rw [picOf_setV, ← EPV.out, HKT.out]
 clear GP GC GP2 GS TH TY IY YY OY OS BY HGY GOW YWY EPV evb
 obtain ⟨wv, ewv⟩ : ∃ q, q = set7 wy vb kt ⟨gg, ss, cp⟩ := ⟨_, rfl⟩
 have HF2 := hideH (And.intro HF.out BS)
 rw [← ewv] at HF2
 go_upto_region 87 with fail
 clear u0 u1 u2 u3 u4 u5 u6 uz f0 f1 f2 f3 f4 f5 f6 t0 t1 t2 t3 t4 t5 t6 y1 i1 HF BS
 simp only [set7] at ewv
 rw [← ewv]
 clear ewv
 go_wp2
 refine bodyPost_ret (v := .tuple #[.slice (some ⟨w4.heap.size, 0, none⟩) 1 1, .bool false, .bool false]) (by simp [results, Tryz.results7, go_sem]) rfl HF2.out) : p := h
theorem stepT_1 {T : Nat → Prop} {V F : Int} {s : Option Addr} {c : List Ins} {cap m : Nat} {i : Ins} {x : Pic} {vs : Option Addr} {vc : Nat} {fs : Option Addr} {fc : Nat} {w : World} {w3 w4 w7 w11 wp : World} {v : Ro} {gs : Option Addr} {gc : Nat} {L : List Ro} (hx : PicOn T w x vs fs) (K : SCtx V F c x vc fc i (m : Int)) (hk : i.k = 1) (SP : Hid (SPre T V F s c cap (m : Int) i x vs vc fs fc w wp (w.heap.size + 1 + 1) w3.heap.size w4.heap.size w7.heap.size (w7.heap.size + 1) w11.heap.size w3 v gs gc L noneG none 0 noneG none 0)) : SwT (fun e w' => StpAns (fun b => T b ∨ w.heap.size ≤ b) w' e (stepPic i (m : Int) x) ∧ Below w.heap.size w w') m w w3 w4 w7 w11 wp := by
 have HKK := hideH hk
 clear hk
 have HK := hideH K
 have HX := hideH hx
 have h60 := K.lens.2.1
 have n0 : (0 : Int) ≤ (m : Int) := K.a0
 have n1 : (m : Int) < (c.length : Int) := K.a1
 have hm : m < c.length := by omega
 have w61 : (m : Int) ≤ 60 := by omega
 clear K hx
 refine sw_of rfl fun z0 z2 z4 u => ?_
 simp only [List.range, List.range.loop, List.map]
 obtain ⟨BP, PP, XP, IP, YP, OP, AP, EP, TP, GAI, GBI, GOW, YW, -, EPV0, -, o2, o3, o4, o5, o6⟩ := SP.out
 have EPV := hideH EPV0
 clear EPV0
 have i0 := IP.1 0 _ rfl
 rw [HKK.out] at i0
 obtain ⟨kt, ekt, hktx⟩ := HK.out.varTo (by rw [HKK.out]; rfl)
 have HKT := hideH ekt
 clear ekt
 obtain ⟨gg, hgg⟩ : ∃ g : Gs, g = ⟨false, ⟨false, i.n, i.n⟩, false, false, []⟩ := ⟨_, rfl⟩
 obtain ⟨ss, hss⟩ : ∃ a : Option Addr, a = none := ⟨_, rfl⟩
 obtain ⟨cp, hcp⟩ : ∃ a : Nat, a = 0 := ⟨_, rfl⟩
 have HGS : Hid (gg.s = []) := by show _ = _; simp [hgg, nullG]
 have HST : Hid (stepPic i (m : Int) x = if nothingGs gg then ([], false, false) else ([⟨(m : Int) + 1, setVar x i.to gg⟩], false, false)) := by show _ = _; rw [hgg]; simp [stepPic, comesGs, HK.out.kx.none, HKK.out]
 have hng : Hid (nothingGs gg = false) := by
  show _ = _
  rw [hgg]
  simp [nothingGs, otherGs, nullG]
 have HGG := hideH (And.intro hgg (And.intro hss hcp))
 clear hgg hss hcp 
 have z1 := TP.1 1 _ rfl
 have fz1 := TP.2.2 1
 have z2 := TP.1 2 _ rfl
 have fz2 := TP.2.2 2
 have z3 := TP.1 3 _ rfl
 have fz3 := TP.2.2 3
 have i4 := IP.1 4 _ rfl
 go_upto_region 84 with fail
 clear z1 fz1 z2 fz2 z3 fz3 i4
 obtain ⟨wx, ewx⟩ : ∃ q, q = setL wp (w11.heap.size) 1 [.bool false, .int .i64 i.n, .int .i64 i.n] := ⟨_, rfl⟩
 have PU := put_some TP 1 _ ewx
 exact prf_6421ee
theorem stepT_14 {T : Nat → Prop} {V F : Int} {s : Option Addr} {c : List Ins} {cap m : Nat} {i : Ins} {x : Pic} {vs : Option Addr} {vc : Nat} {fs : Option Addr} {fc : Nat} {w : World} {w3 w4 w7 w11 wp : World} {v : Ro} {gs : Option Addr} {gc : Nat} {L : List Ro} (hx : PicOn T w x vs fs) (K : SCtx V F c x vc fc i (m : Int)) (hk : i.k = 14) (SP : Hid (SPre T V F s c cap (m : Int) i x vs vc fs fc w wp (w.heap.size + 1 + 1) w3.heap.size w4.heap.size w7.heap.size (w7.heap.size + 1) w11.heap.size w3 v gs gc L noneG none 0 noneG none 0)) : SwT (fun e w' => StpAns (fun b => T b ∨ w.heap.size ≤ b) w' e (stepPic i (m : Int) x) ∧ Below w.heap.size w w') m w w3 w4 w7 w11 wp := by
 have HKK := hideH hk
 clear hk
 have HK := hideH K
 have HX := hideH hx
 have h60 := K.lens.2.1
 have n0 : (0 : Int) ≤ (m : Int) := K.a0
 have n1 : (m : Int) < (c.length : Int) := K.a1
 have hm : m < c.length := by omega
 have w61 : (m : Int) ≤ 60 := by omega
 clear K hx
 refine sw_of rfl fun z0 z2 z4 u => ?_
 simp only [List.range, List.range.loop, List.map]
 obtain ⟨BP, PP, XP, IP, YP, OP, AP, EP, TP, GAI, GBI, GOW, YW, -, EPV0, -, o2, o3, o4, o5, o6⟩ := SP.out
 have EPV := hideH EPV0
 clear EPV0
 have i0 := IP.1 0 _ rfl
 rw [HKK.out] at i0
 obtain ⟨kt, ekt, hktx⟩ := HK.out.varTo (by rw [HKK.out]; rfl)
 have HKT := hideH ekt
 clear ekt
 have hn14 := (ckOne_parts HK.out.one).2.2.2.2.2.2.2.2 HKK.out
 have hwn : IntKind.i64.wrap (-i.n) = -i.n := by rw [IntKind.wrap_i64]; omega
 obtain ⟨gg, hgg⟩ : ∃ g : Gs, g = ⟨false, ⟨false, -i.n, i.n⟩, false, false, []⟩ := ⟨_, rfl⟩
 obtain ⟨ss, hss⟩ : ∃ a : Option Addr, a = none := ⟨_, rfl⟩
 obtain ⟨cp, hcp⟩ : ∃ a : Nat, a = 0 := ⟨_, rfl⟩
 have HGS : Hid (gg.s = []) := by show _ = _; simp [hgg, nullG]
 have HST : Hid (stepPic i (m : Int) x = if nothingGs gg then ([], false, false) else ([⟨(m : Int) + 1, setVar x i.to gg⟩], false, false)) := by show _ = _; rw [hgg]; simp [stepPic, comesGs, HK.out.kx.none, HKK.out]
 have hng : Hid (nothingGs gg = false) := by
  show _ = _
  rw [hgg]
  simp [nothingGs, otherGs, nullG]
 have HGG := hideH (And.intro hgg (And.intro hss hcp))
 clear hgg hss hcp 
 have z1 := TP.1 1 _ rfl
 have fz1 := TP.2.2 1
 have z2 := TP.1 2 _ rfl
 have fz2 := TP.2.2 2
 have z3 := TP.1 3 _ rfl
 have fz3 := TP.2.2 3
 have i4 := IP.1 4 _ rfl
 go_upto_region 84 with fail
 clear z1 fz1 z2 fz2 z3 fz3 i4
 obtain ⟨wx, ewx⟩ : ∃ q, q = setL wp (w11.heap.size) 1 [.bool false, .int .i64 (-i.n), .int .i64 i.n] := ⟨_, rfl⟩
 have PU := put_some TP 1 _ ewx
 exact prf_6421ee
theorem stepT_3 {T : Nat → Prop} {V F : Int} {s : Option Addr} {c : List Ins} {cap m : Nat} {i : Ins} {x : Pic} {vs : Option Addr} {vc : Nat} {fs : Option Addr} {fc : Nat} {w : World} {w3 w4 w7 w11 wp : World} {v : Ro} {gs : Option Addr} {gc : Nat} {L : List Ro} (hx : PicOn T w x vs fs) (K : SCtx V F c x vc fc i (m : Int)) (hk : i.k = 3) (SP : Hid (SPre T V F s c cap (m : Int) i x vs vc fs fc w wp (w.heap.size + 1 + 1) w3.heap.size w4.heap.size w7.heap.size (w7.heap.size + 1) w11.heap.size w3 v gs gc L noneG none 0 noneG none 0)) : SwT (fun e w' => StpAns (fun b => T b ∨ w.heap.size ≤ b) w' e (stepPic i (m : Int) x) ∧ Below w.heap.size w w') m w w3 w4 w7 w11 wp := by
 have HKK := hideH hk
 clear hk
 have HK := hideH K
 have HX := hideH hx
 have h60 := K.lens.2.1
 have n0 : (0 : Int) ≤ (m : Int) := K.a0
 have n1 : (m : Int) < (c.length : Int) := K.a1
 have hm : m < c.length := by omega
 have w61 : (m : Int) ≤ 60 := by omega
 clear K hx
 refine sw_of rfl fun z0 z2 z4 u => ?_
 simp only [List.range, List.range.loop, List.map]
 obtain ⟨BP, PP, XP, IP, YP, OP, AP, EP, TP, GAI, GBI, GOW, YW, -, EPV0, -, o2, o3, o4, o5, o6⟩ := SP.out
 have EPV := hideH EPV0
 clear EPV0
 have i0 := IP.1 0 _ rfl
 rw [HKK.out] at i0
 obtain ⟨kt, ekt, hktx⟩ := HK.out.varTo (by rw [HKK.out]; rfl)
 have HKT := hideH ekt
 clear ekt
 obtain ⟨gg, hgg⟩ : ∃ g : Gs, g = nullG := ⟨_, rfl⟩
 obtain ⟨ss, hss⟩ : ∃ a : Option Addr, a = none := ⟨_, rfl⟩
 obtain ⟨cp, hcp⟩ : ∃ a : Nat, a = 0 := ⟨_, rfl⟩
 have HGS : Hid (gg.s = []) := by show _ = _; simp [hgg, nullG]
 have HST : Hid (stepPic i (m : Int) x = if nothingGs gg then ([], false, false) else ([⟨(m : Int) + 1, setVar x i.to gg⟩], false, false)) := by show _ = _; rw [hgg]; simp [stepPic, comesGs, HK.out.kx.none, HKK.out]
 have hng : Hid (nothingGs gg = false) := by
  show _ = _
  rw [hgg]
  simp [nothingGs, otherGs, nullG]
 have HGG := hideH (And.intro hgg (And.intro hss hcp))
 clear hgg hss hcp 
 have z0 := TP.1 0 _ rfl
 have fz0 := TP.2.2 0
 go_upto_region 84 with fail
 clear z0 fz0
 obtain ⟨wx, ewx⟩ : ∃ q, q = setL wp (w11.heap.size) 0 [.bool true] := ⟨_, rfl⟩
 have PU := put_some TP 0 _ ewx
 exact prf_6421ee
theorem stepT_2 {T : Nat → Prop} {V F : Int} {s : Option Addr} {c : List Ins} {cap m : Nat} {i : Ins} {x : Pic} {vs : Option Addr} {vc : Nat} {fs : Option Addr} {fc : Nat} {w : World} {w3 w4 w7 w11 wp : World} {v : Ro} {gs : Option Addr} {gc : Nat} {L : List Ro} (hx : PicOn T w x vs fs) (K : SCtx V F c x vc fc i (m : Int)) (hk : i.k = 2) (SP : Hid (SPre T V F s c cap (m : Int) i x vs vc fs fc w wp (w.heap.size + 1 + 1) w3.heap.size w4.heap.size w7.heap.size (w7.heap.size + 1) w11.heap.size w3 v gs gc L noneG none 0 noneG none 0)) : SwT (fun e w' => StpAns (fun b => T b ∨ w.heap.size ≤ b) w' e (stepPic i (m : Int) x) ∧ Below w.heap.size w w') m w w3 w4 w7 w11 wp := by
 have HKK := hideH hk
 clear hk
 have HK := hideH K
 have HX := hideH hx
 have h60 := K.lens.2.1
 have n0 : (0 : Int) ≤ (m : Int) := K.a0
 have n1 : (m : Int) < (c.length : Int) := K.a1
 have hm : m < c.length := by omega
 have w61 : (m : Int) ≤ 60 := by omega
 clear K hx
 refine sw_of rfl fun z0 z2 z4 u => ?_
 simp only [List.range, List.range.loop, List.map]
 obtain ⟨BP, PP, XP, IP, YP, OP, AP, EP, TP, GAI, GBI, GOW, YW, -, EPV0, -, o2, o3, o4, o5, o6⟩ := SP.out
 have EPV := hideH EPV0
 clear EPV0
 have i0 := IP.1 0 _ rfl
 rw [HKK.out] at i0
 obtain ⟨kt, ekt, hktx⟩ := HK.out.varTo (by rw [HKK.out]; rfl)
 have HKT := hideH ekt
 clear ekt
 have hn2 := (ckOne_parts HK.out.one).2.2.2.2.2.2.2.1 HKK.out
 obtain ⟨gg, hgg⟩ : ∃ g : Gs, g = ⟨false, ⟨true, 0, 0⟩, decide (i.n = 1), decide (i.n = 0), []⟩ := ⟨_, rfl⟩
 obtain ⟨ss, hss⟩ : ∃ a : Option Addr, a = none := ⟨_, rfl⟩
 obtain ⟨cp, hcp⟩ : ∃ a : Nat, a = 0 := ⟨_, rfl⟩
 have HGS : Hid (gg.s = []) := by show _ = _; simp [hgg, nullG]
 have HST : Hid (stepPic i (m : Int) x = if nothingGs gg then ([], false, false) else ([⟨(m : Int) + 1, setVar x i.to gg⟩], false, false)) := by show _ = _; rw [hgg]; simp [stepPic, comesGs, HK.out.kx.none, HKK.out]
 have hng : Hid (nothingGs gg = false) := by
  show _ = _
  rw [hgg]
  rcases hn2 with h | h <;> simp [nothingGs, otherGs, h]
 have HGG := hideH (And.intro hgg (And.intro hss hcp))
 clear hgg hss hcp hn2
 have hdr : Below wp.heap.size wp wp.drew := (Below.refl _ _).drew
 have TQ := TP.call hdr
 have IQ := IP.call hdr
 have YQ := YP.call hdr
 have OQ := OP.call hdr
 have BQ := BP.trans (hdr.mono BP.size)
 have YWQ := YW.trans (hdr.mono YW.size)
 clear TP IP YP OP BP YW hdr PP XP AP EP
 go_upto_region 81 with fail
 refine wp_region_z (S := (fun wx => wx.cell? ⟨w.heap.size + 1 + 1, 4, none⟩ = some (.int .i64 i.n))) [9] (by kernel_rfl) (IQ.1 4 _ rfl) (fun hHeld => ?_)
 generalize wp.drew = wq at *
 refine tZ 0 ?_ ?_;refine sm ?_
 refine tZ 1 ?_ ?_;refine sm ?_
 refine tZ 2 ?_ ?_;refine sm ?_
 refine tZ 3 ?_ ?_;refine sm ?_
 refine tZ 4 ?_ ?_;refine sm ?_
 refine tZ 5 ?_ ?_;refine sm ?_
 refine tZ 6 ?_ ?_;refine sm ?_
 refine wpAnyZ_one (i := 7) rfl (by kernel_rfl) (fun K hK => ?_)
 have z4 := TQ.1 4 _ rfl
 have fz4 := TQ.2.2 4
 go_simp
 refine hK.out _ _ ?_ (fun hHeld => ?_)
 ·have h : Cells (wq.setCell ⟨w11.heap.size, 4, none⟩ (.bool (i.n == 1))) (w.heap.size + 1 + 1) _ := IQ.same (Below.heap_setCell _ _ _ _ (by simp only; omega)) (by simp [World.setCell])
  exact h.1 4 _ rfl
 clear hK K z4 fz4
 refine sm ?_
 have TQ4 := TQ.put 4 (by simp) (.bool (i.n == 1))
 refine tZ 8 ?_ ?_;refine sm ?_
 refine wpAnyZ_last (i := 9) rfl (by kernel_rfl) (by kernel_rfl) (fun K hK => ?_)
 have z5 := TQ4.1 5 _ rfl
 have fz5 := TQ4.2.2 5
 go_simp
 refine hK.out _ _ ?_
 clear hK K z5 fz5
 refine sm ?_
 refine wpAnyZ_done (by kernel_rfl) ?_ _
 clear TQ4
 generalize wq = wp at *
 have TP := TQ
 have IP := IQ
 have YP := YQ
 have OP := OQ
 have BP := BQ
 have YW := YWQ
 clear TQ IQ YQ OQ BQ YWQ
 go_upto_region 84 with fail
 obtain ⟨wx, ewx⟩ : ∃ q, q = setL wp (w11.heap.size) 4 [.bool (i.n == 1), .bool (i.n == 0)] := ⟨_, rfl⟩
 have PU := put_some TP 4 _ ewx
 exact prf_6421ee
end
section
open Go.RowKit
/-- What DoGuess answers to two guesses that are right. -/
theorem doRU2 {V F : Int} {c : List Ins} (g : Gs) (ss : Option Addr) (gc : Nat) (h : Gs) (st : Option Addr) (hc : Nat) (k : Int) (w : World) (hs : IntsAt w ss g.s) (hgl : g.s.length ≤ 9223372036854775807) (ht : IntsAt w st h.s) (hhl : h.s.length ≤ 9223372036854775807) (hck : ckAllG V F c [g, h] = 0) (hk : ¬ (k < 4 ∨ 10 < k)) :
  Calls Tryz.prog 27 #[.int .i64 k, gv g ss gc, gv h st hc] w fun e w' => ∃ vs vc, e = .returned (.tuple #[gv (doGs k g h).1 vs vc, .bool (doGs k g h).2]) ∧ (((doGs k g h).1.s = [] ∧ vs = none ∧ vc = 0) ∨ (vs = ss ∧ vc = gc ∧ (doGs k g h).1.s = g.s)) ∧ Below w.heap.size w w' := by
 obtain ⟨-, hg, hh⟩ := ckAllG_two hck
 have ok1 := ckSp_ok.mp (ckGs_sp hg)
 have ok2 := ckSp_ok.mp (ckGs_sp hh)
 have h7 : k = 4 ∨ k = 5 ∨ k = 6 ∨ k = 7 ∨ k = 8 ∨ k = 9 ∨ k = 10 := by omega
 rcases h7 with rfl | rfl | rfl | rfl | rfl | rfl | rfl
 ·refine (doR_4 w g ss gc h st hc).mono ?_
  rintro e w' ⟨rfl, hb⟩
  cases hn : nothingGs g
  ·exact ⟨ss, gc, by rw [if_neg (by simp), do_4], .inr ⟨rfl, rfl, by rw [do_4]⟩, hb⟩
  ·exact ⟨none, 0, by rw [if_pos rfl, do_4, nothing_eq hn hg], .inl ⟨by rw [do_4, nothing_eq hn hg]; rfl, rfl, rfl⟩, hb⟩
 ·refine (doR_5 w g ss gc h st hc ok1 ok2).mono ?_
  rintro e w' ⟨rfl, hb⟩
  cases hn : (nothingGs g || nothingGs h)
  ·exact ⟨none, 0, by rw [if_neg (by simp), do_567 (by omega) hn], .inl ⟨by rw [do_567 (by omega) hn], rfl, rfl⟩, hb⟩
  ·exact ⟨none, 0, by rw [if_pos rfl, do_none (by omega) hn], .inl ⟨by rw [do_none (by omega) hn]; rfl, rfl, rfl⟩, hb⟩
 ·refine (doR_6 w g ss gc h st hc ok1 ok2).mono ?_
  rintro e w' ⟨rfl, hb⟩
  cases hn : (nothingGs g || nothingGs h)
  ·exact ⟨none, 0, by rw [if_neg (by simp), do_567 (by omega) hn], .inl ⟨by rw [do_567 (by omega) hn], rfl, rfl⟩, hb⟩
  ·exact ⟨none, 0, by rw [if_pos rfl, do_none (by omega) hn], .inl ⟨by rw [do_none (by omega) hn]; rfl, rfl, rfl⟩, hb⟩
 ·refine (doR_7 w g ss gc h st hc ok1 ok2).mono ?_
  rintro e w' ⟨rfl, hb⟩
  cases hn : (nothingGs g || nothingGs h)
  ·exact ⟨none, 0, by rw [if_neg (by simp), do_567 (by omega) hn], .inl ⟨by rw [do_567 (by omega) hn], rfl, rfl⟩, hb⟩
  ·exact ⟨none, 0, by rw [if_pos rfl, do_none (by omega) hn], .inl ⟨by rw [do_none (by omega) hn]; rfl, rfl, rfl⟩, hb⟩
 ·refine (doR_8 w g ss gc h st hc).mono ?_
  rintro e w' ⟨rfl, hb⟩
  cases hn : (nothingGs g || nothingGs h)
  ·exact ⟨none, 0, by rw [if_neg (by simp), do_8 hn], .inl ⟨by rw [do_8 hn], rfl, rfl⟩, hb⟩
  ·exact ⟨none, 0, by rw [if_pos rfl, do_none (by omega) hn], .inl ⟨by rw [do_none (by omega) hn]; rfl, rfl, rfl⟩, hb⟩
 ·refine (doR_9 w g ss gc h st hc hs hgl ht hhl).mono ?_
  rintro e w' ⟨rfl, hb⟩
  cases hn : (nothingGs g || nothingGs h)
  ·exact ⟨none, 0, by rw [if_neg (by simp), do_9 hn], .inl ⟨by rw [do_9 hn], rfl, rfl⟩, hb⟩
  ·exact ⟨none, 0, by rw [if_pos rfl, do_none (by omega) hn], .inl ⟨by rw [do_none (by omega) hn]; rfl, rfl, rfl⟩, hb⟩
 ·refine (doR_10 w g ss gc h st hc).mono ?_
  rintro e w' ⟨rfl, hb⟩
  cases hn : nothingGs g
  ·exact ⟨none, 0, by rw [if_neg (by simp), do_10], .inl ⟨by rw [do_10], rfl, rfl⟩, hb⟩
  ·exact ⟨none, 0, by rw [if_pos rfl, do_10, nothing_eq hn hg, no_none.1, no_none.2]; rfl, .inl ⟨by rw [do_10], rfl, rfl⟩, hb⟩
end
end Go.Proofs.YtmapdpcfanecdabGreat
