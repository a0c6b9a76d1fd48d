/- What is put into a field, site by site: pictures and their rows. -/
import Derived.Test.YtmapdpcfanecdabGreatKstpxp30
import Derived.Test.YtmapdpcfanecdabGreatKstpxp08
import Derived.Deep.DeepCutAuto
import Derived.Test.YtmapdpcfanecdabGreatKstpxp29
import Derived.Test.YtmapdpcfanecdabGreatKstpxp28
set_option linter.unusedSimpArgs false
set_option linter.unusedVariables false
namespace Go.Proofs.YtmapdpcfanecdabGreat
section
set_option maxHeartbeats 4000000
set_option maxRecDepth 10000
open Go.RowKit
attribute [local go_sem ↓] Go.wp_at_zero Go.wp_at_succ

theorem makeThing_of (x' : Pic) (EL : List Ed) (es : Option Addr) (ec : Nat) (sb : Nat) (i : Ins) (V F : Int) (s : Option Addr) (c : List Ins) (cap : Nat) (at_ : Int) (x : Pic) (vs : Option Addr) (vc : Nat) (fs : Option Addr) (fc : Nat) (wr fl : Bool) (w0 w : World) (hS : Cells w sb (stpC i V F s c cap at_ x vs vc fs fc (.slice es EL.length ec) wr fl)) (hc0 : CodeAt w0 s c) (hx0 : PicAt w0 x vs fs) (hz0 : w0.heap.size ≤ sb) (hB0 : Below w0.heap.size w0 w) (K : SCtx V F c x vc fc i at_) (hER : ERow sb sb w (.slice es EL.length ec) EL) (hL2 : EL.length ≤ 10) (HC : ∀ wx, Below w.heap.size w wx → Cells wx sb (stpC i V F s c cap at_ x vs vc fs fc (.slice es EL.length ec) wr fl) → Cells wx w.heap.size [.pointer (some ⟨sb, 0, none⟩)] → ChangeC 79 (fun p => #[p, .pointer (some ⟨w.heap.size, 0, none⟩)]) sb sb (Value.slice es EL.length ec).ownBlock wx x x') :
  Calls Tryz.prog 44 #[.pointer (some ⟨sb, 0, none⟩)] w fun e w' => e = .returned (.tuple #[]) ∧ EdgAns sb w' (fun ev' => stpC i V F s c cap at_ x vs vc fs fc ev' wr fl) EL ([⟨at_ + 1, x'⟩]) ∧ Below sb w w' := by
 have hsb := hS.2.1
 have ha0 := K.a0
 have ha1 : at_ ≤ 1000 := by have := K.a1; have := K.lens; omega
 have hb1 : Below w.heap.size w (w.alloc (.cells #[.pointer (some ⟨sb, 0, none⟩)] 88)) := by go_grown
 have hP1 : Cells (w.alloc (.cells #[.pointer (some ⟨sb, 0, none⟩)] 88)) w.heap.size [.pointer (some ⟨sb, 0, none⟩)] := Cells.new w 88 [.pointer (some ⟨sb, 0, none⟩)]
 have hbw := hb1.drew
 have hP2 := hP1.call (Below.refl _ _).drew
 have PQ := hP2.1 0 _ rfl
 have PQ0 := PQ
 have HE : Hid (∀ wx, Below w.heap.size w wx → Cells wx w.heap.size [.pointer (some ⟨sb, 0, none⟩)] → Calls Tryz.prog 49 #[.pointer (some ⟨sb, 0, none⟩), .int .i64 (at_ + 1), .func (.func 79) #[] #[.pointer (some ⟨w.heap.size, 0, none⟩)]] wx fun e w' => e = .returned (.tuple #[]) ∧ (∃ ev' q, Cells w' sb (stpC i V F s c cap at_ x vs vc fs fc ev' wr fl) ∧ ERow sb sb w' ev' (EL ++ [q]) ∧ edG q = ⟨at_ + 1, x'⟩) ∧ Below sb wx w') := fun wx hb hp =>
  edge_new sb (at_ + 1) _ w.heap.size EL es ec sb i V F s c cap at_ x vs vc fs fc wr fl w0 wx (hS.call hb) hc0 hx0 hz0 (hB0.trans (hb.mono hB0.size)) K rfl (hER.call hb) hL2 (HC wx hb (hS.call hb) hp)
 have CQ := hS.call hbw
 clear hS hER hc0 hx0 hB0 K hz0 hP1 hb1 HC
 generalize x' = xx at *
 go_enter Tryz.func44, Tryz.ntmps44
 go_upto_region 1 with fail
 refine wp_region_z (S := (fun wx => wx.cell? ⟨w.heap.size, 0, none⟩ = some (.pointer (some ⟨sb, 0, none⟩)))) [4] (by kernel_rfl) PQ0 (fun hHeld => ?_)
 generalize (w.alloc (.cells #[.pointer (some ⟨sb, 0, none⟩)] 88)).drew = wq at *
 refine tZ 0 ?_ ?_;refine sm ?_
 refine tZ 1 ?_ ?_;refine sm ?_
 refine tZ 3 ?_ ?_;refine sm ?_
 refine wpAnyZ_one (i := 2) rfl (by kernel_rfl) (fun K hK => ?_)
 go_simp
 refine (next_any sb at_ _ wq CQ rfl ha0 ha1).mono ?_
 rintro e w' ⟨rfl, ew⟩
 rw [ew]
 clear ew w'
 refine hK.out _ _ PQ (fun hHeld => ?_)
 clear hK K
 refine sm ?_
 refine wpAnyZ_last (i := 4) rfl (by kernel_rfl) (by kernel_rfl) (fun K hK => ?_)
 go_simp
 refine (HE.out wq hbw hP2).mono ?_
 rintro e w3 ⟨rfl, ⟨ev', q, C3, E3, eq3⟩, hb3⟩
 have HF : Hid (EdgAns sb w3 (fun ev' => stpC i V F s c cap at_ x vs vc fs fc ev' wr fl) EL [⟨at_ + 1, xx⟩]) := ⟨ev', [q], C3, E3, by simp [eq3]⟩
 have hbz : Below sb w w3 := (hbw.mono (Nat.le_of_lt hsb)).trans hb3
 clear C3 E3 eq3 hb3 hP2 HE PQ CQ hbw
 refine hK.out _ _ ?_
 clear hK K
 refine sm ?_
 refine wpAnyZ_done (by kernel_rfl) ?_ _
 first | go_end0 | refine bodyPost_ret (results_none rfl _ _ _) rfl ?_
 exact ⟨rfl, HF.out, hbz⟩
end
section
set_option maxHeartbeats 4000000
set_option maxRecDepth 10000
open Go.RowKit
attribute [local go_sem ↓] Go.wp_at_zero Go.wp_at_succ

theorem put_of (x' : Pic) (EL : List Ed) (es : Option Addr) (ec : Nat) (sb : Nat) (i : Ins) (V F : Int) (s : Option Addr) (c : List Ins) (cap : Nat) (at_ : Int) (x : Pic) (vs : Option Addr) (vc : Nat) (fs : Option Addr) (fc : Nat) (wr fl : Bool) (w0 w : World) (hS : Cells w sb (stpC i V F s c cap at_ x vs vc fs fc (.slice es EL.length ec) wr fl)) (hc0 : CodeAt w0 s c) (hx0 : PicAt w0 x vs fs) (hz0 : w0.heap.size ≤ sb) (hB0 : Below w0.heap.size w0 w) (K : SCtx V F c x vc fc i at_) (hER : ERow sb sb w (.slice es EL.length ec) EL) (hL2 : EL.length ≤ 10) (hA : nA i.k = true) (HC : ∀ wx ss gc tb, Below w0.heap.size w0 wx → Cells wx sb (stpC i V F s c cap at_ x vs vc fs fc (.slice es EL.length ec) (noThing (gAt x i.a)) fl) → Cells wx w.heap.size [.pointer (some ⟨sb, 0, none⟩)] → Cells wx tb [.slice ss (gAt x i.a).s.length gc] → IntsAt w0 ss (gAt x i.a).s → ChangeC 81 (fun p => #[p, .pointer (some ⟨tb, 0, none⟩), .pointer (some ⟨w.heap.size, 0, none⟩)]) sb sb (Value.slice es EL.length ec).ownBlock wx x x') :
  Calls Tryz.prog 45 #[.pointer (some ⟨sb, 0, none⟩)] w fun e w' => e = .returned (.tuple #[]) ∧ EdgAns sb w' (fun ev' => stpC i V F s c cap at_ x vs vc fs fc ev' (noThing (gAt x i.a)) fl) EL (if (gAt x i.a).s.length = 0 then [] else [⟨at_ + 1, x'⟩]) ∧ Below sb w w' := by
 have hsb := hS.2.1
 have ha0 := K.a0
 have ha1 : at_ ≤ 1000 := by have := K.a1; have := K.lens; omega
 have hb1 : Below w.heap.size w (w.alloc (.cells #[.pointer (some ⟨sb, 0, none⟩)] 88)) := by go_grown
 have hP1 : Cells (w.alloc (.cells #[.pointer (some ⟨sb, 0, none⟩)] 88)) w.heap.size [.pointer (some ⟨sb, 0, none⟩)] := Cells.new w 88 [.pointer (some ⟨sb, 0, none⟩)]
 have HT := hideH (things_any sb i V F s c cap at_ x vs vc fs fc _ wr fl w0 (w.alloc (.cells #[.pointer (some ⟨sb, 0, none⟩)] 88)) (hS.call hb1) hc0 hx0 hz0 (hB0.trans (hb1.mono hB0.size)) K hA)
 have HE : Hid (∀ wx, Below w0.heap.size w0 wx → Cells wx sb (stpC i V F s c cap at_ x vs vc fs fc (.slice es EL.length ec) (noThing (gAt x i.a)) fl) → ERow sb sb wx (.slice es EL.length ec) EL → ∀ tb ss gc, IntsAt w0 ss (gAt x i.a).s → Cells wx w.heap.size [.pointer (some ⟨sb, 0, none⟩)] → Cells wx tb [.slice ss (gAt x i.a).s.length gc] → Calls Tryz.prog 49 #[.pointer (some ⟨sb, 0, none⟩), .int .i64 (at_ + 1), .func (.func 81) #[] #[.pointer (some ⟨tb, 0, none⟩), .pointer (some ⟨w.heap.size, 0, none⟩)]] wx fun e w' => e = .returned (.tuple #[]) ∧ (∃ ev' q, Cells w' sb (stpC i V F s c cap at_ x vs vc fs fc ev' (noThing (gAt x i.a)) fl) ∧ ERow sb sb w' ev' (EL ++ [q]) ∧ edG q = ⟨at_ + 1, x'⟩) ∧ Below sb wx w') := fun wx hb hs hr tb ss gc hi hp hq =>
  edge_put sb (at_ + 1) _ tb w.heap.size EL es ec sb i V F s c cap at_ x vs vc fs fc _ fl w0 wx hs hc0 hx0 hz0 hb K rfl hr hL2 (HC wx ss gc tb hb hs hp hq hi)
 have hER1 := hER.call hb1
 have hB1 := hB0.trans (hb1.mono hB0.size)
 have hzz := hideH hz0
 clear hS hER hc0 hx0 hB0 K hz0 HC hA
 generalize x' = xx at *
 generalize eN : noThing (gAt x i.a) = nt at *
 clear eN
 generalize eL : (gAt x i.a).s = l at *
 clear eL
 generalize eM : l.length = ln at *
 go_enter Tryz.func45, Tryz.ntmps45
 go_wp2_with (go_at_call 80; fail)
 generalize eW : w.alloc (.cells #[.pointer (some ⟨sb, 0, none⟩)] 88) = w1 at *
 refine HT.out.mono ?_
 rintro e w2 ⟨⟨ss, gc, rfl, hi, hl1, hl2⟩, C2, M2⟩
 have hP2 : Cells w2 w.heap.size [.pointer (some ⟨sb, 0, none⟩)] := hP1.same (M2.2 _ hP1.2.1 (Nat.ne_of_gt hsb)) M2.1.size
 have hE2 := hER1.same (fun b _ hne hlt => M2.2 b hlt hne) M2.1.size
 have hB2 : Below w0.heap.size w0 w2 := hB1.trans (M2.1.mono hzz.out)
 have hM2 : Below sb w w2 := (hb1.mono (Nat.le_of_lt hsb)).trans M2.1
 clear hP1 hER1 hB1 hb1 M2 HT eW
 have hb3 : Below w2.heap.size w2 (w2.alloc (.cells #[.slice ss ln gc] 59)) := by go_grown
 have T3 : Cells (w2.alloc (.cells #[.slice ss ln gc] 59)) w2.heap.size [.slice ss ln gc] := Cells.new w2 59 [.slice ss ln gc]
 have hzb : sb ≤ w2.heap.size := Nat.le_of_lt C2.2.1
 have C3 := C2.call hb3
 have P3 := hP2.call hb3
 have R3 := hE2.call hb3
 have B3 := hB2.trans (hb3.mono hB2.size)
 have M3 := hM2.trans (hb3.mono hzb)
 have HE3 := hideH (fun wx h1 h2 h3 => HE.out wx h1 h2 h3 w2.heap.size ss gc hi)
 clear HE C2 hP2 hE2 hB2 hM2 hzb hi hb3
 have t0 := T3.1 0 _ rfl
 have p0 := P3.1 0 _ rfl
 have HH := hideH (And.intro C3 (And.intro P3 (And.intro R3 (And.intro B3 (And.intro M3 T3)))))
 clear C3 P3 R3 B3 M3 T3
 have HQ : Hid (l.length = ln) := eM
 clear eM
 rcases Nat.eq_zero_or_pos ln with hz | hz
 ·subst hz
  obtain ⟨C3, P3, R3, B3, M3, T3⟩ := HH.out
  have HF : Hid (EdgAns sb (w2.alloc (.cells #[.slice ss 0 gc] 59)) (fun ev' => stpC i V F s c cap at_ x vs vc fs fc ev' nt fl) EL []) := ⟨_, [], C3, by rw [List.append_nil]; exact R3, rfl⟩
  have hbz : Below sb w (w2.alloc (.cells #[.slice ss 0 gc] 59)) := M3
  clear C3 P3 R3 B3 M3 T3 HE3 HH
  go_wp2
  first | go_end0 | refine bodyPost_ret (results_none rfl _ _ _) rfl ?_
  exact ⟨rfl, HF.out, hbz⟩
 ·have hc : ((ln : Int) == 0) = false := by simp; omega
  have hn : ¬ ln = 0 := by omega
  have HNZ := hideH hn
  clear hn hz
  go_upto_region 3 with fail
  generalize eW : w2.alloc (.cells #[.slice ss ln gc] 59) = w3 at *
  clear eW
  obtain ⟨C3, P3, R3, B3, M3, T3⟩ := HH.out
  have hdr : Below w3.heap.size w3 w3.drew := (Below.refl _ _).drew
  have CQ := C3.call hdr
  have hPq := P3.call hdr
  have hRq := R3.call hdr
  have hBq := B3.drew
  have hMq := M3.drew
  have hTq := T3.call hdr
  have PQ := hPq.1 0 _ rfl
  clear C3 P3 R3 B3 M3 T3 HH hdr t0 p0
  refine wp_region_z (S := (fun wx => wx.cell? ⟨w.heap.size, 0, none⟩ = some (.pointer (some ⟨sb, 0, none⟩)))) [4] (by kernel_rfl) PQ (fun hHeld => ?_)
  generalize w3.drew = wq at *
  refine tZ 0 ?_ ?_;refine sm ?_
  refine tZ 1 ?_ ?_;refine sm ?_
  refine tZ 3 ?_ ?_;refine sm ?_
  refine wpAnyZ_one (i := 2) rfl (by kernel_rfl) (fun K hK => ?_)
  go_simp
  refine (next_any sb at_ _ wq CQ rfl ha0 ha1).mono ?_
  rintro e w' ⟨rfl, ew⟩
  rw [ew]
  clear ew w'
  refine hK.out _ _ PQ (fun hHeld => ?_)
  clear hK K
  refine sm ?_
  refine wpAnyZ_last (i := 4) rfl (by kernel_rfl) (by kernel_rfl) (fun K hK => ?_)
  go_simp
  refine (HE3.out wq hBq CQ hRq hPq hTq).mono ?_
  rintro e w4 ⟨rfl, ⟨ev', q, C3, E3, eq3⟩, hb3⟩
  have HF : Hid (EdgAns sb w4 (fun ev' => stpC i V F s c cap at_ x vs vc fs fc ev' nt fl) EL [⟨at_ + 1, xx⟩]) := ⟨ev', [q], C3, E3, by simp [eq3]⟩
  have hbz : Below sb w w4 := hMq.trans hb3
  clear C3 E3 eq3 hb3 hPq hTq HE3 PQ CQ hMq hBq hRq
  refine hK.out _ _ ?_
  clear hK K
  refine sm ?_
  refine wpAnyZ_done (by kernel_rfl) ?_ _
  first | go_end0 | refine bodyPost_ret (results_none rfl _ _ _) rfl ?_
  exact ⟨rfl, by rw [if_neg HNZ.out]; exact HF.out, hbz⟩
end
section
open Go.RowKit
def nulC (y : Gc) : Gc := ⟨{ y.g with n := true }, y.ss, y.cap⟩
def nulL (j : Nat) (l : List Gc) : List Gc := (l.take j).map nulC ++ l.drop j
theorem nulL_len (j : Nat) (l : List Gc) : (nulL j l).length = l.length := by simp [nulL]; omega
theorem nulL_get {j : Nat} {l : List Gc} (h : j < l.length) : (nulL j l)[j]'(by rw [nulL_len]; exact h) = l[j] := by
 simp only [nulL]
 rw [List.getElem_append_right (by simp; omega)]
 simp only [List.length_map, List.length_take, List.getElem_drop]
 congr 1
 omega
theorem nulL_step {j : Nat} {l : List Gc} (h : j < l.length) : (nulL j l).set j (nulC l[j]) = nulL (j + 1) l := by
 unfold nulL
 rw [List.set_append_right _ _ (by simp; omega), List.take_succ_eq_append_getElem h, List.map_append, List.append_assoc, List.drop_eq_getElem_cons h]
 have e : j - (List.map nulC (l.take j)).length = 0 := by simp; omega
 rw [e]
 rfl
theorem nulL_end {j : Nat} {l : List Gc} (h : l.length ≤ j) : nulL j l = l.map nulC := by simp [nulL, List.take_of_length_le h, List.drop_of_length_le h]
theorem nulL_zero (l : List Gc) : nulL 0 l = l := by simp [nulL]
def nulR (L : List Ro) (m j : Nat) (hm : m < L.length) : List Ro := L.set m ⟨L[m].rs, L[m].rc, nulL j L[m].l⟩
theorem nulR_len (L : List Ro) (m j : Nat) (hm : m < L.length) : (nulR L m j hm).length = L.length := by simp [nulR]
theorem nulR_get (L : List Ro) (m j : Nat) (hm : m < L.length) : (nulR L m j hm)[m]'(by rw [nulR_len]; exact hm) = ⟨L[m].rs, L[m].rc, nulL j L[m].l⟩ := by simp [nulR]
theorem nulR_zero (L : List Ro) (m : Nat) (hm : m < L.length) : nulR L m 0 hm = L := by
 unfold nulR
 rw [nulL_zero]
 exact List.set_getElem_self hm
theorem nulR_roV (L : List Ro) (m j : Nat) (hm : m < L.length) : roV ((nulR L m j hm)[m]'(by rw [nulR_len]; exact hm)) = .slice L[m].rs L[m].l.length L[m].rc := by rw [nulR_get]; unfold roV; rw [nulL_len]
theorem nulR_roB (L : List Ro) (m j : Nat) (hm : m < L.length) : (nulR L m j hm).map roB = L.map roB := by
 unfold nulR
 rw [List.map_set, roB_set (v := L[m]) (nulL_len _ _), ← List.getElem_map (f := roB) (h := by simpa using hm), List.set_getElem_self]
section
variable {T : Nat → Prop} {B : Nat} {w : World} {v : Ro} {fs : Option Addr} {fc : Nat} {L : List Ro} {m j b : Nat}
theorem PicG.nul {hm : m < L.length} (h : PicG T B w v fs fc (nulR L m j hm)) (hb : L[m].rs = some ⟨b, 0, none⟩) (hj : j < L[m].l.length) : PicG T B (w.setCell ⟨b, j * 7, none⟩ (.bool true)) v fs fc (nulR L m (j + 1) hm) := by
 have hm' : m < (nulR L m j hm).length := by rw [nulR_len]; exact hm
 have e0 := nulR_get L m j hm
 have hk : j < (nulR L m j hm)[m].l.length := by rw [e0]; simpa [nulL_len] using hj
 have e1 : (nulR L m j hm)[m].l[j] = L[m].l[j] := by
  have : ∀ (r : Ro) (hr : (nulR L m j hm)[m] = r) (h' : j < r.l.length), (nulR L m j hm)[m].l[j] = r.l[j] := by intro r hr h'; subst hr; rfl
  rw [this _ e0 (by simpa [nulL_len] using hj)]
  exact nulL_get hj
 have g1 := h.sf _ (List.getElem_mem hm') _ (List.getElem_mem hk)
 rw [e1] at g1
 have h1 := h.putF hm' (b := b) (by rw [e0]; exact hb) (k := j) (j := 0) (u := .bool true) (x' := nulC L[m].l[j]) hk (by omega) (by rw [e1]; rfl) ⟨g1.1, g1.2⟩
 rw [e0] at h1
 have e2 : (nulR L m j hm).set m ⟨L[m].rs, L[m].rc, (nulL j L[m].l).set j (nulC L[m].l[j])⟩ = nulR L m (j + 1) hm := by
  rw [nulL_step hj]
  unfold nulR
  rw [List.set_set]
 rw [e2] at h1
 exact h1
theorem nulR_off {hm : m < L.length} {fb : Option Nat} {q : Nat} : Off v fb (nulR L m j hm) q ↔ Off v fb L q := by
 have : (∀ r ∈ nulR L m j hm, roB r ≠ some q) ↔ ∀ r ∈ L, roB r ≠ some q := by
  have h1 : ∀ l : List Ro, (∀ r ∈ l, roB r ≠ some q) ↔ ∀ o ∈ l.map roB, o ≠ some q := fun l => by simp
  rw [h1, h1, nulR_roB]
 unfold Off
 rw [this]
theorem nulR_pic {hm : m < L.length} {n : Bool} (hj : L[m].l.length ≤ j) : picOf n v (nulR L m j hm) = newPic (m : Int) (picOf n v L) := by
 unfold nulR picOf newPic
 rw [nulL_end hj]
 simp only [List.map_set, roG, Int.toNat_natCast, List.map_map]
 congr 1
 refine List.ext_getElem? fun q => ?_
 rw [List.getElem?_set, List.getElem?_modify]
 by_cases e : m = q
 ·subst e
  simp [hm, roG, nulC, Function.comp_def]
 ·simp [e]
end
end
section
set_option maxHeartbeats 8000000
set_option maxRecDepth 10000
open Go.RowKit
attribute [local go_sem ↓] Go.wp_at_zero Go.wp_at_succ

theorem ch_new (n sb : Nat) (eb : Option Nat) (i : Ins) (V F : Int) (s : Option Addr) (c : List Ins) (cap : Nat) (at_ : Int) (x : Pic) (vs : Option Addr) (vc : Nat) (fs : Option Addr) (fc : Nat) (ev : Value) (wr fl : Bool) (pb : Nat) (w : World) (hS : Cells w sb (stpC i V F s c cap at_ x vs vc fs fc ev wr fl)) (hP : Cells w pb [.pointer (some ⟨sb, 0, none⟩)]) (hk : ∃ k : Nat, i.to = k ∧ k < x.vars.length) (hm : ∃ m : Nat, at_ = m ∧ m < x.flds.length) (hn : n ≤ w.heap.size) (he : ∀ b, eb = some b → b < w.heap.size) :
  ChangeC 79 (fun p => #[p, .pointer (some ⟨pb, 0, none⟩)]) n sb eb w x (setVar (newPic at_ x) i.to ⟨false, ⟨true, 0, 0⟩, false, false, [at_]⟩) := by
 intro wx xb v gs gcc L hb0 hp
 obtain ⟨zxb, A0, G0, OF, EX⟩ := hp
 have hdr : Below wx.heap.size wx wx.drew := (Below.refl _ _).drew
 have hb := hb0.drew
 have A := A0.call hdr
 have G := G0.call hdr
 have hsz : w.heap.size ≤ wx.heap.size := hb0.size
 have hzd : wx.heap.size ≤ wx.drew.heap.size := hdr.size
 have hbd : Below w.heap.size wx wx.drew := hdr.mono hsz
 clear hb0 A0 G0 hdr
 obtain ⟨k, ek, hkx⟩ := hk
 obtain ⟨m, em, hmx⟩ := hm
 have hkv : k < v.l.length := by rw [← EX] at hkx; simpa [picOf, roG] using hkx
 have hmL : m < L.length := by rw [← EX] at hmx; simpa [picOf] using hmx
 obtain ⟨vb, evb, eb1, hvb, zvb⟩ := G.vars.form (by omega)
 have nxv : xb ≠ vb := fun e => OF.1 (by rw [eb1, e])
 obtain ⟨fb, efb, hfb, zfb, -⟩ := G.fform (by omega)
 subst efb
 have hLM : L[m].l.length ≤ 9223372036854775807 := by
  have h := (G.rows _ (List.getElem_mem hmL)).caps
  unfold maxLen at h
  omega
 have n0 : (0 : Int) ≤ (k : Int) := by omega
 have n1 : (k : Int) < (v.l.length : Int) := by omega
 have m0 : (0 : Int) ≤ (m : Int) := by omega
 have m1 : (m : Int) < (L.length : Int) := by omega
 have hsb := hS.2.1
 have hxb := A.2.1
 have HSP : Hid (∀ wz, Below w.heap.size w wz → wz.cell? ⟨pb, 0, none⟩ = some (.pointer (some ⟨sb, 0, none⟩)) ∧ wz.cell? ⟨sb, 1, none⟩ = some (.int .i64 (k : Int)) ∧ wz.cell? ⟨sb, 9, none⟩ = some (.int .i64 (m : Int))) := fun wz hz => ⟨(hP.call hz).1 0 _ rfl, by rw [← ek]; exact (hS.call hz).1 1 _ rfl, by rw [← em]; exact (hS.call hz).1 9 _ rfl⟩
 have HKZ : Hid (∀ wz, Below wx.drew.heap.size wx.drew wz → wz.cell? ⟨xb, 1, none⟩ = some (.slice (some ⟨vb, 0, none⟩) v.l.length v.rc) ∧ wz.cell? ⟨pb, 0, none⟩ = some (.pointer (some ⟨sb, 0, none⟩)) ∧ wz.cell? ⟨sb, 1, none⟩ = some (.int .i64 (k : Int)) ∧ wz.cell? ⟨sb, 9, none⟩ = some (.int .i64 (m : Int))) := fun wz hz => by
  have h1 := (A.call hz).1 1 _ rfl
  rw [evb] at h1
  have h2 := HSP.out wz (hb.trans (hz.mono (Nat.le_trans hsz hzd)))
  exact ⟨h1, h2.1, h2.2.1, h2.2.2⟩
 have hba : Below wx.drew.heap.size wx.drew (wx.drew.alloc (.cells #[.int .i64 (m : Int)] 3)) := by go_grown
 have GN := G.call hba
 have GI : GcIn (fun b => ClT n sb eb xb b ∧ Off v (Value.slice (some ⟨fb, 0, none⟩) L.length gcc).ownBlock L b) (wx.drew.alloc (.cells #[.int .i64 (m : Int)] 3)) (⟨⟨false, ⟨true, 0, 0⟩, false, false, [(m : Int)]⟩, some ⟨wx.drew.heap.size, 0, none⟩, 1⟩ : Gc) := by
  refine ⟨.inr ⟨_, 0, rfl, ⟨⟨by omega, by omega, by omega, fun e => by have := he _ e; omega⟩, fun e => ?_, fun e => ?_, fun r hr e => ?_⟩, by simp, fun q hq => ?_⟩, Nat.le_refl _, by show 1 ≤ maxLen; unfold maxLen; omega⟩
  ·have := (G.vars.lt e).1; omega
  ·have := (ownsI_lt G.flds e).1; omega
  ·have := ((G.rows r hr).lt e).1; omega
  ·have eq0 : q = 0 := by simpa using hq
   subst eq0
   simp [go_sem]
 have GZ := GN.setV evb hkv GI
 have GU := GN.vars.gu evb hkv
 have TH := hideH (GN.vars.thaw evb)
 have hbx : Below w.heap.size wx (set7 (wx.drew.alloc (.cells #[.int .i64 (m : Int)] 3)) vb k (⟨⟨false, ⟨true, 0, 0⟩, false, false, [(m : Int)]⟩, some ⟨wx.drew.heap.size, 0, none⟩, 1⟩ : Gc)) := below_set7 (hbd.trans (hba.mono (Nat.le_trans hsz hzd))) hvb
 have hbw : Below w.heap.size w (set7 (wx.drew.alloc (.cells #[.int .i64 (m : Int)] 3)) vb k (⟨⟨false, ⟨true, 0, 0⟩, false, false, [(m : Int)]⟩, some ⟨wx.drew.heap.size, 0, none⟩, 1⟩ : Gc)) := below_set7 (hb.trans (hba.mono (Nat.le_trans hsz hzd))) hvb
 have AZ : Cells (set7 (wx.drew.alloc (.cells #[.int .i64 (m : Int)] 3)) vb k (⟨⟨false, ⟨true, 0, 0⟩, false, false, [(m : Int)]⟩, some ⟨wx.drew.heap.size, 0, none⟩, 1⟩ : Gc)) xb [.bool false, .slice v.rs v.l.length v.rc, .slice (some ⟨fb, 0, none⟩) L.length gcc] := (A.call hba).same (heap_set7 nxv) (by rw [size_set7]; exact Nat.le_refl _)
 have HH : Hid (∃ y : Gc, y.g = ⟨false, ⟨true, 0, 0⟩, false, false, [(m : Int)]⟩ ∧ PicG (ClT n sb eb xb) w.heap.size ((((((((wx.drew.alloc (.cells #[.int .i64 (m : Int)] 3)).setCell ⟨vb, k * 7, none⟩ (.bool false)).setCell ⟨vb, k * 7 + 1, none⟩ (.bool true)).setCell ⟨vb, k * 7 + 2, none⟩ (.int .i64 0)).setCell ⟨vb, k * 7 + 3, none⟩ (.int .i64 0)).setCell ⟨vb, k * 7 + 4, none⟩ (.bool false)).setCell ⟨vb, k * 7 + 5, none⟩ (.bool false)).setCell ⟨vb, k * 7 + 6, none⟩ (.slice (some ⟨wx.drew.heap.size, 0, none⟩) 1 1)) ⟨v.rs, v.rc, v.l.set k y⟩ (some ⟨fb, 0, none⟩) gcc L ∧ Below w.heap.size wx ((((((((wx.drew.alloc (.cells #[.int .i64 (m : Int)] 3)).setCell ⟨vb, k * 7, none⟩ (.bool false)).setCell ⟨vb, k * 7 + 1, none⟩ (.bool true)).setCell ⟨vb, k * 7 + 2, none⟩ (.int .i64 0)).setCell ⟨vb, k * 7 + 3, none⟩ (.int .i64 0)).setCell ⟨vb, k * 7 + 4, none⟩ (.bool false)).setCell ⟨vb, k * 7 + 5, none⟩ (.bool false)).setCell ⟨vb, k * 7 + 6, none⟩ (.slice (some ⟨wx.drew.heap.size, 0, none⟩) 1 1)) ∧ Below w.heap.size w ((((((((wx.drew.alloc (.cells #[.int .i64 (m : Int)] 3)).setCell ⟨vb, k * 7, none⟩ (.bool false)).setCell ⟨vb, k * 7 + 1, none⟩ (.bool true)).setCell ⟨vb, k * 7 + 2, none⟩ (.int .i64 0)).setCell ⟨vb, k * 7 + 3, none⟩ (.int .i64 0)).setCell ⟨vb, k * 7 + 4, none⟩ (.bool false)).setCell ⟨vb, k * 7 + 5, none⟩ (.bool false)).setCell ⟨vb, k * 7 + 6, none⟩ (.slice (some ⟨wx.drew.heap.size, 0, none⟩) 1 1)) ∧ Cells ((((((((wx.drew.alloc (.cells #[.int .i64 (m : Int)] 3)).setCell ⟨vb, k * 7, none⟩ (.bool false)).setCell ⟨vb, k * 7 + 1, none⟩ (.bool true)).setCell ⟨vb, k * 7 + 2, none⟩ (.int .i64 0)).setCell ⟨vb, k * 7 + 3, none⟩ (.int .i64 0)).setCell ⟨vb, k * 7 + 4, none⟩ (.bool false)).setCell ⟨vb, k * 7 + 5, none⟩ (.bool false)).setCell ⟨vb, k * 7 + 6, none⟩ (.slice (some ⟨wx.drew.heap.size, 0, none⟩) 1 1)) xb [.bool false, .slice v.rs v.l.length v.rc, .slice (some ⟨fb, 0, none⟩) L.length gcc]) := ⟨(⟨⟨false, ⟨true, 0, 0⟩, false, false, [(m : Int)]⟩, some ⟨wx.drew.heap.size, 0, none⟩, 1⟩ : Gc), rfl, GZ, hbx, hbw, AZ⟩
 have HEX : Hid (picOf false v L = x) := EX
 have HOF : Hid (Off v (Value.slice (some ⟨fb, 0, none⟩) L.length gcc).ownBlock L xb) := OF
 have HEK : Hid (i.to = k ∧ at_ = m) := ⟨ek, em⟩
 have HEV : Hid (v.rs = some ⟨vb, 0, none⟩) := evb
 clear GZ hbx hbw AZ GI GN A G EX OF ek em hS hP hb hbd he hn evb eb1 hkx hmx hsz hzd
 go_enter Tryz.func79, Tryz.ntmps79
 go_upto_region 0 with fail
 refine wp_region_z (S := (fun wx => wx.cell? ⟨xb, 1, none⟩ = some (.slice (some ⟨vb, 0, none⟩) v.l.length v.rc) ∧ wx.cell? ⟨pb, 0, none⟩ = some (.pointer (some ⟨sb, 0, none⟩)) ∧ wx.cell? ⟨sb, 1, none⟩ = some (.int .i64 (k : Int)) ∧ wx.cell? ⟨sb, 9, none⟩ = some (.int .i64 (m : Int)))) [17] (by kernel_rfl) (HKZ.out _ (Below.refl _ _)) (fun hHeld => ?_)
 generalize wx.drew = wq at *
 refine tZ 0 ?_ ?_;refine sm ?_
 refine tZ 1 ?_ ?_;refine sm ?_
 refine tZ 2 ?_ ?_;refine sm ?_
 refine tZ 3 ?_ ?_;refine sm ?_
 refine tZ 4 ?_ ?_;refine sm ?_
 refine tZ 5 ?_ ?_;refine sm ?_
 refine tZ 6 ?_ ?_;refine sm ?_
 refine tZ 7 ?_ ?_;refine sm ?_
 refine tZ 8 ?_ ?_;refine sm ?_
 refine tZ 9 ?_ ?_;refine sm ?_
 refine tZ 10 ?_ ?_;refine sm ?_
 refine tZ 11 ?_ ?_;refine sm ?_
 refine tZ 12 ?_ ?_;refine sm ?_
 refine tZ 13 ?_ ?_;refine sm ?_
 refine wpAnyZ_one (i := 14) rfl (by kernel_rfl) (fun K hK => ?_)
 go_simp
 refine hK.out _ _ (HKZ.out _ hba) (fun hHeld => ?_)
 clear hK K
 refine sm ?_
 generalize eA : wq.alloc (.cells #[.int .i64 (m : Int)] 3) = wa at *
 clear eA
 generalize eB : wq.heap.size = nb0 at *
 clear eB
 refine tZ 15 ?_ ?_;refine sm ?_
 refine tZ 16 ?_ ?_;refine sm ?_
 refine wpAnyZ_last (i := 17) rfl (by kernel_rfl) (by kernel_rfl) (fun K hK => ?_)
 obtain ⟨⟨q0, q1, q2, q3, q4, q5, q6⟩, qz⟩ := id GU
 have f0 := TH.out (k * 7)
 have f1 := TH.out (k * 7 + 1)
 have f2 := TH.out (k * 7 + 2)
 have f3 := TH.out (k * 7 + 3)
 have f4 := TH.out (k * 7 + 4)
 have f5 := TH.out (k * 7 + 5)
 have f6 := TH.out (k * 7 + 6)
 go_simp
 refine hK.out _ _ ?_
 clear hK K q0 q1 q2 q3 q4 q5 q6 qz f0 f1 f2 f3 f4 f5 f6
 refine sm ?_
 refine wpAnyZ_done (by kernel_rfl) ?_ _
 generalize eW : (((((((wa.setCell ⟨vb, k * 7, none⟩ (.bool false)).setCell ⟨vb, k * 7 + 1, none⟩ (.bool true)).setCell ⟨vb, k * 7 + 2, none⟩ (.int .i64 0)).setCell ⟨vb, k * 7 + 3, none⟩ (.int .i64 0)).setCell ⟨vb, k * 7 + 4, none⟩ (.bool false)).setCell ⟨vb, k * 7 + 5, none⟩ (.bool false)).setCell ⟨vb, k * 7 + 6, none⟩ (.slice (some ⟨nb0, 0, none⟩) 1 1)) = w3 at *
 clear eW GU TH HKZ hba
 obtain ⟨y, ey, G3, hbx, hbw, A3⟩ := HH.out
 have HEY : Hid (y.g = ⟨false, ⟨true, 0, 0⟩, false, false, [(m : Int)]⟩) := ey
 clear HH ey
 have hd3 : Below w3.heap.size w3 w3.drew := (Below.refl _ _).drew
 have G4 := G3.call hd3
 have A4 := A3.call hd3
 have hbx4 := hbx.drew
 have hbw4 := hbw.drew
 clear G3 A3 hbx hbw hd3
 have hcm := (G4.fform (by omega))
 obtain ⟨fb', efb', -, -, hcm⟩ := hcm
 cases efb'
 have HK1 : Hid (w3.drew.cell? ⟨xb, 2, none⟩ = some (.slice (some ⟨fb, 0, none⟩) L.length gcc) ∧ w3.drew.cell? ⟨pb, 0, none⟩ = some (.pointer (some ⟨sb, 0, none⟩)) ∧ w3.drew.cell? ⟨sb, 9, none⟩ = some (.int .i64 (m : Int)) ∧ w3.drew.cell? ⟨fb, m, none⟩ = some (.slice L[m].rs L[m].l.length L[m].rc)) := ⟨A4.1 2 _ rfl, (HSP.out _ hbw4).1, (HSP.out _ hbw4).2.2, hcm m hmL⟩
 clear hcm
 go_upto_region 1 with fail
 refine wp_region_z (S := (fun wx => wx.cell? ⟨xb, 2, none⟩ = some (.slice (some ⟨fb, 0, none⟩) L.length gcc) ∧ wx.cell? ⟨pb, 0, none⟩ = some (.pointer (some ⟨sb, 0, none⟩)) ∧ wx.cell? ⟨sb, 9, none⟩ = some (.int .i64 (m : Int)) ∧ wx.cell? ⟨fb, m, none⟩ = some (.slice L[m].rs L[m].l.length L[m].rc))) [] (by kernel_rfl) HK1.out (fun hHeld => ?_)
 generalize w3.drew = w4 at *
 refine tZ 0 ?_ ?_;refine sm ?_
 refine tZ 1 ?_ ?_;refine sm ?_
 refine tZ 2 ?_ ?_;refine sm ?_
 refine tZ 3 ?_ ?_;refine sm ?_
 refine tZ 4 ?_ ?_;refine sm ?_
 refine tZ 5 ?_ ?_;refine sm ?_
 refine tZ 6 ?_ ?_;refine sm ?_
 refine tZ 7 ?_ ?_;refine sm ?_
 refine tZ 8 ?_ ?_;refine sm ?_
 refine tZ 9 ?_ ?_;refine sm ?_
 refine tZ 10 ?_ ?_;refine sm ?_
 refine tZ 11 ?_ ?_;refine sm ?_
 refine wpAnyZ_done (by kernel_rfl) ?_ _
 clear HK1
 go_wp2
 go_loopw [32] (fun i wr => ∃ j : Nat, j ≤ L[m].l.length ∧ i = .int .i64 j ∧ Cells wr xb [.bool false, .slice v.rs v.l.length v.rc, .slice (some ⟨fb, 0, none⟩) L.length gcc] ∧ PicG (ClT n sb eb xb) w.heap.size wr ⟨v.rs, v.rc, v.l.set k y⟩ (some ⟨fb, 0, none⟩) gcc (nulR L m j hmL) ∧ Below w.heap.size wx wr ∧ Below w.heap.size w wr) (fun i _ => L[m].l.length - (intOf i).toNat)
 case atStart => exact ⟨0, Nat.zero_le _, rfl, A4, by rw [nulR_zero]; exact G4, hbx4, hbw4⟩
 case round =>
  clear A4 G4 hbx4 hbw4
  obtain ⟨j, hj, rfl, AR, GR, BR, CR⟩ := hrel
  by_cases hlt : j < L[m].l.length
  ·have j0 : (0 : Int) ≤ (j : Int) := by omega
   have j1 : (j : Int) < (L[m].l.length : Int) := by omega
   have hdw : Below wr.heap.size wr wr.drew := (Below.refl _ _).drew
   have A5 := AR.call hdw
   have G5 := GR.call hdw
   have B5 := BR.drew
   have C5 := CR.drew
   clear AR GR BR CR hdw
   have hm' : m < (nulR L m j hmL).length := by rw [nulR_len]; exact hmL
   have RW := G5.rows _ (List.getElem_mem hm')
   have nx : roB (nulR L m j hmL)[m] ≠ some xb := (nulR_off.2 HOF.out).2.2 _ (List.getElem_mem hm')
   rw [nulR_get] at RW nx
   obtain ⟨rb, erb, erB, hrb, zrb⟩ := RW.form (by show 0 < (nulL j L[m].l).length; rw [nulL_len]; omega)
   have nxr : xb ≠ rb := fun e => nx (by rw [erB, e])
   have GUR := RW.gu erb (k := j) (by show j < (nulL j L[m].l).length; rw [nulL_len]; exact hlt)
   have q0 := GUR.1.1
   have f0 := RW.thaw erb (j * 7)
   have erb' : L[m].rs = some ⟨rb, 0, none⟩ := erb
   obtain ⟨fb', efb', -, -, hcm⟩ := G5.fform (by rw [nulR_len]; omega)
   cases efb'
   have hcm' := hcm m hm'
   rw [nulR_roV, erb'] at hcm'
   have HK4 : Hid (wr.drew.cell? ⟨xb, 2, none⟩ = some (.slice (some ⟨fb, 0, none⟩) L.length gcc) ∧ wr.drew.cell? ⟨pb, 0, none⟩ = some (.pointer (some ⟨sb, 0, none⟩)) ∧ wr.drew.cell? ⟨sb, 9, none⟩ = some (.int .i64 (m : Int)) ∧ wr.drew.cell? ⟨fb, m, none⟩ = some (.slice (some ⟨rb, 0, none⟩) L[m].l.length L[m].rc)) := ⟨A5.1 2 _ rfl, (HSP.out _ C5).1, (HSP.out _ C5).2.2, hcm'⟩
   have HN : Hid (Cells (wr.drew.setCell ⟨rb, j * 7, none⟩ (.bool true)) xb [.bool false, .slice v.rs v.l.length v.rc, .slice (some ⟨fb, 0, none⟩) L.length gcc] ∧ PicG (ClT n sb eb xb) w.heap.size (wr.drew.setCell ⟨rb, j * 7, none⟩ (.bool true)) ⟨v.rs, v.rc, v.l.set k y⟩ (some ⟨fb, 0, none⟩) gcc (nulR L m (j + 1) hmL) ∧ Below w.heap.size wx (wr.drew.setCell ⟨rb, j * 7, none⟩ (.bool true)) ∧ Below w.heap.size w (wr.drew.setCell ⟨rb, j * 7, none⟩ (.bool true))) := ⟨A5.far nxr _, G5.nul erb' hlt, B5.setCell hrb _, C5.setCell hrb _⟩
   have HQ0 := hideH (And.intro q0 f0)
   clear A5 G5 B5 C5 RW nx erb erB hcm hcm' GUR erb' q0 f0
   go_upto_region 4 with fail
   refine wp_region_z (S := (fun wx => wx.cell? ⟨xb, 2, none⟩ = some (.slice (some ⟨fb, 0, none⟩) L.length gcc) ∧ wx.cell? ⟨pb, 0, none⟩ = some (.pointer (some ⟨sb, 0, none⟩)) ∧ wx.cell? ⟨sb, 9, none⟩ = some (.int .i64 (m : Int)) ∧ wx.cell? ⟨fb, m, none⟩ = some (.slice (some ⟨rb, 0, none⟩) L[m].l.length L[m].rc))) [13] (by kernel_rfl) HK4.out (fun hHeld => ?_)
   generalize wr.drew = w5 at *
   refine tZ 0 ?_ ?_;refine sm ?_
   refine tZ 1 ?_ ?_;refine sm ?_
   refine tZ 2 ?_ ?_;refine sm ?_
   refine tZ 3 ?_ ?_;refine sm ?_
   refine tZ 4 ?_ ?_;refine sm ?_
   refine tZ 5 ?_ ?_;refine sm ?_
   refine tZ 6 ?_ ?_;refine sm ?_
   refine tZ 7 ?_ ?_;refine sm ?_
   refine tZ 8 ?_ ?_;refine sm ?_
   refine tZ 9 ?_ ?_;refine sm ?_
   refine tZ 10 ?_ ?_;refine sm ?_
   refine tZ 11 ?_ ?_;refine sm ?_
   refine tZ 12 ?_ ?_;refine sm ?_
   refine wpAnyZ_last (i := 13) rfl (by kernel_rfl) (by kernel_rfl) (fun K hK => ?_)
   obtain ⟨q0, f0⟩ := HQ0.out
   go_simp
   refine hK.out _ _ ?_
   clear hK K
   refine sm ?_
   refine wpAnyZ_done (by kernel_rfl) ?_ _
   clear HK4 HQ0
   go_wp2
   go_roundw
   case rel => exact ⟨j + 1, by omega, by go_num, HN.out.1, HN.out.2.1, HN.out.2.2.1, HN.out.2.2.2⟩
   case measure => simp [intOf]; omega
  ·have j1 : ¬ (j : Int) < (L[m].l.length : Int) := by omega
   have HF : Hid (∃ v' gs' gc' L', ClPre n sb eb w.heap.size wr xb v' gs' gc' L' (setVar (newPic at_ x) i.to ⟨false, ⟨true, 0, 0⟩, false, false, [at_]⟩)) := by
    refine ⟨⟨v.rs, v.rc, v.l.set k y⟩, some ⟨fb, 0, none⟩, gcc, nulR L m j hmL, zxb, ?_, GR, nulR_off.2 ((Off.same (roB_set (by simp))).2 HOF.out), ?_⟩
    ·simp only [List.length_set, nulR_len]
     exact AR
    ·rw [nulR_pic (by omega), picOf_setV, HEX.out, HEY.out, HEK.out.1, HEK.out.2]
     rfl
   clear AR GR CR
   go_wp2
   first | go_end0 | refine bodyPost_ret (results_none rfl _ _ _) rfl ?_
   exact ⟨rfl, HF.out, BR⟩
end
section
open Go.RowKit
theorem tog_joinGs {c : List Ins} {g h : Gs} (h60 : c.length ≤ 60) (hg : ckGs c g = 0) (hh : ckGs c h = 0) : togGs joinSp g h = joinGs false g h := by
 have a := ckGs_sites h60 hg
 have b := ckGs_sites h60 hh
 have e : sitesOf [g, h] = siteSet g.s h.s := sitesOf_eq g h a.1 b.1
 unfold togGs joinGs
 rw [e]
 rfl
theorem putPic_step {x : Pic} {n : Int} {b : Gs} {l : List Int} {j : Nat} (h : j < l.length) : putPic x n b (l.take (j + 1)) = setFld (putPic x n b (l.take j)) l[j] n (joinGs false (fAt (putPic x n b (l.take j)) l[j] n) b) := by
 unfold putPic
 rw [List.take_succ_eq_append_getElem h, List.foldl_append]
 rfl
theorem picOf_setF {n : Bool} {v : Ro} {L : List Ro} {m p : Nat} {z : Gc} (hm : m < L.length) : picOf n v (L.set m ⟨L[m].rs, L[m].rc, L[m].l.set p z⟩) = setFld (picOf n v L) (m : Int) (p : Int) z.g := by
 unfold picOf setFld
 simp only [List.map_set, Int.toNat_natCast]
 congr 1
 refine List.ext_getElem? fun q => ?_
 rw [List.getElem?_set, List.getElem?_modify]
 by_cases e : m = q
 ·subst e
  simp [hm, roG, List.map_set]
 ·simp [e]
theorem picOf_fAt {n : Bool} {v : Ro} {L : List Ro} {m p : Nat} (hm : m < L.length) (hp : p < L[m].l.length) : fAt (picOf n v L) (m : Int) (p : Int) = L[m].l[p].g := by
 unfold fAt picOf roG
 simp [List.getD, hm, hp]
theorem picOf_row {V F : Int} {c : List Ins} {n : Bool} {v : Ro} {L : List Ro} (h : PicOk V F c (picOf n v L)) : L.length = c.length ∧ ∀ m (hm : m < L.length), (L[m].l.length : Int) = F := by
 refine ⟨by simpa [picOf] using h.flds, fun m hm => ?_⟩
 have := h.row m (by simpa [picOf] using hm)
 simpa [picOf, roG] using this
theorem off_setF {v : Ro} {fb : Option Nat} {L : List Ro} {m q : Nat} {l : List Gc} (hm : m < L.length) (hl : l.length = L[m].l.length) : Off v fb (L.set m ⟨L[m].rs, L[m].rc, l⟩) q ↔ Off v fb L q := by
 have e : (L.set m ⟨L[m].rs, L[m].rc, l⟩).map roB = L.map roB := by
  rw [List.map_set, roB_set (v := L[m]) hl, ← List.getElem_map (f := roB) (h := by simpa using hm), List.set_getElem_self]
 have : (∀ r ∈ L.set m ⟨L[m].rs, L[m].rc, l⟩, roB r ≠ some q) ↔ ∀ r ∈ L, roB r ≠ some q := by
  have h1 : ∀ l : List Ro, (∀ r ∈ l, roB r ≠ some q) ↔ ∀ o ∈ l.map roB, o ≠ some q := fun l => by simp
  rw [h1, h1, e]
 unfold Off
 rw [this]
/-- Where new sites lie. -/
theorem gcIn_new {n sb H : Nat} {eb : Option Nat} {w w' : World} {xb : Nat} {v : Ro} {gs : Option Addr} {gc : Nat} {L : List Ro} {y : Gc} (hi : IntsAt w' y.ss y.g.s) (hf : ∀ a, y.ss = some a → w.heap.size ≤ a.block) (h1 : y.g.s.length ≤ y.cap) (h2 : y.cap ≤ maxLen) (G : PicG (ClT n sb eb xb) H w v gs gc L) (hx : xb < w.heap.size) (hs : sb < w.heap.size) (hn : n ≤ w.heap.size) (he : ∀ b, eb = some b → b < w.heap.size) : GcIn (fun b => ClT n sb eb xb b ∧ Off v (Value.slice gs L.length gc).ownBlock L b) w' y := by
 refine ⟨?_, h1, h2⟩
 rcases hi with hi | ⟨b, off, e, hb, hc⟩
 ·exact .inl hi
 ·have hz : w.heap.size ≤ b := hf _ e
  refine .inr ⟨b, off, e, ⟨⟨by omega, by omega, by omega, fun e => by have := he _ e; omega⟩, fun e => ?_, fun e => ?_, fun r hr e => ?_⟩, hb, hc⟩
  ·have := (G.vars.lt e).1; omega
  ·have := (ownsI_lt G.flds e).1; omega
  ·have := ((G.rows r hr).lt e).1; omega
end
end Go.Proofs.YtmapdpcfanecdabGreat
