/- Walks over package step: the edges that are added. -/
import Derived.Test.YtmapdpcfanecdabGreatKstpxp05
import Derived.Test.YtmapdpcfanecdabGreatKstpxp28
import Derived.Test.YtmapdpcfanecdabGreatKstpxp08
import Derived.Deep.DeepCutAuto
import Derived.Test.YtmapdpcfanecdabGreatKstpxp07
import Derived.Deep.RegionHeld
import Derived.WalkKit
import Derived.WalkSpells
import Derived.WalkLawsBesides
import Derived.Handy
import Derived.Deep.RegionHeldLaw
set_option linter.unusedSimpArgs false
set_option linter.unusedVariables false
namespace Go.Proofs.YtmapdpcfanecdabGreat
section
open Go.RowKit
/-- Seven cells are written. -/
def set7 (w : World) (b k : Nat) (x' : Gc) : World := (((((((w.setCell ⟨b, k * 7, none⟩ (.bool x'.g.n)).setCell ⟨b, k * 7 + 1, none⟩ (.bool x'.g.sp.n)).setCell ⟨b, k * 7 + 2, none⟩ (.int .i64 x'.g.sp.lo)).setCell ⟨b, k * 7 + 3, none⟩ (.int .i64 x'.g.sp.hi)).setCell ⟨b, k * 7 + 4, none⟩ (.bool x'.g.t)).setCell ⟨b, k * 7 + 5, none⟩ (.bool x'.g.f)).setCell ⟨b, k * 7 + 6, none⟩ (.slice x'.ss x'.g.s.length x'.cap))
section
variable {T : Nat → Prop} {B : Nat} {w w' : World} {v : Ro} {fs : Option Addr} {fc : Nat} {L : List Ro}
theorem Off.same {v v' : Ro} {fb : Option Nat} {L : List Ro} {b : Nat} (hv : roB v' = roB v) : Off v' fb L b ↔ Off v fb L b := by unfold Off; rw [hv]
theorem roB_set {v : Ro} {l : List Gc} (h : l.length = v.l.length) : roB ⟨v.rs, v.rc, l⟩ = roB v := by unfold roB roV; rw [h]
/-- One cell, told by the guess that comes. -/
theorem PicG.cellV (h : PicG T B w v fs fc L) {b : Nat} (hb : v.rs = some ⟨b, 0, none⟩) {k : Nat} (hk : k < v.l.length) {y z : Gc} (hy : PicG T B w' ⟨v.rs, v.rc, v.l.set k y⟩ fs fc L) {j : Nat} {u : Value} (hj : j < 7) (hx : gcCells z = (gcCells y).set j u) (hg : GcIn (fun b => T b ∧ Off v (Value.slice fs L.length fc).ownBlock L b) w' z) :
  PicG T B (w'.setCell ⟨b, k * 7 + j, none⟩ u) ⟨v.rs, v.rc, v.l.set k z⟩ fs fc L := by
 have h1 := PicG.putV hy hb (k := k) (j := j) (u := u) (x' := z) (by simpa using hk) hj (by simpa using hx) ⟨hg.1.mono fun q hq _ => ⟨hq.1, (Off.same (roB_set (by simp))).2 hq.2⟩, hg.2⟩
 simpa [List.set_set] using h1
theorem gcIn_stay {S : Nat → Prop} {x : Gc} {b : Nat} {o : Nat} {u : Value} (h : GcIn S w x) (hs : ¬ S b) : GcIn S (w.setCell ⟨b, o, none⟩ u) x := gcIn_put h fun q hq e => hs (by have e' : q = b := e; rw [← e']; exact hq)
theorem PicG.setV (h : PicG T B w v fs fc L) {b : Nat} (hb : v.rs = some ⟨b, 0, none⟩) {k : Nat} (hk : k < v.l.length) {x' : Gc} (hg : GcIn (fun b => T b ∧ Off v (Value.slice fs L.length fc).ownBlock L b) w x') : PicG T B (set7 w b k x') ⟨v.rs, v.rc, v.l.set k x'⟩ fs fc L := by
 have eb : roB v = some b := by unfold roB roV; rw [hb]; rfl
 have nb : ¬ (fun q => T q ∧ Off v (Value.slice fs L.length fc).ownBlock L q) b := fun q => q.2.1 eb
 obtain ⟨y, ey⟩ : ∃ y, y = v.l[k] := ⟨_, rfl⟩
 have gy : GcIn (fun b => T b ∧ Off v (Value.slice fs L.length fc).ownBlock L b) w y := by rw [ey]; exact h.sv _ (List.getElem_mem hk)
 have h0 : PicG T B w ⟨v.rs, v.rc, v.l.set k y⟩ fs fc L := by rw [ey, List.set_getElem_self]; exact h
 unfold set7
 have h1 := h.cellV hb hk h0 (j := 0) (u := .bool x'.g.n) (z := ⟨⟨x'.g.n, y.g.sp, y.g.t, y.g.f, y.g.s⟩, y.ss, y.cap⟩) (by omega) (by rfl) gy
 have h2 := h.cellV hb hk h1 (j := 1) (u := .bool x'.g.sp.n) (z := ⟨⟨x'.g.n, ⟨x'.g.sp.n, y.g.sp.lo, y.g.sp.hi⟩, y.g.t, y.g.f, y.g.s⟩, y.ss, y.cap⟩) (by omega) (by rfl) (gcIn_stay gy nb)
 have h3 := h.cellV hb hk h2 (j := 2) (u := .int .i64 x'.g.sp.lo) (z := ⟨⟨x'.g.n, ⟨x'.g.sp.n, x'.g.sp.lo, y.g.sp.hi⟩, y.g.t, y.g.f, y.g.s⟩, y.ss, y.cap⟩) (by omega) (by rfl) (gcIn_stay (gcIn_stay gy nb) nb)
 have h4 := h.cellV hb hk h3 (j := 3) (u := .int .i64 x'.g.sp.hi) (z := ⟨⟨x'.g.n, ⟨x'.g.sp.n, x'.g.sp.lo, x'.g.sp.hi⟩, y.g.t, y.g.f, y.g.s⟩, y.ss, y.cap⟩) (by omega) (by rfl) (gcIn_stay (gcIn_stay (gcIn_stay gy nb) nb) nb)
 have h5 := h.cellV hb hk h4 (j := 4) (u := .bool x'.g.t) (z := ⟨⟨x'.g.n, ⟨x'.g.sp.n, x'.g.sp.lo, x'.g.sp.hi⟩, x'.g.t, y.g.f, y.g.s⟩, y.ss, y.cap⟩) (by omega) (by rfl) (gcIn_stay (gcIn_stay (gcIn_stay (gcIn_stay gy nb) nb) nb) nb)
 have h6 := h.cellV hb hk h5 (j := 5) (u := .bool x'.g.f) (z := ⟨⟨x'.g.n, ⟨x'.g.sp.n, x'.g.sp.lo, x'.g.sp.hi⟩, x'.g.t, x'.g.f, y.g.s⟩, y.ss, y.cap⟩) (by omega) (by rfl) (gcIn_stay (gcIn_stay (gcIn_stay (gcIn_stay (gcIn_stay gy nb) nb) nb) nb) nb)
 have h7 := h.cellV hb hk h6 (j := 6) (u := .slice x'.ss x'.g.s.length x'.cap) (z := x') (by omega) (by rfl) (gcIn_stay (gcIn_stay (gcIn_stay (gcIn_stay (gcIn_stay (gcIn_stay hg nb) nb) nb) nb) nb) nb)
 exact h7
theorem PicG.cellF (h : PicG T B w v fs fc L) {s : Nat} (hs : s < L.length) {b : Nat} (hb : L[s].rs = some ⟨b, 0, none⟩) {k : Nat} (hk : k < L[s].l.length) {y z : Gc} (hy : PicG T B w' v fs fc (L.set s ⟨L[s].rs, L[s].rc, L[s].l.set k y⟩)) {j : Nat} {u : Value} (hj : j < 7) (hx : gcCells z = (gcCells y).set j u) (hg : GcIn (fun b => T b ∧ Off v (Value.slice fs L.length fc).ownBlock L b) w' z) :
  PicG T B (w'.setCell ⟨b, k * 7 + j, none⟩ u) v fs fc (L.set s ⟨L[s].rs, L[s].rc, L[s].l.set k z⟩) := by
 have eL : ∀ q, (∀ r ∈ L.set s ⟨L[s].rs, L[s].rc, L[s].l.set k y⟩, roB r ≠ some q) ↔ ∀ r ∈ L, roB r ≠ some q := fun q => by
  have e1 : (L.set s ⟨L[s].rs, L[s].rc, L[s].l.set k y⟩).map roB = L.map roB := by
   rw [List.map_set, roB_set (v := L[s]) (by simp), ← List.getElem_map (f := roB) (h := by simpa using hs), List.set_getElem_self]
  have e2 : ∀ M : List Ro, (∀ r ∈ M, roB r ≠ some q) ↔ ∀ o ∈ M.map roB, o ≠ some q := fun M => by simp only [List.mem_map, forall_exists_index, and_imp, forall_apply_eq_imp_iff₂]
  rw [e2, e1, ← e2]
 have h1 := PicG.putF hy (s := s) (by simpa using hs) (b := b) (by simpa using hb) (k := k) (j := j) (u := u) (x' := z) (by simpa using hk) hj (by simpa using hx) ⟨hg.1.mono fun q hq _ => ⟨hq.1, hq.2.1, by rw [List.length_set]; exact hq.2.2.1, (eL q).2 hq.2.2.2⟩, hg.2⟩
 simpa [List.set_set] using h1
theorem PicG.setF (h : PicG T B w v fs fc L) {s : Nat} (hs : s < L.length) {b : Nat} (hb : L[s].rs = some ⟨b, 0, none⟩) {k : Nat} (hk : k < L[s].l.length) {x' : Gc} (hg : GcIn (fun b => T b ∧ Off v (Value.slice fs L.length fc).ownBlock L b) w x') : PicG T B (set7 w b k x') v fs fc (L.set s ⟨L[s].rs, L[s].rc, L[s].l.set k x'⟩) := by
 have hm := List.getElem_mem hs
 have eb : roB L[s] = some b := by unfold roB roV; rw [hb]; rfl
 have nb : ¬ (fun q => T q ∧ Off v (Value.slice fs L.length fc).ownBlock L q) b := fun q => q.2.2.2 _ hm eb
 obtain ⟨y, ey⟩ : ∃ y, y = L[s].l[k] := ⟨_, rfl⟩
 have gy : GcIn (fun b => T b ∧ Off v (Value.slice fs L.length fc).ownBlock L b) w y := by rw [ey]; exact h.sf _ hm _ (List.getElem_mem hk)
 have h0 : PicG T B w v fs fc (L.set s ⟨L[s].rs, L[s].rc, L[s].l.set k y⟩) := by
  rw [ey, List.set_getElem_self]
  have : (⟨L[s].rs, L[s].rc, L[s].l⟩ : Ro) = L[s] := rfl
  rw [this, List.set_getElem_self]
  exact h
 unfold set7
 have h1 := h.cellF hs hb hk h0 (j := 0) (u := .bool x'.g.n) (z := ⟨⟨x'.g.n, y.g.sp, y.g.t, y.g.f, y.g.s⟩, y.ss, y.cap⟩) (by omega) (by rfl) gy
 have h2 := h.cellF hs hb hk h1 (j := 1) (u := .bool x'.g.sp.n) (z := ⟨⟨x'.g.n, ⟨x'.g.sp.n, y.g.sp.lo, y.g.sp.hi⟩, y.g.t, y.g.f, y.g.s⟩, y.ss, y.cap⟩) (by omega) (by rfl) (gcIn_stay gy nb)
 have h3 := h.cellF hs hb hk h2 (j := 2) (u := .int .i64 x'.g.sp.lo) (z := ⟨⟨x'.g.n, ⟨x'.g.sp.n, x'.g.sp.lo, y.g.sp.hi⟩, y.g.t, y.g.f, y.g.s⟩, y.ss, y.cap⟩) (by omega) (by rfl) (gcIn_stay (gcIn_stay gy nb) nb)
 have h4 := h.cellF hs hb hk h3 (j := 3) (u := .int .i64 x'.g.sp.hi) (z := ⟨⟨x'.g.n, ⟨x'.g.sp.n, x'.g.sp.lo, x'.g.sp.hi⟩, y.g.t, y.g.f, y.g.s⟩, y.ss, y.cap⟩) (by omega) (by rfl) (gcIn_stay (gcIn_stay (gcIn_stay gy nb) nb) nb)
 have h5 := h.cellF hs hb hk h4 (j := 4) (u := .bool x'.g.t) (z := ⟨⟨x'.g.n, ⟨x'.g.sp.n, x'.g.sp.lo, x'.g.sp.hi⟩, x'.g.t, y.g.f, y.g.s⟩, y.ss, y.cap⟩) (by omega) (by rfl) (gcIn_stay (gcIn_stay (gcIn_stay (gcIn_stay gy nb) nb) nb) nb)
 have h6 := h.cellF hs hb hk h5 (j := 5) (u := .bool x'.g.f) (z := ⟨⟨x'.g.n, ⟨x'.g.sp.n, x'.g.sp.lo, x'.g.sp.hi⟩, x'.g.t, x'.g.f, y.g.s⟩, y.ss, y.cap⟩) (by omega) (by rfl) (gcIn_stay (gcIn_stay (gcIn_stay (gcIn_stay (gcIn_stay gy nb) nb) nb) nb) nb)
 have h7 := h.cellF hs hb hk h6 (j := 6) (u := .slice x'.ss x'.g.s.length x'.cap) (z := x') (by omega) (by rfl) (gcIn_stay (gcIn_stay (gcIn_stay (gcIn_stay (gcIn_stay (gcIn_stay hg nb) nb) nb) nb) nb) nb)
 exact h7
/-- What a store into a picture's rows leaves as it was. -/
theorem heap_set7 {b k q : Nat} {x' : Gc} (h : q ≠ b) : (set7 w b k x').heap[q]? = w.heap[q]? := by
 unfold set7
 rw [Below.heap_setCell _ _ _ _ h, Below.heap_setCell _ _ _ _ h, Below.heap_setCell _ _ _ _ h, Below.heap_setCell _ _ _ _ h, Below.heap_setCell _ _ _ _ h, Below.heap_setCell _ _ _ _ h, Below.heap_setCell _ _ _ _ h]
theorem size_set7 {b k : Nat} {x' : Gc} : (set7 w b k x').heap.size = w.heap.size := by simp [set7, World.setCell]
theorem below_set7 {A : Nat} {w0 : World} {b k : Nat} {x' : Gc} (h : Below A w0 w) (hb : A ≤ b) : Below A w0 (set7 w b k x') := by
 unfold set7
 exact ((((((h.setCell hb _).setCell hb _).setCell hb _).setCell hb _).setCell hb _).setCell hb _).setCell hb _
end
end
section
set_option maxHeartbeats 4000000
set_option maxRecDepth 10000
open Go.RowKit
attribute [local go_sem ↓] Go.wp_at_zero Go.wp_at_succ

theorem RoOwn.gu {w : World} {B : Nat} {r : Ro} (h : RoOwn w B r) {b : Nat} (hb : r.rs = some ⟨b, 0, none⟩) {k : Nat} (hk : k < r.l.length) : GuAt w b (k * 7) r.l[k].g r.l[k].ss r.l[k].cap := by
 obtain ⟨b', e, eb, _, hz⟩ := h.form (by omega)
 rw [hb] at e
 cases e
 have h1 : w.ownsRow B 61 7 (.slice (some ⟨b, 0, none⟩) r.l.length r.rc) r.l.length (rowCells r.l) := by rw [← hb]; exact h
 have hc : ∀ j, j < 7 → w.cell? ⟨b, k * 7 + j, none⟩ = (gcCells r.l[k])[j]? := fun j hj => by
  rw [← rowCells_get r.l k hk j hj]
  exact World.ownsRow.cellAt h1 _ (by omega)
 exact ⟨⟨hc 0 (by omega), hc 1 (by omega), hc 2 (by omega), hc 3 (by omega), hc 4 (by omega), hc 5 (by omega), hc 6 (by omega)⟩, hz⟩
theorem picOf_setV {n : Bool} {v : Ro} {L : List Ro} {k : Nat} {y : Gc} : picOf n ⟨v.rs, v.rc, v.l.set k y⟩ L = setVar (picOf n v L) (k : Int) y.g := by simp [picOf, roG, setVar, List.map_set]
/-- Where a new guess's sites lie, if they were there before the rows. -/
theorem gcIn_old {n sb H : Nat} {eb : Option Nat} {w0 w : World} {xb : Nat} {v : Ro} {gs : Option Addr} {gc : Nat} {L : List Ro} {y : Gc} (h : IntsIn (fun b => n ≤ b ∧ b ≠ sb ∧ eb ≠ some b) w0 y.ss y.g.s) (h1 : y.g.s.length ≤ y.cap) (h2 : y.cap ≤ maxLen) (hH : w0.heap.size ≤ H) (hb : Below w0.heap.size w0 w) (G : PicG (ClT n sb eb xb) H w v gs gc L) (hx : H ≤ xb) : GcIn (fun b => ClT n sb eb xb b ∧ Off v (Value.slice gs L.length gc).ownBlock L b) w y := by
 refine ⟨((h.mono (S' := fun b => (n ≤ b ∧ b ≠ sb ∧ eb ≠ some b) ∧ b < w0.heap.size) fun b hb hlt => ⟨hb, hlt⟩).call hb).mono fun b hb' _ => ⟨⟨hb'.1.1, hb'.1.2.1, by omega, hb'.1.2.2⟩, fun e => ?_, fun e => ?_, fun r hr e => ?_⟩, h1, h2⟩
 ·have := (G.vars.lt e).2; omega
 ·have := (ownsI_lt G.flds e).2; omega
 ·have := ((G.rows r hr).lt e).2; omega
theorem ch_goto (n sb : Nat) (eb : Option Nat) (w : World) (x : Pic) : ChangeC 50 (fun p => #[p]) n sb eb w x x := by
 intro wx xb v gs gc L hb hp
 have HP := hideH hp
 clear hp hb
 go_enter Tryz.func50, Tryz.ntmps50
 go_wp2
 first | go_end0 | refine bodyPost_ret (results_none rfl _ _ _) rfl ?_
 exact ⟨rfl, ⟨v, gs, gc, L, HP.out⟩, Below.refl _ _⟩
theorem ch_print (n sb : Nat) (eb : Option Nat) (w : World) (x : Pic) : ChangeC 52 (fun p => #[p]) n sb eb w x x := by
 intro wx xb v gs gc L hb hp
 have HP := hideH hp
 clear hp hb
 go_enter Tryz.func52, Tryz.ntmps52
 go_wp2
 first | go_end0 | refine bodyPost_ret (results_none rfl _ _ _) rfl ?_
 exact ⟨rfl, ⟨v, gs, gc, L, HP.out⟩, Below.refl _ _⟩
theorem ch_set (n sb : Nat) (eb : Option Nat) (i : Ins) (V F : Int) (s : Option Addr) (c : List Ins) (cap : Nat) (at_ : Int) (x : Pic) (vs : Option Addr) (vc : Nat) (fs : Option Addr) (fc : Nat) (ev : Value) (wr fl : Bool) (gb pb : Nat) (g : Gs) (ss : Option Addr) (gc : Nat) (w : World) (hS : Cells w sb (stpC i V F s c cap at_ x vs vc fs fc ev wr fl)) (hP : Cells w pb [.pointer (some ⟨sb, 0, none⟩)]) (hG : Cells w gb [.bool g.n, .bool g.sp.n, .int .i64 g.sp.lo, .int .i64 g.sp.hi, .bool g.t, .bool g.f, .slice ss g.s.length gc]) (hI : IntsIn (fun b => n ≤ b ∧ b ≠ sb ∧ eb ≠ some b) w ss g.s) (h1 : g.s.length ≤ gc) (h2 : gc ≤ maxLen) (hk : ∃ k : Nat, i.to = k ∧ k < x.vars.length) :
  ChangeC 90 (fun p => #[p, .pointer (some ⟨gb, 0, none⟩), .pointer (some ⟨pb, 0, none⟩)]) n sb eb w x (setVar x i.to g) := by
 intro wx xb v gs gcc L hb0 hp
 obtain ⟨zxb, A0, G0, OF, EX⟩ := hp
 have hdr : Below wx.heap.size wx wx.drew := (Below.refl _ _).drew
 have hb := hb0.drew
 have A := A0.call hdr
 have G := G0.call hdr
 clear hb0 A0 G0 hdr
 obtain ⟨k, ek, hkx⟩ := hk
 have hkv : k < v.l.length := by rw [← EX] at hkx; simpa [picOf, roG] using hkx
 obtain ⟨vb, evb, eb1, hvb, zvb⟩ := G.vars.form (by omega)
 have GU := G.vars.gu evb hkv
 have GI := gcIn_old (y := ⟨g, ss, gc⟩) hI h1 h2 (Nat.le_refl _) hb G zxb
 have GZ := G.setV evb hkv GI
 have TH := hideH (G.vars.thaw evb)
 have nxv : xb ≠ vb := fun e => OF.1 (by rw [eb1, e])
 have n0 : (0 : Int) ≤ (k : Int) := by omega
 have n1 : (k : Int) < (v.l.length : Int) := by omega
 have A1 := A.1 1 _ rfl
 rw [evb] at A1
 have S1 := (hS.call hb).1 1 _ rfl
 rw [ek] at S1
 have P1 := (hP.call hb).1 0 _ rfl
 have G7 := hG.call hb
 have HKZ : Hid (wx.drew.cell? ⟨xb, 1, none⟩ = some (.slice (some ⟨vb, 0, none⟩) v.l.length v.rc) ∧ wx.drew.cell? ⟨pb, 0, none⟩ = some (.pointer (some ⟨sb, 0, none⟩)) ∧ wx.drew.cell? ⟨sb, 1, none⟩ = some (.int .i64 (k : Int)) ∧ (wx.drew.cell? ⟨gb, 0, none⟩ = some (.bool g.n) ∧ wx.drew.cell? ⟨gb, 1, none⟩ = some (.bool g.sp.n) ∧ wx.drew.cell? ⟨gb, 2, none⟩ = some (.int .i64 g.sp.lo) ∧ wx.drew.cell? ⟨gb, 3, none⟩ = some (.int .i64 g.sp.hi) ∧ wx.drew.cell? ⟨gb, 4, none⟩ = some (.bool g.t) ∧ wx.drew.cell? ⟨gb, 5, none⟩ = some (.bool g.f) ∧ wx.drew.cell? ⟨gb, 6, none⟩ = some (.slice ss g.s.length gc))) := ⟨A1, P1, S1, G7.1 0 _ rfl, G7.1 1 _ rfl, G7.1 2 _ rfl, G7.1 3 _ rfl, G7.1 4 _ rfl, G7.1 5 _ rfl, G7.1 6 _ rfl⟩
 have HPOST : Hid (∃ v' gs' gc' L', ClPre n sb eb w.heap.size (set7 wx.drew vb k ⟨g, ss, gc⟩) xb v' gs' gc' L' (setVar x i.to g)) := by
  refine ⟨⟨v.rs, v.rc, v.l.set k ⟨g, ss, gc⟩⟩, gs, gcc, L, zxb, ?_, GZ, (Off.same (roB_set (by simp))).2 OF, ?_⟩
  ·simp only [List.length_set]
   exact A.same (heap_set7 nxv) (by rw [size_set7]; exact Nat.le_refl _)
  ·rw [picOf_setV, EX, ek]
 have HBEL : Hid (Below w.heap.size wx (set7 wx.drew vb k ⟨g, ss, gc⟩)) := below_set7 (Below.refl _ _).drew hvb
 clear A1 S1 P1 G7 GI GZ A G OF EX ek hS hP hG hI
 unfold set7 at HPOST HBEL
 go_enter Tryz.func90, Tryz.ntmps90
 go_upto_region 0 with fail
 refine wp_region_z (S := (fun wx => wx.cell? ⟨xb, 1, none⟩ = some (.slice (some ⟨vb, 0, none⟩) v.l.length v.rc) ∧ wx.cell? ⟨pb, 0, none⟩ = some (.pointer (some ⟨sb, 0, none⟩)) ∧ wx.cell? ⟨sb, 1, none⟩ = some (.int .i64 (k : Int)) ∧ (wx.cell? ⟨gb, 0, none⟩ = some (.bool g.n) ∧ wx.cell? ⟨gb, 1, none⟩ = some (.bool g.sp.n) ∧ wx.cell? ⟨gb, 2, none⟩ = some (.int .i64 g.sp.lo) ∧ wx.cell? ⟨gb, 3, none⟩ = some (.int .i64 g.sp.hi) ∧ wx.cell? ⟨gb, 4, none⟩ = some (.bool g.t) ∧ wx.cell? ⟨gb, 5, none⟩ = some (.bool g.f) ∧ wx.cell? ⟨gb, 6, none⟩ = some (.slice ss g.s.length gc)))) [11] (by kernel_rfl) HKZ.out (fun hHeld => ?_)
 generalize wx.drew = wq at *
 refine tZ 0 ?_ ?_;refine sm ?_
 refine tZ 1 ?_ ?_;refine sm ?_
 refine tZ 2 ?_ ?_;refine sm ?_
 refine tZ 3 ?_ ?_;refine sm ?_
 refine tZ 4 ?_ ?_;refine sm ?_
 refine tZ 5 ?_ ?_;refine sm ?_
 refine tZ 6 ?_ ?_;refine sm ?_
 refine tZ 7 ?_ ?_;refine sm ?_
 refine tZ 8 ?_ ?_;refine sm ?_
 refine tZ 9 ?_ ?_;refine sm ?_
 refine tZ 10 ?_ ?_;refine sm ?_
 refine wpAnyZ_last (i := 11) rfl (by kernel_rfl) (by kernel_rfl) (fun K hK => ?_)
 obtain ⟨⟨q0, q1, q2, q3, q4, q5, q6⟩, qz⟩ := id GU
 have f0 := TH.out (k * 7)
 have f1 := TH.out (k * 7 + 1)
 have f2 := TH.out (k * 7 + 2)
 have f3 := TH.out (k * 7 + 3)
 have f4 := TH.out (k * 7 + 4)
 have f5 := TH.out (k * 7 + 5)
 have f6 := TH.out (k * 7 + 6)
 go_simp
 refine hK.out _ _ ?_
 clear hK K q0 q1 q2 q3 q4 q5 q6 qz f0 f1 f2 f3 f4 f5 f6
 refine sm ?_
 refine wpAnyZ_done (by kernel_rfl) ?_ _
 go_wp2
 first | go_end0 | refine bodyPost_ret (results_none rfl _ _ _) rfl ?_
 exact ⟨rfl, HPOST.out, HBEL.out⟩
end
section
open Go.RowKit
attribute [local go_sem ↓] Go.wp_at_zero Go.wp_at_succ

theorem cf_set (a : Array Value) (wx : World) : Sem.run Tryz.prog (callFunc 90 a) wx = .ok (.enter 90 a) wx := by kernel_rfl
theorem edge_set (n : Nat) (ta : Int) (x' : Pic) (gb pb : Nat) : type_of% (edge_f 90 #[.pointer (some ⟨gb, 0, none⟩), .pointer (some ⟨pb, 0, none⟩)] (fun p => #[p, .pointer (some ⟨gb, 0, none⟩), .pointer (some ⟨pb, 0, none⟩)]) (fun _ => rfl) cf_set n ta x') := edge_f 90 #[.pointer (some ⟨gb, 0, none⟩), .pointer (some ⟨pb, 0, none⟩)] (fun p => #[p, .pointer (some ⟨gb, 0, none⟩), .pointer (some ⟨pb, 0, none⟩)]) (fun _ => rfl) cf_set n ta x'
theorem cf_new (a : Array Value) (wx : World) : Sem.run Tryz.prog (callFunc 79 a) wx = .ok (.enter 79 a) wx := by kernel_rfl
theorem edge_new (n : Nat) (ta : Int) (x' : Pic) (pb : Nat) : type_of% (edge_f 79 #[.pointer (some ⟨pb, 0, none⟩)] (fun p => #[p, .pointer (some ⟨pb, 0, none⟩)]) (fun _ => rfl) cf_new n ta x') := edge_f 79 #[.pointer (some ⟨pb, 0, none⟩)] (fun p => #[p, .pointer (some ⟨pb, 0, none⟩)]) (fun _ => rfl) cf_new n ta x'
theorem cf_put (a : Array Value) (wx : World) : Sem.run Tryz.prog (callFunc 81 a) wx = .ok (.enter 81 a) wx := by kernel_rfl
theorem edge_put (n : Nat) (ta : Int) (x' : Pic) (tb pb : Nat) : type_of% (edge_f 81 #[.pointer (some ⟨tb, 0, none⟩), .pointer (some ⟨pb, 0, none⟩)] (fun p => #[p, .pointer (some ⟨tb, 0, none⟩), .pointer (some ⟨pb, 0, none⟩)]) (fun _ => rfl) cf_put n ta x') := edge_f 81 #[.pointer (some ⟨tb, 0, none⟩), .pointer (some ⟨pb, 0, none⟩)] (fun p => #[p, .pointer (some ⟨tb, 0, none⟩), .pointer (some ⟨pb, 0, none⟩)]) (fun _ => rfl) cf_put n ta x'
theorem cf_yes (a : Array Value) (wx : World) : Sem.run Tryz.prog (callFunc 83 a) wx = .ok (.enter 83 a) wx := by kernel_rfl
theorem edge_yes (n : Nat) (ta : Int) (x' : Pic) (pb : Nat) : type_of% (edge_f 83 #[.pointer (some ⟨pb, 0, none⟩)] (fun p => #[p, .pointer (some ⟨pb, 0, none⟩)]) (fun _ => rfl) cf_yes n ta x') := edge_f 83 #[.pointer (some ⟨pb, 0, none⟩)] (fun p => #[p, .pointer (some ⟨pb, 0, none⟩)]) (fun _ => rfl) cf_yes n ta x'
theorem cf_no (a : Array Value) (wx : World) : Sem.run Tryz.prog (callFunc 85 a) wx = .ok (.enter 85 a) wx := by kernel_rfl
theorem edge_no (n : Nat) (ta : Int) (x' : Pic) (pb : Nat) : type_of% (edge_f 85 #[.pointer (some ⟨pb, 0, none⟩)] (fun p => #[p, .pointer (some ⟨pb, 0, none⟩)]) (fun _ => rfl) cf_no n ta x') := edge_f 85 #[.pointer (some ⟨pb, 0, none⟩)] (fun p => #[p, .pointer (some ⟨pb, 0, none⟩)]) (fun _ => rfl) cf_no n ta x'
end
end Go.Proofs.YtmapdpcfanecdabGreat
