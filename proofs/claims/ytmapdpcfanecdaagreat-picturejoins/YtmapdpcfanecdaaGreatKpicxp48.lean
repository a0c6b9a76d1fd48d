/- Six cells in a block: a variable of type Run. -/
import Derived.Test.YtmapdpcfanecdaaGreatKpicxp47
import Derived.Test.YtmapdpcfanecdaaGreatKpicxp31
import Derived.Test.YtmapdpcfanecdaaGreatKpicxp05
import Derived.Test.YtmapdpcfanecdaaGreatKpicxp07
import Derived.Deep.DeepCutAuto
import Derived.OwnWalk
import Derived.Deep.DrawnRows
import Derived.Test.YtmapdpcfanecdaaGreatKpicxp01
import Derived.Deep.AppendLies
import Derived.Laws.OwnMore
import Derived.Deep.RegionHeld3
import Derived.Lib.QuietBelow
import Derived.BigQuiet
import Derived.BigRegion
namespace Go.Proofs.YtmapdpcfanecdaaGreat
set_option linter.unusedVariables false
set_option linter.unusedSimpArgs false
open Go.RowKit
attribute [local go_sem ↓] Go.wp_at_zero Go.wp_at_succ

/-- Where the program says that a value was made. -/
def siteP (l : List Thg) (v : Val) : Int := if v.k = 3 then (l.getD v.n.toNat ⟨0, []⟩).site else 0
theorem heldGs_siteP {r : St} {g : Gs} {v : Val} (h : okVal r.things.length v) : heldGs g v.k v.n (siteP r.things v) = heldV r g v := by
  unfold heldV heldGs siteP siteV
  rcases h with ⟨h, _⟩ | ⟨h, _⟩ | ⟨h, _⟩ | ⟨h, _⟩
  · rw [if_pos h, if_pos h]
  · rw [if_neg (by omega), if_pos h, if_neg (by omega), if_pos h]
  · rw [if_neg (by omega), if_neg (by omega), if_pos h, if_neg (by omega), if_neg (by omega), if_pos h]
  · simp [h]
theorem showsRow_step (r : St) (a : List Gs) (b : List Val) (k : Nat) (h : k < a.length) (h' : k < b.length) : showsRow r (a.drop k) (b.drop k) = (heldV r a[k] b[k] && showsRow r (a.drop (k + 1)) (b.drop (k + 1))) := by
  unfold showsRow
  rw [List.drop_eq_getElem_cons h, List.drop_eq_getElem_cons h']
  rfl
theorem okVal_kind {T : Nat} {v : Val} (h : okVal T v) : 0 ≤ v.k ∧ v.k ≤ 3 := by unfold okVal at h; omega
theorem ThgsAt.get {w : World} {s : Option Addr} {l : List Thg} (h : ThgsAt w s l) (k : Nat) (hk : k < l.length) : ∃ b off, s = some ⟨b, off, none⟩ ∧ b < w.heap.size ∧ ∀ k (h : k < l.length), w.cell? ⟨b, off + k * 2, none⟩ = some (.int .i64 l[k].site) ∧ ∃ f fc, w.cell? ⟨b, off + k * 2 + 1, none⟩ = some (.slice f l[k].fs.length fc) ∧ ValsAt w f l[k].fs := by
  rcases h with rfl | h
  · exact absurd hk (by simp)
  · exact h
theorem ThgsAt.call {w w' : World} {s : Option Addr} {l : List Thg} (h : ThgsAt w s l) (hb : Below w.heap.size w w') : ThgsAt w' s l := h.below hb (Nat.le_refl _)
theorem ValsAt.get {w : World} {s : Option Addr} {l : List Val} (h : ValsAt w s l) (k : Nat) (hk : k < l.length) : ∃ b off, s = some ⟨b, off, none⟩ ∧ b < w.heap.size ∧ w.cell? ⟨b, off + k * 2, none⟩ = some (.int .i64 l[k].k) ∧ w.cell? ⟨b, off + k * 2 + 1, none⟩ = some (.int .i64 l[k].n) := by
  rcases h with rfl | ⟨b, off, e, hb, h⟩
  · exact absurd hk (by simp)
  · exact ⟨b, off, e, hb, h k hk⟩
theorem ValsAt.call {w w' : World} {s : Option Addr} {l : List Val} (h : ValsAt w s l) (hb : Below w.heap.size w w') : ValsAt w' s l := h.below hb (Nat.le_refl _)
set_option maxHeartbeats 2000000 in
set_option maxRecDepth 10000 in
theorem siteOfP_any (v : Val) (ts : Option Addr) (l : List Thg) (tc : Nat) (w : World) (ht : ThgsAt w ts l) (hv : okVal l.length v) :
    Calls Tryz.prog 120 #[.agg #[.int .i64 v.k, .int .i64 v.n], .slice ts l.length tc] w fun e w' => e = .returned (.int .i64 (siteP l v)) ∧ Below w.heap.size w w' := by
  have hb0 : Below w.heap.size w (w.alloc (.cells #[.int .i64 v.k, .int .i64 v.n] 31)) := by go_grown
  by_cases h3 : v.k = 3
  · have hd : (v.k != 3) = false := by rw [h3]; rfl
    have hn : 0 ≤ v.n ∧ v.n < l.length := by unfold okVal at hv; omega
    obtain ⟨q, hq⟩ := Int.eq_ofNat_of_zero_le hn.1
    have hql : q < l.length := by omega
    obtain ⟨b, off, rfl, zb, hc⟩ := ht.get q hql
    have hcq := (hc q hql).1
    have es : siteP l v = l[q].site := by unfold siteP; rw [if_pos h3, hq]; simp [List.getD, List.getElem?_eq_getElem hql]
    rw [es, hq]
    rw [hq] at hb0
    have n0 : (0 : Int) ≤ (q : Int) := by omega
    have n1 : (q : Int) < (l.length : Int) := by omega
    generalize v.k = vk at *
    clear hc ht hv hn es hq
    go_enter Tryz.func120, Tryz.ntmps120
    go_wp2
    go_ret
    exact ⟨rfl, by go_grown⟩
  · have hd : (v.k != 3) = true := by simpa using h3
    have es : siteP l v = 0 := by unfold siteP; rw [if_neg h3]
    rw [es]
    clear es h3 hv
    go_enter Tryz.func120, Tryz.ntmps120
    go_wp2
    go_ret
    exact ⟨rfl, by go_grown⟩
set_option maxHeartbeats 4000000 in
set_option maxRecDepth 10000 in
theorem holdsRowP_any (V F : Int) (s : Option Addr) (c : List Ins) (cap : Nat) (r : St) (L : List Gs) (gs : Option Addr) (gc : Nat) (vl : List Val) (vs : Option Addr) (vc : Nat) (ts : Option Addr) (tc : Nat) (w : World) (hcd : CodeAt w s c) (hG : GsAt w gs L) (hV : ValsAt w vs vl) (hT : ThgsAt w ts r.things) (h0 : ckProg V F c = 0) (hR : ∀ g ∈ L, ckGs c g = 0) (hO : ∀ v ∈ vl, okVal r.things.length v) (hl : L.length = vl.length) (hm : vl.length ≤ 1000) :
    Calls Tryz.prog 79 #[pv V F s c cap, .slice gs L.length gc, .slice vs vl.length vc, .slice ts r.things.length tc] w fun e w' => e = .returned (.bool (showsRow r L vl)) ∧ Below w.heap.size w w' := by
  have HR := hideH hR
  have HO := hideH hO
  have HLE := hideH hl
  obtain ⟨res, HRES, hres⟩ : ∃ q, Hid (q = showsRow r L vl) ∧ showsRow r L vl = q := ⟨_, rfl, rfl⟩
  rw [hres]
  clear hres hR hO hl
  have P0 := PrAt.new w V F s c cap
  have B0 : Below w.heap.size w (w.alloc (.cells #[.int .i64 V, .int .i64 F, .slice s c.length cap] 24)) := by go_grown
  go_enter Tryz.func79, Tryz.ntmps79
  go_upto_region 2 with fail
  generalize w.alloc (.cells #[.int .i64 V, .int .i64 F, .slice s c.length cap] 24) = w1 at *
  go_wp2
  go_loopw [15] (fun i wr => ∃ k : Nat, k ≤ vl.length ∧ i = .int .i64 k ∧ Below w1.heap.size w1 wr ∧ Hid (res = showsRow r (L.drop k) (vl.drop k))) (fun i _ => vl.length - (intOf i).toNat)
  case atStart => exact ⟨0, Nat.zero_le _, rfl, Below.refl _ _, HRES⟩
  case round =>
    obtain ⟨k, hk, rfl, hbr, HK⟩ := hrel
    have LR := B0.trans (hbr.mono B0.size)
    by_cases hlt : k < vl.length
    · have n0 : (0 : Int) ≤ (k : Int) := by omega
      have n1 : (k : Int) < (vl.length : Int) := by omega
      have hlt' : k < L.length := by have := HLE.out; omega
      have n2 : (k : Int) < (L.length : Int) := by omega
      obtain ⟨b1, o1, e1, ss1, g1, G1, I1, k1, m1⟩ := (hG.below LR (Nat.le_refl _)) k hlt'
      obtain ⟨b2, o2, e2, zb2, V1, V2⟩ := (hV.below LR (Nat.le_refl _)).get k hlt
      subst e1 e2
      have hRx := HR.out _ (List.getElem_mem hlt')
      have hOk := HO.out _ (List.getElem_mem hlt)
      have HS := hideH (showsRow_step r L vl k hlt' hlt)
      have hb4 : Below wr.heap.size wr (wr.alloc (.cells #[.int .i64 vl[k].k, .int .i64 vl[k].n] 31)) := by go_grown
      have Q4 : (wr.alloc (.cells #[.int .i64 vl[k].k, .int .i64 vl[k].n] 31)).cell? ⟨wr.heap.size, 0, none⟩ = some (.int .i64 vl[k].k) ∧ (wr.alloc (.cells #[.int .i64 vl[k].k, .int .i64 vl[k].n] 31)).cell? ⟨wr.heap.size, 1, none⟩ = some (.int .i64 vl[k].n) := by simp [go_sem]
      have q4 : wr.heap.size < (wr.alloc (.cells #[.int .i64 vl[k].k, .int .i64 vl[k].n] 31)).heap.size := by simp
      have I4 := I1.call hb4
      have G4 := G1.call hb4
      have T4 := (hT.below LR (Nat.le_refl _)).call hb4
      have C4 := (hcd.below LR (Nat.le_refl _)).call hb4
      have hb34 := hbr.trans (hb4.mono hbr.size)
      go_upto_region 4 with fail
      generalize wr.alloc (.cells #[.int .i64 vl[k].k, .int .i64 vl[k].n] 31) = w4 at *
      generalize wr.heap.size = qb at *
      clear V1 V2 G1 I1
      have HKZ : Hid (∀ wx, Below w4.heap.size w4 wx → (wx.cell? ⟨w.heap.size, 0, none⟩ = some (.int .i64 V) ∧ wx.cell? ⟨w.heap.size, 1, none⟩ = some (.int .i64 F) ∧ wx.cell? ⟨w.heap.size, 2, none⟩ = some (.slice s c.length cap)) ∧ (wx.cell? ⟨b1, o1 + k * 7, none⟩ = some (.bool L[k].n) ∧ wx.cell? ⟨b1, o1 + k * 7 + 1, none⟩ = some (.bool L[k].sp.n) ∧ wx.cell? ⟨b1, o1 + k * 7 + 2, none⟩ = some (.int .i64 L[k].sp.lo) ∧ wx.cell? ⟨b1, o1 + k * 7 + 3, none⟩ = some (.int .i64 L[k].sp.hi) ∧ wx.cell? ⟨b1, o1 + k * 7 + 4, none⟩ = some (.bool L[k].t) ∧ wx.cell? ⟨b1, o1 + k * 7 + 5, none⟩ = some (.bool L[k].f) ∧ wx.cell? ⟨b1, o1 + k * 7 + 6, none⟩ = some (.slice ss1 L[k].s.length g1)) ∧ (wx.cell? ⟨qb, 0, none⟩ = some (.int .i64 vl[k].k) ∧ wx.cell? ⟨qb, 1, none⟩ = some (.int .i64 vl[k].n))) := fun wx hx => ⟨((P0.call hb34).call hx).1, (G4.call hx).1, by rw [hx.cell (by simp only; exact q4)]; exact Q4.1, by rw [hx.cell (by simp only; exact q4)]; exact Q4.2⟩
      have HD : Below w4.heap.size w4 w4.drew := (Below.refl _ _).drew
      have eK := heldGs_siteP (g := L[k]) hOk
      have HHU : Hid (∀ wx, Below w4.heap.size w4 wx → Calls Tryz.prog 10 #[pv V F s c cap, gv L[k] ss1 g1, .agg #[.int .i64 vl[k].k, .int .i64 vl[k].n], .int .i64 (siteP r.things vl[k])] wx fun e w' => e = .returned (.tuple #[.bool (heldV r L[k] vl[k]), .int .i64 0]) ∧ Below wx.heap.size wx w') := fun wx hx => by
        have e0 : kindE (ckAllG V F c [L[k]]) vl[k].k = 0 := by
          have e00 : ckAllG V F c [L[k]] = 0 := by unfold ckAllG; rw [if_pos h0]; unfold ckGss; rw [if_pos hRx]; rfl
          rw [e00]
          have := okVal_kind hOk
          unfold kindE
          rw [if_pos rfl, if_neg (by omega)]
        have := holdsU V F s c cap L[k] ss1 g1 vl[k].k vl[k].n (siteP r.things vl[k]) wx (C4.call hx) (I4.call hx) k1 m1
        rw [e0, if_pos rfl, eK] at this
        exact this
      clear eK
      refine wp_region_z (S := (fun wx => (wx.cell? ⟨w.heap.size, 0, none⟩ = some (.int .i64 V) ∧ wx.cell? ⟨w.heap.size, 1, none⟩ = some (.int .i64 F) ∧ wx.cell? ⟨w.heap.size, 2, none⟩ = some (.slice s c.length cap)) ∧ (wx.cell? ⟨b1, o1 + k * 7, none⟩ = some (.bool L[k].n) ∧ wx.cell? ⟨b1, o1 + k * 7 + 1, none⟩ = some (.bool L[k].sp.n) ∧ wx.cell? ⟨b1, o1 + k * 7 + 2, none⟩ = some (.int .i64 L[k].sp.lo) ∧ wx.cell? ⟨b1, o1 + k * 7 + 3, none⟩ = some (.int .i64 L[k].sp.hi) ∧ wx.cell? ⟨b1, o1 + k * 7 + 4, none⟩ = some (.bool L[k].t) ∧ wx.cell? ⟨b1, o1 + k * 7 + 5, none⟩ = some (.bool L[k].f) ∧ wx.cell? ⟨b1, o1 + k * 7 + 6, none⟩ = some (.slice ss1 L[k].s.length g1)) ∧ (wx.cell? ⟨qb, 0, none⟩ = some (.int .i64 vl[k].k) ∧ wx.cell? ⟨qb, 1, none⟩ = some (.int .i64 vl[k].n)))) [] (by kernel_rfl) (HKZ.out _ HD) (fun hHeld => ?_)
      refine tkZ 0 ?_ ?_ ?_
      rotate_left
      · exact rn
      (try simp only [Act.put, List.getElem_toArray, List.getElem_cons_zero, List.getElem_cons_succ, List.setIfInBounds_toArray, List.set_cons_zero, List.set_cons_succ])
      refine tkZ 1 ?_ ?_ ?_
      rotate_left
      · exact rn
      (try simp only [Act.put, List.getElem_toArray, List.getElem_cons_zero, List.getElem_cons_succ, List.setIfInBounds_toArray, List.set_cons_zero, List.set_cons_succ])
      refine tkZ 2 ?_ ?_ ?_
      rotate_left
      · exact rn
      (try simp only [Act.put, List.getElem_toArray, List.getElem_cons_zero, List.getElem_cons_succ, List.setIfInBounds_toArray, List.set_cons_zero, List.set_cons_succ])
      refine tkZ 3 ?_ ?_ ?_
      rotate_left
      · exact rn
      (try simp only [Act.put, List.getElem_toArray, List.getElem_cons_zero, List.getElem_cons_succ, List.setIfInBounds_toArray, List.set_cons_zero, List.set_cons_succ])
      refine tkZ 4 ?_ ?_ ?_
      rotate_left
      · exact rn
      (try simp only [Act.put, List.getElem_toArray, List.getElem_cons_zero, List.getElem_cons_succ, List.setIfInBounds_toArray, List.set_cons_zero, List.set_cons_succ])
      refine tkZ 5 ?_ ?_ ?_
      rotate_left
      · exact rn
      (try simp only [Act.put, List.getElem_toArray, List.getElem_cons_zero, List.getElem_cons_succ, List.setIfInBounds_toArray, List.set_cons_zero, List.set_cons_succ])
      refine tkZ 6 ?_ ?_ ?_
      rotate_left
      · exact rn
      (try simp only [Act.put, List.getElem_toArray, List.getElem_cons_zero, List.getElem_cons_succ, List.setIfInBounds_toArray, List.set_cons_zero, List.set_cons_succ])
      refine tkZ 7 ?_ ?_ ?_
      rotate_left
      · exact rn
      (try simp only [Act.put, List.getElem_toArray, List.getElem_cons_zero, List.getElem_cons_succ, List.setIfInBounds_toArray, List.set_cons_zero, List.set_cons_succ])
      refine wpAnyZ_one (i := 8) rfl (by kernel_rfl) (fun K hK => ?_)
      go_simp
      go_at_call 120
      refine (siteOfP_any vl[k] ts r.things tc _ (T4.call HD) hOk).mono ?_
      rintro e w5 ⟨rfl, hb5⟩
      have HB5 : Below w4.heap.size w4 w5 := HD.trans (hb5.mono HD.size)
      go_wp2_with fail
      refine hK.out _ _ (HKZ.out _ HB5) (fun hHeld => ?_)
      clear hK K
      (try simp only [Act.put, List.getElem_toArray, List.getElem_cons_zero, List.getElem_cons_succ, List.setIfInBounds_toArray, List.set_cons_zero, List.set_cons_succ])
      refine wpAnyZ_one (i := 9) rfl (by kernel_rfl) (fun K hK => ?_)
      go_simp
      go_at_call 10
      refine (HHU.out _ HB5).mono ?_
      rintro e w6 ⟨rfl, hb6⟩
      have HB6 : Below w4.heap.size w4 w6 := HB5.trans (hb6.mono HB5.size)
      go_wp2_with fail
      refine hK.out _ _ (HKZ.out _ HB6) (fun hHeld => ?_)
      clear hK K
      (try simp only [Act.put, List.getElem_toArray, List.getElem_cons_zero, List.getElem_cons_succ, List.setIfInBounds_toArray, List.set_cons_zero, List.set_cons_succ])
      refine tkZ 10 ?_ ?_ ?_
      rotate_left
      · exact rn
      (try simp only [Act.put, List.getElem_toArray, List.getElem_cons_zero, List.getElem_cons_succ, List.setIfInBounds_toArray, List.set_cons_zero, List.set_cons_succ])
      refine tkZ 11 ?_ ?_ ?_
      rotate_left
      · exact rn
      (try simp only [Act.put, List.getElem_toArray, List.getElem_cons_zero, List.getElem_cons_succ, List.setIfInBounds_toArray, List.set_cons_zero, List.set_cons_succ])
      refine tkZ 12 ?_ ?_ ?_
      rotate_left
      · exact rn
      (try simp only [Act.put, List.getElem_toArray, List.getElem_cons_zero, List.getElem_cons_succ, List.setIfInBounds_toArray, List.set_cons_zero, List.set_cons_succ])
      refine tkZ 13 ?_ ?_ ?_
      rotate_left
      · exact rn
      (try simp only [Act.put, List.getElem_toArray, List.getElem_cons_zero, List.getElem_cons_succ, List.setIfInBounds_toArray, List.set_cons_zero, List.set_cons_succ])
      refine tkZ 14 ?_ ?_ ?_
      rotate_left
      · exact rn
      (try simp only [Act.put, List.getElem_toArray, List.getElem_cons_zero, List.getElem_cons_succ, List.setIfInBounds_toArray, List.set_cons_zero, List.set_cons_succ])
      refine wpAnyZ_done (by kernel_rfl) ?_ _
      have hb35 := hb34.trans (HB6.mono hb34.size)
      rcases (show heldV r L[k] vl[k] = false ∨ heldV r L[k] vl[k] = true by cases heldV r L[k] vl[k] <;> simp) with hs | hs <;> have HSG := hideH hs <;> rw [hs] <;> clear hs
      · go_wp2
        go_ret
        refine ⟨?_, B0.trans (hb35.mono B0.size)⟩
        rw [HK.out, HS.out, HSG.out]
        rfl
      · go_wp2
        go_roundw
        case rel => exact ⟨k + 1, by omega, by go_num, hb35, by show _ = _; rw [HK.out, HS.out, HSG.out]; rfl⟩
        case measure => simp [intOf]; omega
    · have n1 : ¬ (k : Int) < (vl.length : Int) := by omega
      go_wp2
      go_ret
      refine ⟨?_, LR⟩
      rw [HK.out, List.drop_eq_nil_of_le (show vl.length ≤ k by omega)]
      simp [showsRow]
end Go.Proofs.YtmapdpcfanecdaaGreat

namespace Go.Proofs.YtmapdpcfanecdaaGreat
set_option linter.unusedVariables false
set_option linter.unusedSimpArgs false
open Go.RowKit

def valCells : List Val → List Value
  | [] => []
  | v :: r => .int .i64 v.k :: .int .i64 v.n :: valCells r

theorem valCells_k (l : List Val) : ∀ (i : Nat) (h : i < l.length), (valCells l)[i * 2]? = some (.int .i64 l[i].k) := by
  induction l with
  | nil => intro i h; simp at h
  | cons v r ih =>
    intro i h
    cases i with
    | zero => rfl
    | succ i => rw [show (i + 1) * 2 = i * 2 + 1 + 1 by omega]; simpa [valCells] using ih i (by simpa using h)

theorem valCells_n (l : List Val) : ∀ (i : Nat) (h : i < l.length), (valCells l)[i * 2 + 1]? = some (.int .i64 l[i].n) := by
  induction l with
  | nil => intro i h; simp at h
  | cons v r ih =>
    intro i h
    cases i with
    | zero => rfl
    | succ i => rw [show (i + 1) * 2 + 1 = (i * 2 + 1) + 1 + 1 by omega]; simpa [valCells] using ih i (by simpa using h)

/-- Values lie in a row of the call's own. -/
abbrev ValRow (w : World) (B : Nat) (v : Value) (l : List Val) : Prop := w.ownsRow B 31 2 v l.length (valCells l)

def thgCells : List Int → List Value → List Value
  | s :: ss, f :: fs => .int .i64 s :: f :: thgCells ss fs
  | _, _ => []

/-- A run in memory of the call's own, its six fields in block m: the values' row is vv, the things' tv, with fields' rows fv, the lines' lv. -/
structure OwnRun (w : World) (B m : Nat) (s : St) (vv tv lv : Value) (fv : List Value) : Prop where
  low : B ≤ m
  at_ : w.cell? ⟨m, 0, none⟩ = some (.int .i64 s.at_)
  vars_ : w.cell? ⟨m, 1, none⟩ = some vv
  things_ : w.cell? ⟨m, 2, none⟩ = some tv
  taken_ : w.cell? ⟨m, 3, none⟩ = some (.int .i64 s.taken)
  lines_ : w.cell? ⟨m, 4, none⟩ = some lv
  fin_ : w.cell? ⟨m, 5, none⟩ = some (.int .i64 s.fin)
  thaw : ∀ j, w.frozen? ⟨m, j, none⟩ = false
  vars : ValRow w B vv s.vars
  things : w.ownsRow B 118 2 tv s.things.length (thgCells (s.things.map (·.site)) fv)
  count : fv.length = s.things.length
  fields : ∀ i (h : i < s.things.length), ValRow w B (fv[i]'(by rw [count]; exact h)) (s.things[i].fs)
  lines : w.ownsRow B 9 1 lv s.lines.length (s.lines.map .string)
  apart : (some m :: vv.ownBlock :: tv.ownBlock :: lv.ownBlock :: fv.map Value.ownBlock).Pairwise fun a b => ∀ x, a = some x → b ≠ some x

end Go.Proofs.YtmapdpcfanecdaaGreat

namespace Go.Proofs.YtmapdpcfanecdaaGreat
set_option linter.unusedVariables false
set_option linter.unusedSimpArgs false
open Go.RowKit

set_option maxHeartbeats 400000 in
theorem truth_any (b : Bool) (w : World) :
    Calls Tryz.prog 153 #[.bool b] w fun e w' => e = .returned (.agg #[.int .i64 (truV b).k, .int .i64 (truV b).n]) ∧ Below w.heap.size w w' := by
  cases b
  all_goals
    go_enter Tryz.func153, Tryz.ntmps153
    go_wp2
    go_returns
    exact ⟨rfl, by go_grown⟩

end Go.Proofs.YtmapdpcfanecdaaGreat

namespace Go.Proofs.YtmapdpcfanecdaaGreat
set_option linter.unusedVariables false
set_option linter.unusedSimpArgs false
open Go.RowKit

section
variable {w w' w1 : World} {B m : Nat} {s : St} {vv tv lv : Value} {fv : List Value}

theorem thgCells_site : ∀ (ss : List Int) (fs : List Value) (_ : fs.length = ss.length) (i : Nat) (h : i < ss.length), (thgCells ss fs)[i * 2]? = some (.int .i64 ss[i])
  | [], _, _, _, h => by simp at h
  | _ :: _, [], h, _, _ => by simp at h
  | _ :: _, _ :: _, _, 0, _ => rfl
  | _ :: ss, _ :: fs, h, i + 1, hi => by
    rw [show (i + 1) * 2 = i * 2 + 1 + 1 by omega]
    simpa [thgCells] using thgCells_site ss fs (by simpa using h) i (by simpa using hi)
theorem thgCells_field : ∀ (ss : List Int) (fs : List Value) (_ : fs.length = ss.length) (i : Nat) (h : i < fs.length), (thgCells ss fs)[i * 2 + 1]? = some fs[i]
  | [], [], _, _, h => by simp at h
  | [], _ :: _, h, _, _ => by simp at h
  | _ :: _, [], h, _, _ => by simp at h
  | _ :: _, _ :: _, _, 0, _ => rfl
  | _ :: ss, _ :: fs, h, i + 1, hi => by
    rw [show (i + 1) * 2 + 1 = (i * 2 + 1) + 1 + 1 by omega]
    simpa [thgCells] using thgCells_field ss fs (by simpa using h) i (by simpa using hi)

end
end Go.Proofs.YtmapdpcfanecdaaGreat

namespace Go.Proofs.YtmapdpcfanecdaaGreat
set_option linter.unusedVariables false
set_option linter.unusedSimpArgs false
open Go.RowKit

/-- A run's rows, apart from one another. -/
structure OwnRows (w : World) (B : Nat) (s : St) (vv tv lv : Value) (fv : List Value) : Prop where
  vars : ValRow w B vv s.vars
  things : w.ownsRow B 118 2 tv s.things.length (thgCells (s.things.map (·.site)) fv)
  count : fv.length = s.things.length
  fields : ∀ i (h : i < s.things.length), ValRow w B (fv[i]'(by rw [count]; exact h)) (s.things[i].fs)
  lines : w.ownsRow B 9 1 lv s.lines.length (s.lines.map .string)
  apart : (vv.ownBlock :: tv.ownBlock :: lv.ownBlock :: fv.map Value.ownBlock).Pairwise fun a b => ∀ x, a = some x → b ≠ some x

section
variable {w w' : World} {B m : Nat} {s : St} {vv tv lv : Value} {fv : List Value}

theorem ValRow.at {v : Value} {l : List Val} (h : ValRow w B v l) : ∃ vs vc, v = .slice vs l.length vc ∧ ValsAt w vs l := by
  unfold ValRow at h
  rcases h.2 with ⟨hv, hn⟩ | ⟨g, cap, cur, hv, hb, hg, _⟩
  · exact ⟨none, 0, by rw [hv, hn], .inl (List.eq_nil_of_length_eq_zero hn)⟩
  · subst hv
    refine ⟨some ⟨g, 0, none⟩, cap, rfl, ?_⟩
    by_cases h0 : l = []
    · exact .inl h0
    · refine .inr ⟨g, 0, rfl, (Array.getElem?_eq_some_iff.1 hg).1, fun k hk => ?_⟩
      rw [Nat.zero_add, h.cellAt (k * 2) (by omega), h.cellAt (k * 2 + 1) (by omega)]
      exact ⟨valCells_k l k hk, valCells_n l k hk⟩
theorem StrRow.at {v : Value} {l : List ByteArray} (h : w.ownsRow B 9 1 v l.length (l.map .string)) : ∃ vs vc, v = .slice vs l.length vc ∧ StrsAt w vs l := by
  rcases h.2 with ⟨hv, hn⟩ | ⟨g, cap, cur, hv, hb, hg, _⟩
  · exact ⟨none, 0, by rw [hv, hn], .inl (List.eq_nil_of_length_eq_zero hn)⟩
  · subst hv
    refine ⟨some ⟨g, 0, none⟩, cap, rfl, ?_⟩
    by_cases h0 : l = []
    · exact .inl h0
    · refine .inr ⟨g, 0, rfl, (Array.getElem?_eq_some_iff.1 hg).1, fun k hk => ?_⟩
      rw [Nat.zero_add, h.cellAt k (by omega)]
      simp [hk]
theorem OwnRows.at (h : OwnRows w B s vv tv lv fv) : ∃ vs vc ts tc ls lc, vv = .slice vs s.vars.length vc ∧ tv = .slice ts s.things.length tc ∧ lv = .slice ls s.lines.length lc ∧ RunAt w s vs ts ls := by
  obtain ⟨vs, vc, e1, h1⟩ := ValRow.at h.vars
  obtain ⟨ls, lc, e3, h3⟩ := StrRow.at h.lines
  have ht := h.things
  rcases ht.2 with ⟨hv, hn⟩ | ⟨g, cap, cur, hv, hb, hg, _⟩
  · exact ⟨vs, vc, none, 0, ls, lc, e1, by rw [hv, hn], e3, h1, .inl (List.eq_nil_of_length_eq_zero hn), h3⟩
  · subst hv
    refine ⟨vs, vc, some ⟨g, 0, none⟩, cap, ls, lc, e1, rfl, e3, h1, ?_, h3⟩
    by_cases h0 : s.things = []
    · exact .inl h0
    · refine .inr ⟨g, 0, rfl, (Array.getElem?_eq_some_iff.1 hg).1, fun k hk => ?_⟩
      obtain ⟨f, fc, e, hf⟩ := ValRow.at (h.fields k hk)
      rw [Nat.zero_add, ht.cellAt (k * 2) (by omega), ht.cellAt (k * 2 + 1) (by omega)]
      refine ⟨?_, f, fc, ?_, hf⟩
      · rw [thgCells_site _ _ (by simp [h.count]) k (by simpa using hk)]
        simp
      · rw [thgCells_field _ _ (by simp [h.count]) k (by rw [h.count]; exact hk), e]
end
end Go.Proofs.YtmapdpcfanecdaaGreat

namespace Go.Proofs.YtmapdpcfanecdaaGreat
set_option linter.unusedVariables false
set_option linter.unusedSimpArgs false
open Go.RowKit
attribute [local go_sem ↓] Go.wp_at_zero Go.wp_at_succ
theorem hideK {p : Prop} (h : p) : Hid p := h

end Go.Proofs.YtmapdpcfanecdaaGreat

namespace Go.Proofs.YtmapdpcfanecdaaGreat
set_option linter.unusedVariables false
set_option linter.unusedSimpArgs false
open Go.RowKit

def R6 (w : World) (b : Nat) (x0 x1 x2 x3 x4 x5 : Value) : Prop := (w.cell? ⟨b, 0, none⟩ = some x0 ∧ w.cell? ⟨b, 1, none⟩ = some x1 ∧ w.cell? ⟨b, 2, none⟩ = some x2 ∧ w.cell? ⟨b, 3, none⟩ = some x3 ∧ w.cell? ⟨b, 4, none⟩ = some x4 ∧ w.cell? ⟨b, 5, none⟩ = some x5) ∧ b < w.heap.size ∧ ∀ j, w.frozen? ⟨b, j, none⟩ = false
abbrev set6 (w : World) (b : Nat) (y0 y1 y2 y3 y4 y5 : Value) : World := (((((w.setCell ⟨b, 0, none⟩ y0).setCell ⟨b, 1, none⟩ y1).setCell ⟨b, 2, none⟩ y2).setCell ⟨b, 3, none⟩ y3).setCell ⟨b, 4, none⟩ y4).setCell ⟨b, 5, none⟩ y5
section
variable {w w' : World} {B b : Nat} {x0 x1 x2 x3 x4 x5 : Value}
theorem R6.same (h : R6 w b x0 x1 x2 x3 x4 x5) (hb : w'.heap[b]? = w.heap[b]?) (hz : w.heap.size ≤ w'.heap.size) : R6 w' b x0 x1 x2 x3 x4 x5 := by
  have hc : ∀ j, w'.cell? ⟨b, j, none⟩ = w.cell? ⟨b, j, none⟩ := fun j => World.cell?_of_block (a := ⟨b, j, none⟩) hb
  have hf : ∀ j, w'.frozen? ⟨b, j, none⟩ = w.frozen? ⟨b, j, none⟩ := fun j => World.frozen?_of_block (a := ⟨b, j, none⟩) hb
  obtain ⟨⟨h0, h1, h2, h3, h4, h5⟩, h6, h7⟩ := h
  exact ⟨⟨(hc _).trans h0, (hc _).trans h1, (hc _).trans h2, (hc _).trans h3, (hc _).trans h4, (hc _).trans h5⟩, Nat.lt_of_lt_of_le h6 hz, fun j => (hf j).trans (h7 j)⟩
theorem R6.below (h : R6 w b x0 x1 x2 x3 x4 x5) (hb : Below B w w') (hB : b < B) : R6 w' b x0 x1 x2 x3 x4 x5 := h.same (hb.block b hB) hb.size
theorem R6.call (h : R6 w b x0 x1 x2 x3 x4 x5) (hb : Below w.heap.size w w') : R6 w' b x0 x1 x2 x3 x4 x5 := h.below hb h.2.1
theorem R6.new (w : World) (t : TypeId) (x0 x1 x2 x3 x4 x5 : Value) : R6 (w.alloc (.cells #[x0, x1, x2, x3, x4, x5] t)) w.heap.size x0 x1 x2 x3 x4 x5 := by
  refine ⟨⟨?_, ?_, ?_, ?_, ?_, ?_⟩, by simp, fun j => ?_⟩ <;> simp [go_sem]
/-- A run's beginning, its row just made. -/
theorem begin_rows {v g : Nat} (h8 : v ≤ 8) (h : w.ownsRow B 31 2 (.slice (some ⟨g, 0, none⟩) v v) v (valCells (List.replicate v ⟨0, 0⟩))) : OwnRows w B (beginSt v) (.slice (some ⟨g, 0, none⟩) v v) (.slice none 0 0) (.slice none 0 0) [] := by
  refine ⟨?_, World.ownsRow_nil _ _ _ _, rfl, fun i hi => by simp [beginSt] at hi, World.ownsRow_nil _ _ _ _, by simp [Value.ownBlock]⟩
  unfold ValRow
  simpa [beginSt] using h
end
end Go.Proofs.YtmapdpcfanecdaaGreat
