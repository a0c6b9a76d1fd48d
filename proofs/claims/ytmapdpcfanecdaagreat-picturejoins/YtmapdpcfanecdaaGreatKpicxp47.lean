/- Walks over package picture: which values a row of guesses holds. -/
import Derived.Test.YtmapdpcfanecdaaGreatKpicxp01
import Derived.Test.YtmapdpcfanecdaaGreatKpicxp08
import Derived.Lib.ItoaNum
import Derived.Lib.ItoaLen
import Derived.Lib.QuietBelow
import Derived.BigQuiet
import Derived.Test.YtmapdpcfanecdaaGreatKpicxp03
import Derived.Test.YtmapdpcfanecdaaGreatKpicxp31
import Derived.Test.YtmapdpcfanecdaaGreatKpicxp05
import Derived.Test.YtmapdpcfanecdaaGreatKpicxp07
import Derived.Deep.DeepCutAuto
import Derived.OwnWalk
import Derived.Deep.DrawnRows
namespace Go.Proofs.YtmapdpcfanecdaaGreat
set_option linter.unusedVariables false
set_option linter.unusedSimpArgs false

def zeroIns : Ins := ⟨0, 0, 0, 0, 0, 0⟩
def insAt (c : List Ins) (p : Int) : Ins := c.getD p.toNat zeroIns
/-- A run's beginning. -/
def beginSt (V : Int) : St := ⟨0, List.replicate V.toNat ⟨0, 0⟩, [], 0, [], 0⟩
/-- What is told of a run, in a program that is right. -/
def okValB (T : Nat) (v : Val) : Bool := (decide (v.k = 0) && decide (v.n = 0)) || ((decide (v.k = 1) && btw v.n (-2147483648) 2147483647) || ((decide (v.k = 2) && btw v.n 0 1) || (decide (v.k = 3) && btw v.n 0 ((T : Int) - 1))))
def isNew (c : List Ins) (x : Int) : Bool := btw x 0 ((c.length : Int) - 1) && decide ((insAt c x).k = 11)
def ckRun (V F : Int) (c : List Ins) (r : St) : Int :=
  if (!btw r.at_ 0 c.length || decide (r.taken < 0)) || !btw r.fin 0 5 then 3
  else if (r.vars.length : Int) ≠ V then 1
  else if 100 < r.things.length then 2
  else if r.things.all (fun t => isNew c t.site) = false then 5
  else if r.things.all (fun t => decide ((t.fs.length : Int) = F)) = false then 1
  else if (r.vars.all (okValB r.things.length) && r.things.all fun t => t.fs.all (okValB r.things.length)) = false then 4
  else 0
end Go.Proofs.YtmapdpcfanecdaaGreat

namespace Go.Proofs.YtmapdpcfanecdaaGreat
set_option linter.unusedVariables false
set_option linter.unusedSimpArgs false

theorem okValB_iff {T : Nat} {v : Val} : okValB T v = true ↔ okVal T v := by
  unfold okValB okVal btw
  simp only [Bool.or_eq_true, Bool.and_eq_true, decide_eq_true_eq]
  constructor
  · rintro (h | h | h | h)
    · exact .inl h
    · exact .inr (.inl ⟨h.1, h.2⟩)
    · exact .inr (.inr (.inl ⟨h.1, by omega⟩))
    · exact .inr (.inr (.inr ⟨h.1, by omega, by omega⟩))
  · rintro (h | h | h | h)
    · exact .inl h
    · exact .inr (.inl ⟨h.1, h.2⟩)
    · exact .inr (.inr (.inl ⟨h.1, by omega⟩))
    · exact .inr (.inr (.inr ⟨h.1, by omega, by omega⟩))

end Go.Proofs.YtmapdpcfanecdaaGreat

namespace Go.Proofs.YtmapdpcfanecdaaGreat
set_option linter.unusedVariables false
set_option linter.unusedSimpArgs false

/-- Where a value was made, if it is a thing. -/
def siteV (r : St) (v : Val) : Int := if v.k = 3 then (r.things.getD v.n.toNat ⟨0, []⟩).site else -1
def heldV (r : St) (g : Gs) (v : Val) : Bool := heldGs g v.k v.n (siteV r v)
def showsRow (r : St) (l : List Gs) (vs : List Val) : Bool := (List.zipWith (heldV r) l vs).all id
/-- Is a run one that a picture shows? -/
def showsPic (x : Pic) (r : St) : Bool := !x.none && (showsRow r x.vars r.vars && r.things.all fun t => showsRow r (x.flds.getD t.site.toNat []) t.fs)

section
variable {c : List Ins} {g h : Gs} {w : Bool}
end

theorem strayAt_iff {c : List Ins} {p : Gs → Bool} : ∀ {l : List (List Gs)} {i : Nat}, strayAt c p i l = false ↔ ∀ k (h : k < l.length), isSite c ((i + k : Nat) : Int) = true ∨ ∀ g ∈ l[k], p g = false
  | [], i => by simp [strayAt]
  | r :: l, i => by
    unfold strayAt
    rw [Bool.or_eq_false_iff, strayAt_iff (l := l)]
    constructor
    · rintro ⟨h, h'⟩ k hk
      cases k with
      | zero =>
        rw [Bool.and_eq_false_iff] at h
        rcases h with h | h
        · exact .inl (by simpa using h)
        · exact .inr (by simpa using h)
      | succ k =>
        have := h' k (by simpa using hk)
        rwa [show i + 1 + k = i + (k + 1) by omega] at this
    · intro h
      refine ⟨?_, fun k hk => ?_⟩
      · rw [Bool.and_eq_false_iff]
        rcases h 0 (by simp) with h | h
        · exact .inl (by simpa using h)
        · exact .inr (by simpa using h)
      · have := h (k + 1) (by simpa using hk)
        rwa [show i + (k + 1) = i + 1 + k by omega] at this
theorem ckGss_iff {c : List Ins} : ∀ {l : List Gs}, ckGss c l = 0 ↔ ∀ g ∈ l, ckGs c g = 0
  | [] => by simp [ckGss]
  | g :: l => by
    unfold ckGss
    by_cases h : ckGs c g = 0
    · rw [if_pos h, ckGss_iff]
      simp [h]
    · rw [if_neg h]
      exact ⟨fun e => absurd e h, fun e => e g (by simp)⟩
end Go.Proofs.YtmapdpcfanecdaaGreat

namespace Go.Proofs.YtmapdpcfanecdaaGreat
set_option linter.unusedVariables false
set_option linter.unusedSimpArgs false
open Go.RowKit

/-- A list of things lies behind a slice's address, their fields behind theirs. -/
def ThgsAt (w : World) (s : Option Addr) (l : List Thg) : Prop :=
  l = [] ∨ ∃ b off, s = some ⟨b, off, none⟩ ∧ b < w.heap.size ∧ ∀ k (h : k < l.length), w.cell? ⟨b, off + k * 2, none⟩ = some (.int .i64 l[k].site) ∧ ∃ f fc, w.cell? ⟨b, off + k * 2 + 1, none⟩ = some (.slice f l[k].fs.length fc) ∧ ValsAt w f l[k].fs
/-- A list of texts. -/
def StrsAt (w : World) (s : Option Addr) (l : List ByteArray) : Prop :=
  l = [] ∨ ∃ b off, s = some ⟨b, off, none⟩ ∧ b < w.heap.size ∧ ∀ k (h : k < l.length), w.cell? ⟨b, off + k, none⟩ = some (.string l[k])
theorem ThgsAt.below {B : Nat} {w w' : World} {s : Option Addr} {l : List Thg} (h : ThgsAt w s l) (hb : Below B w w') (hB : w.heap.size ≤ B) : ThgsAt w' s l := by
  rcases h with h | ⟨b, off, hs, hlt, hi⟩
  · exact .inl h
  · refine .inr ⟨b, off, hs, Nat.lt_of_lt_of_le hlt hb.size, fun k h => ?_⟩
    obtain ⟨h1, f, fc, h2, h3⟩ := hi k h
    exact ⟨by rw [hb.cell (by simp; omega)]; exact h1, f, fc, by rw [hb.cell (by simp; omega)]; exact h2, h3.below hb hB⟩
theorem StrsAt.below {B : Nat} {w w' : World} {s : Option Addr} {l : List ByteArray} (h : StrsAt w s l) (hb : Below B w w') (hB : w.heap.size ≤ B) : StrsAt w' s l := by
  rcases h with h | ⟨b, off, hs, hlt, hi⟩
  · exact .inl h
  · exact .inr ⟨b, off, hs, Nat.lt_of_lt_of_le hlt hb.size, fun k h => by rw [hb.cell (by simp; omega)]; exact hi k h⟩

/-- What a run's slices lead to. -/
def RunAt (w : World) (r : St) (vs ts ls : Option Addr) : Prop := ValsAt w vs r.vars ∧ ThgsAt w ts r.things ∧ StrsAt w ls r.lines
theorem RunAt.below {B : Nat} {w w' : World} {r : St} {vs ts ls : Option Addr} (h : RunAt w r vs ts ls) (hb : Below B w w') (hB : w.heap.size ≤ B) : RunAt w' r vs ts ls := ⟨h.1.below hb hB, h.2.1.below hb hB, h.2.2.below hb hB⟩
/-- A run, as a value. -/
def runV (r : St) (vs : Option Addr) (vc : Nat) (ts : Option Addr) (tc : Nat) (ls : Option Addr) (lc : Nat) : Value :=
  .agg #[.int .i64 r.at_, .slice vs r.vars.length vc, .slice ts r.things.length tc, .int .i64 r.taken, .slice ls r.lines.length lc, .int .i64 r.fin]
/-- Its lengths are lengths. -/
def LenSt (r : St) : Prop := r.vars.length ≤ maxLen ∧ r.things.length ≤ maxLen ∧ r.lines.length ≤ maxLen ∧ ∀ t ∈ r.things, t.fs.length ≤ maxLen
end Go.Proofs.YtmapdpcfanecdaaGreat

namespace Go.Proofs.YtmapdpcfanecdaaGreat
set_option linter.unusedVariables false
set_option linter.unusedSimpArgs false
open Go.RowKit
attribute [local go_sem ↓] Go.wp_at_zero Go.wp_at_succ

/-- Where the program says that a value was made. -/
def siteP (l : List Thg) (v : Val) : Int := if v.k = 3 then (l.getD v.n.toNat ⟨0, []⟩).site else 0
theorem heldGs_siteP {r : St} {g : Gs} {v : Val} (h : okVal r.things.length v) : heldGs g v.k v.n (siteP r.things v) = heldV r g v := by
  unfold heldV heldGs siteP siteV
  rcases h with ⟨h, _⟩ | ⟨h, _⟩ | ⟨h, _⟩ | ⟨h, _⟩
  · rw [if_pos h, if_pos h]
  · rw [if_neg (by omega), if_pos h, if_neg (by omega), if_pos h]
  · rw [if_neg (by omega), if_neg (by omega), if_pos h, if_neg (by omega), if_neg (by omega), if_pos h]
  · simp [h]
theorem showsRow_step (r : St) (a : List Gs) (b : List Val) (k : Nat) (h : k < a.length) (h' : k < b.length) : showsRow r (a.drop k) (b.drop k) = (heldV r a[k] b[k] && showsRow r (a.drop (k + 1)) (b.drop (k + 1))) := by
  unfold showsRow
  rw [List.drop_eq_getElem_cons h, List.drop_eq_getElem_cons h']
  rfl
theorem okVal_kind {T : Nat} {v : Val} (h : okVal T v) : 0 ≤ v.k ∧ v.k ≤ 3 := by unfold okVal at h; omega
theorem ThgsAt.get {w : World} {s : Option Addr} {l : List Thg} (h : ThgsAt w s l) (k : Nat) (hk : k < l.length) : ∃ b off, s = some ⟨b, off, none⟩ ∧ b < w.heap.size ∧ ∀ k (h : k < l.length), w.cell? ⟨b, off + k * 2, none⟩ = some (.int .i64 l[k].site) ∧ ∃ f fc, w.cell? ⟨b, off + k * 2 + 1, none⟩ = some (.slice f l[k].fs.length fc) ∧ ValsAt w f l[k].fs := by
  rcases h with rfl | h
  · exact absurd hk (by simp)
  · exact h
theorem ThgsAt.call {w w' : World} {s : Option Addr} {l : List Thg} (h : ThgsAt w s l) (hb : Below w.heap.size w w') : ThgsAt w' s l := h.below hb (Nat.le_refl _)
theorem ValsAt.get {w : World} {s : Option Addr} {l : List Val} (h : ValsAt w s l) (k : Nat) (hk : k < l.length) : ∃ b off, s = some ⟨b, off, none⟩ ∧ b < w.heap.size ∧ w.cell? ⟨b, off + k * 2, none⟩ = some (.int .i64 l[k].k) ∧ w.cell? ⟨b, off + k * 2 + 1, none⟩ = some (.int .i64 l[k].n) := by
  rcases h with rfl | ⟨b, off, e, hb, h⟩
  · exact absurd hk (by simp)
  · exact ⟨b, off, e, hb, h k hk⟩
theorem ValsAt.call {w w' : World} {s : Option Addr} {l : List Val} (h : ValsAt w s l) (hb : Below w.heap.size w w') : ValsAt w' s l := h.below hb (Nat.le_refl _)
set_option maxHeartbeats 2000000 in
set_option maxRecDepth 10000 in
theorem siteOfP_any (v : Val) (ts : Option Addr) (l : List Thg) (tc : Nat) (w : World) (ht : ThgsAt w ts l) (hv : okVal l.length v) :
    Calls Tryz.prog 120 #[.agg #[.int .i64 v.k, .int .i64 v.n], .slice ts l.length tc] w fun e w' => e = .returned (.int .i64 (siteP l v)) ∧ Below w.heap.size w w' := by
  have hb0 : Below w.heap.size w (w.alloc (.cells #[.int .i64 v.k, .int .i64 v.n] 31)) := by go_grown
  by_cases h3 : v.k = 3
  · have hd : (v.k != 3) = false := by rw [h3]; rfl
    have hn : 0 ≤ v.n ∧ v.n < l.length := by unfold okVal at hv; omega
    obtain ⟨q, hq⟩ := Int.eq_ofNat_of_zero_le hn.1
    have hql : q < l.length := by omega
    obtain ⟨b, off, rfl, zb, hc⟩ := ht.get q hql
    have hcq := (hc q hql).1
    have es : siteP l v = l[q].site := by unfold siteP; rw [if_pos h3, hq]; simp [List.getD, List.getElem?_eq_getElem hql]
    rw [es, hq]
    rw [hq] at hb0
    have n0 : (0 : Int) ≤ (q : Int) := by omega
    have n1 : (q : Int) < (l.length : Int) := by omega
    generalize v.k = vk at *
    clear hc ht hv hn es hq
    go_enter Tryz.func120, Tryz.ntmps120
    go_wp2
    go_ret
    exact ⟨rfl, by go_grown⟩
  · have hd : (v.k != 3) = true := by simpa using h3
    have es : siteP l v = 0 := by unfold siteP; rw [if_neg h3]
    rw [es]
    clear es h3 hv
    go_enter Tryz.func120, Tryz.ntmps120
    go_wp2
    go_ret
    exact ⟨rfl, by go_grown⟩
set_option maxHeartbeats 4000000 in
set_option maxRecDepth 10000 in
theorem holdsRowP_any (V F : Int) (s : Option Addr) (c : List Ins) (cap : Nat) (r : St) (L : List Gs) (gs : Option Addr) (gc : Nat) (vl : List Val) (vs : Option Addr) (vc : Nat) (ts : Option Addr) (tc : Nat) (w : World) (hcd : CodeAt w s c) (hG : GsAt w gs L) (hV : ValsAt w vs vl) (hT : ThgsAt w ts r.things) (h0 : ckProg V F c = 0) (hR : ∀ g ∈ L, ckGs c g = 0) (hO : ∀ v ∈ vl, okVal r.things.length v) (hl : L.length = vl.length) (hm : vl.length ≤ 1000) :
    Calls Tryz.prog 79 #[pv V F s c cap, .slice gs L.length gc, .slice vs vl.length vc, .slice ts r.things.length tc] w fun e w' => e = .returned (.bool (showsRow r L vl)) ∧ Below w.heap.size w w' := by
  have HR := hideH hR
  have HO := hideH hO
  have HLE := hideH hl
  obtain ⟨res, HRES, hres⟩ : ∃ q, Hid (q = showsRow r L vl) ∧ showsRow r L vl = q := ⟨_, rfl, rfl⟩
  rw [hres]
  clear hres hR hO hl
  have P0 := PrAt.new w V F s c cap
  have B0 : Below w.heap.size w (w.alloc (.cells #[.int .i64 V, .int .i64 F, .slice s c.length cap] 24)) := by go_grown
  go_enter Tryz.func79, Tryz.ntmps79
  go_upto_region 2 with fail
  generalize w.alloc (.cells #[.int .i64 V, .int .i64 F, .slice s c.length cap] 24) = w1 at *
  go_wp2
  go_loopw [15] (fun i wr => ∃ k : Nat, k ≤ vl.length ∧ i = .int .i64 k ∧ Below w1.heap.size w1 wr ∧ Hid (res = showsRow r (L.drop k) (vl.drop k))) (fun i _ => vl.length - (intOf i).toNat)
  case atStart => exact ⟨0, Nat.zero_le _, rfl, Below.refl _ _, HRES⟩
  case round =>
    obtain ⟨k, hk, rfl, hbr, HK⟩ := hrel
    have LR := B0.trans (hbr.mono B0.size)
    by_cases hlt : k < vl.length
    · have n0 : (0 : Int) ≤ (k : Int) := by omega
      have n1 : (k : Int) < (vl.length : Int) := by omega
      have hlt' : k < L.length := by have := HLE.out; omega
      have n2 : (k : Int) < (L.length : Int) := by omega
      obtain ⟨b1, o1, e1, ss1, g1, G1, I1, k1, m1⟩ := (hG.below LR (Nat.le_refl _)) k hlt'
      obtain ⟨b2, o2, e2, zb2, V1, V2⟩ := (hV.below LR (Nat.le_refl _)).get k hlt
      subst e1 e2
      have hRx := HR.out _ (List.getElem_mem hlt')
      have hOk := HO.out _ (List.getElem_mem hlt)
      have HS := hideH (showsRow_step r L vl k hlt' hlt)
      have hb4 : Below wr.heap.size wr (wr.alloc (.cells #[.int .i64 vl[k].k, .int .i64 vl[k].n] 31)) := by go_grown
      have Q4 : (wr.alloc (.cells #[.int .i64 vl[k].k, .int .i64 vl[k].n] 31)).cell? ⟨wr.heap.size, 0, none⟩ = some (.int .i64 vl[k].k) ∧ (wr.alloc (.cells #[.int .i64 vl[k].k, .int .i64 vl[k].n] 31)).cell? ⟨wr.heap.size, 1, none⟩ = some (.int .i64 vl[k].n) := by simp [go_sem]
      have q4 : wr.heap.size < (wr.alloc (.cells #[.int .i64 vl[k].k, .int .i64 vl[k].n] 31)).heap.size := by simp
      have I4 := I1.call hb4
      have G4 := G1.call hb4
      have T4 := (hT.below LR (Nat.le_refl _)).call hb4
      have C4 := (hcd.below LR (Nat.le_refl _)).call hb4
      have hb34 := hbr.trans (hb4.mono hbr.size)
      go_upto_region 4 with fail
      generalize wr.alloc (.cells #[.int .i64 vl[k].k, .int .i64 vl[k].n] 31) = w4 at *
      generalize wr.heap.size = qb at *
      clear V1 V2 G1 I1
      have HKZ : Hid (∀ wx, Below w4.heap.size w4 wx → (wx.cell? ⟨w.heap.size, 0, none⟩ = some (.int .i64 V) ∧ wx.cell? ⟨w.heap.size, 1, none⟩ = some (.int .i64 F) ∧ wx.cell? ⟨w.heap.size, 2, none⟩ = some (.slice s c.length cap)) ∧ (wx.cell? ⟨b1, o1 + k * 7, none⟩ = some (.bool L[k].n) ∧ wx.cell? ⟨b1, o1 + k * 7 + 1, none⟩ = some (.bool L[k].sp.n) ∧ wx.cell? ⟨b1, o1 + k * 7 + 2, none⟩ = some (.int .i64 L[k].sp.lo) ∧ wx.cell? ⟨b1, o1 + k * 7 + 3, none⟩ = some (.int .i64 L[k].sp.hi) ∧ wx.cell? ⟨b1, o1 + k * 7 + 4, none⟩ = some (.bool L[k].t) ∧ wx.cell? ⟨b1, o1 + k * 7 + 5, none⟩ = some (.bool L[k].f) ∧ wx.cell? ⟨b1, o1 + k * 7 + 6, none⟩ = some (.slice ss1 L[k].s.length g1)) ∧ (wx.cell? ⟨qb, 0, none⟩ = some (.int .i64 vl[k].k) ∧ wx.cell? ⟨qb, 1, none⟩ = some (.int .i64 vl[k].n))) := fun wx hx => ⟨((P0.call hb34).call hx).1, (G4.call hx).1, by rw [hx.cell (by simp only; exact q4)]; exact Q4.1, by rw [hx.cell (by simp only; exact q4)]; exact Q4.2⟩
      have HD : Below w4.heap.size w4 w4.drew := (Below.refl _ _).drew
      have eK := heldGs_siteP (g := L[k]) hOk
      have HHU : Hid (∀ wx, Below w4.heap.size w4 wx → Calls Tryz.prog 10 #[pv V F s c cap, gv L[k] ss1 g1, .agg #[.int .i64 vl[k].k, .int .i64 vl[k].n], .int .i64 (siteP r.things vl[k])] wx fun e w' => e = .returned (.tuple #[.bool (heldV r L[k] vl[k]), .int .i64 0]) ∧ Below wx.heap.size wx w') := fun wx hx => by
        have e0 : kindE (ckAllG V F c [L[k]]) vl[k].k = 0 := by
          have e00 : ckAllG V F c [L[k]] = 0 := by unfold ckAllG; rw [if_pos h0]; unfold ckGss; rw [if_pos hRx]; rfl
          rw [e00]
          have := okVal_kind hOk
          unfold kindE
          rw [if_pos rfl, if_neg (by omega)]
        have := holdsU V F s c cap L[k] ss1 g1 vl[k].k vl[k].n (siteP r.things vl[k]) wx (C4.call hx) (I4.call hx) k1 m1
        rw [e0, if_pos rfl, eK] at this
        exact this
      clear eK
      refine wp_region_z (S := (fun wx => (wx.cell? ⟨w.heap.size, 0, none⟩ = some (.int .i64 V) ∧ wx.cell? ⟨w.heap.size, 1, none⟩ = some (.int .i64 F) ∧ wx.cell? ⟨w.heap.size, 2, none⟩ = some (.slice s c.length cap)) ∧ (wx.cell? ⟨b1, o1 + k * 7, none⟩ = some (.bool L[k].n) ∧ wx.cell? ⟨b1, o1 + k * 7 + 1, none⟩ = some (.bool L[k].sp.n) ∧ wx.cell? ⟨b1, o1 + k * 7 + 2, none⟩ = some (.int .i64 L[k].sp.lo) ∧ wx.cell? ⟨b1, o1 + k * 7 + 3, none⟩ = some (.int .i64 L[k].sp.hi) ∧ wx.cell? ⟨b1, o1 + k * 7 + 4, none⟩ = some (.bool L[k].t) ∧ wx.cell? ⟨b1, o1 + k * 7 + 5, none⟩ = some (.bool L[k].f) ∧ wx.cell? ⟨b1, o1 + k * 7 + 6, none⟩ = some (.slice ss1 L[k].s.length g1)) ∧ (wx.cell? ⟨qb, 0, none⟩ = some (.int .i64 vl[k].k) ∧ wx.cell? ⟨qb, 1, none⟩ = some (.int .i64 vl[k].n)))) [] (by kernel_rfl) (HKZ.out _ HD) (fun hHeld => ?_)
      refine tkZ 0 ?_ ?_ ?_
      rotate_left
      · exact rn
      (try simp only [Act.put, List.getElem_toArray, List.getElem_cons_zero, List.getElem_cons_succ, List.setIfInBounds_toArray, List.set_cons_zero, List.set_cons_succ])
      refine tkZ 1 ?_ ?_ ?_
      rotate_left
      · exact rn
      (try simp only [Act.put, List.getElem_toArray, List.getElem_cons_zero, List.getElem_cons_succ, List.setIfInBounds_toArray, List.set_cons_zero, List.set_cons_succ])
      refine tkZ 2 ?_ ?_ ?_
      rotate_left
      · exact rn
      (try simp only [Act.put, List.getElem_toArray, List.getElem_cons_zero, List.getElem_cons_succ, List.setIfInBounds_toArray, List.set_cons_zero, List.set_cons_succ])
      refine tkZ 3 ?_ ?_ ?_
      rotate_left
      · exact rn
      (try simp only [Act.put, List.getElem_toArray, List.getElem_cons_zero, List.getElem_cons_succ, List.setIfInBounds_toArray, List.set_cons_zero, List.set_cons_succ])
      refine tkZ 4 ?_ ?_ ?_
      rotate_left
      · exact rn
      (try simp only [Act.put, List.getElem_toArray, List.getElem_cons_zero, List.getElem_cons_succ, List.setIfInBounds_toArray, List.set_cons_zero, List.set_cons_succ])
      refine tkZ 5 ?_ ?_ ?_
      rotate_left
      · exact rn
      (try simp only [Act.put, List.getElem_toArray, List.getElem_cons_zero, List.getElem_cons_succ, List.setIfInBounds_toArray, List.set_cons_zero, List.set_cons_succ])
      refine tkZ 6 ?_ ?_ ?_
      rotate_left
      · exact rn
      (try simp only [Act.put, List.getElem_toArray, List.getElem_cons_zero, List.getElem_cons_succ, List.setIfInBounds_toArray, List.set_cons_zero, List.set_cons_succ])
      refine tkZ 7 ?_ ?_ ?_
      rotate_left
      · exact rn
      (try simp only [Act.put, List.getElem_toArray, List.getElem_cons_zero, List.getElem_cons_succ, List.setIfInBounds_toArray, List.set_cons_zero, List.set_cons_succ])
      refine wpAnyZ_one (i := 8) rfl (by kernel_rfl) (fun K hK => ?_)
      go_simp
      go_at_call 120
      refine (siteOfP_any vl[k] ts r.things tc _ (T4.call HD) hOk).mono ?_
      rintro e w5 ⟨rfl, hb5⟩
      have HB5 : Below w4.heap.size w4 w5 := HD.trans (hb5.mono HD.size)
      go_wp2_with fail
      refine hK.out _ _ (HKZ.out _ HB5) (fun hHeld => ?_)
      clear hK K
      (try simp only [Act.put, List.getElem_toArray, List.getElem_cons_zero, List.getElem_cons_succ, List.setIfInBounds_toArray, List.set_cons_zero, List.set_cons_succ])
      refine wpAnyZ_one (i := 9) rfl (by kernel_rfl) (fun K hK => ?_)
      go_simp
      go_at_call 10
      refine (HHU.out _ HB5).mono ?_
      rintro e w6 ⟨rfl, hb6⟩
      have HB6 : Below w4.heap.size w4 w6 := HB5.trans (hb6.mono HB5.size)
      go_wp2_with fail
      refine hK.out _ _ (HKZ.out _ HB6) (fun hHeld => ?_)
      clear hK K
      (try simp only [Act.put, List.getElem_toArray, List.getElem_cons_zero, List.getElem_cons_succ, List.setIfInBounds_toArray, List.set_cons_zero, List.set_cons_succ])
      refine tkZ 10 ?_ ?_ ?_
      rotate_left
      · exact rn
      (try simp only [Act.put, List.getElem_toArray, List.getElem_cons_zero, List.getElem_cons_succ, List.setIfInBounds_toArray, List.set_cons_zero, List.set_cons_succ])
      refine tkZ 11 ?_ ?_ ?_
      rotate_left
      · exact rn
      (try simp only [Act.put, List.getElem_toArray, List.getElem_cons_zero, List.getElem_cons_succ, List.setIfInBounds_toArray, List.set_cons_zero, List.set_cons_succ])
      refine tkZ 12 ?_ ?_ ?_
      rotate_left
      · exact rn
      (try simp only [Act.put, List.getElem_toArray, List.getElem_cons_zero, List.getElem_cons_succ, List.setIfInBounds_toArray, List.set_cons_zero, List.set_cons_succ])
      refine tkZ 13 ?_ ?_ ?_
      rotate_left
      · exact rn
      (try simp only [Act.put, List.getElem_toArray, List.getElem_cons_zero, List.getElem_cons_succ, List.setIfInBounds_toArray, List.set_cons_zero, List.set_cons_succ])
      refine tkZ 14 ?_ ?_ ?_
      rotate_left
      · exact rn
      (try simp only [Act.put, List.getElem_toArray, List.getElem_cons_zero, List.getElem_cons_succ, List.setIfInBounds_toArray, List.set_cons_zero, List.set_cons_succ])
      refine wpAnyZ_done (by kernel_rfl) ?_ _
      have hb35 := hb34.trans (HB6.mono hb34.size)
      rcases (show heldV r L[k] vl[k] = false ∨ heldV r L[k] vl[k] = true by cases heldV r L[k] vl[k] <;> simp) with hs | hs <;> have HSG := hideH hs <;> rw [hs] <;> clear hs
      · go_wp2
        go_ret
        refine ⟨?_, B0.trans (hb35.mono B0.size)⟩
        rw [HK.out, HS.out, HSG.out]
        rfl
      · go_wp2
        go_roundw
        case rel => exact ⟨k + 1, by omega, by go_num, hb35, by show _ = _; rw [HK.out, HS.out, HSG.out]; rfl⟩
        case measure => simp [intOf]; omega
    · have n1 : ¬ (k : Int) < (vl.length : Int) := by omega
      go_wp2
      go_ret
      refine ⟨?_, LR⟩
      rw [HK.out, List.drop_eq_nil_of_le (show vl.length ≤ k by omega)]
      simp [showsRow]
end Go.Proofs.YtmapdpcfanecdaaGreat
