/- Walks over package code: the kind whose line it is. -/
import Derived.Test.YtmapdpcfanecdaaDoorKlawrsp14
import Derived.Test.YtmapdpcfanecdaaDoorKlawrsp15
import Derived.Test.YtmapdpcfanecdaaDoorKlawrsp16
import Derived.Test.YtmapdpcfanecdaaDoorKlawrsp17
import Derived.Test.YtmapdpcfanecdaaDoorKlawrsp13
import Derived.Test.YtmapdpcfanecdaaDoorKlawrsp04
import Derived.Deep.RegionHeld3
import Derived.Test.YtmapdpcfanecdaaDoorKlawrsp03
import Derived.Deep.AppendLies
import Derived.Test.YtmapdpcfanecdaaDoorKlawrsp08
namespace Go.Proofs.YtmapdpcfanecdaaDoor
set_option linter.unusedVariables false
set_option linter.unusedSimpArgs false
open Go.RowKit

theorem printInstr_any (N : Nat) (i : Ins) (w : World) (hs : ShpAt N shps w) (ht : Tab w) (h : btw i.k 1 19 = true) (hf : i.Fits) :
    Calls Tryd.prog 32 #[.map (some N), .agg #[.int .i64 i.k, .int .i64 i.to, .int .i64 i.a, .int .i64 i.b, .int .i64 i.n, .int .i64 i.g]] w fun e w' => e = .returned (.string (lineB i ++ ⟨#[10]⟩)) ∧ Below w.heap.size w w' := by
  obtain ⟨k, tt, a, b, n, g⟩ := i
  obtain ⟨htt, ha, hb, hn, hg⟩ := hf
  simp only at h htt ha hb hn hg
  rcases btw_cases h with rfl | rfl | rfl | rfl | rfl | rfl | rfl | rfl | rfl | rfl | rfl | rfl | rfl | rfl | rfl | rfl | rfl | rfl | rfl
  · exact printInstr_1 N tt a b n g w hs ht htt hn
  · exact printInstr_2 N tt a b n g w hs ht htt hn
  · exact printInstr_3 N tt a b n g w hs ht htt
  · exact printInstr_4 N tt a b n g w hs ht htt ha
  · exact printInstr_5 N tt a b n g w hs ht htt ha hb
  · exact printInstr_6 N tt a b n g w hs ht htt ha hb
  · exact printInstr_7 N tt a b n g w hs ht htt ha hb
  · exact printInstr_8 N tt a b n g w hs ht htt ha hb
  · exact printInstr_9 N tt a b n g w hs ht htt ha hb
  · exact printInstr_10 N tt a b n g w hs ht htt ha
  · exact printInstr_11 N tt a b n g w hs ht htt
  · exact printInstr_12 N tt a b n g w hs ht htt ha hn
  · exact printInstr_13 N tt a b n g w hs ht ha hb hn
  · exact printInstr_14 N tt a b n g w hs ht htt hn
  · exact printInstr_15 N tt a b n g w hs ht ha hg
  · exact printInstr_16 N tt a b n g w hs ht hg
  · exact printInstr_17 N tt a b n g w hs ht ha
  · exact printInstr_18 N tt a b n g w hs ht ha
  · exact printInstr_19 N tt a b n g w hs ht

theorem head_join (V F : Int) : joinB [⟨#[118, 97, 114, 115]⟩, itoaB V, ⟨#[102, 105, 101, 108, 100, 115]⟩, itoaB F] ++ ⟨#[10]⟩ = headB V F := by
  rw [joinB_cons]
  apply ByteArray.ext
  simp [headB]

set_option maxHeartbeats 2000000 in
set_option maxRecDepth 20000 in
theorem printHead_any (V F : Int) (s : Option Addr) (len cap : Nat) (w : World) (hV : fits V) (hF : fits F) (ht : Tab w) :
    Calls Tryd.prog 31 #[.agg #[.int .i64 V, .int .i64 F, .slice s len cap]] w fun e w' => e = .returned (.string (headB V F)) ∧ Below w.heap.size w w' := by
  have hb0 : Below w.heap.size w (w.alloc (.cells #[.int .i64 V, .int .i64 F, .slice s len cap] 24)) := by go_grown
  have hres : Hid (joinB [⟨#[118, 97, 114, 115]⟩, itoaB V, ⟨#[102, 105, 101, 108, 100, 115]⟩, itoaB F] ++ ⟨#[10]⟩ = headB V F) := head_join V F
  have hsz : Hid ((joinB [⟨#[118, 97, 114, 115]⟩, itoaB V, ⟨#[102, 105, 101, 108, 100, 115]⟩, itoaB F]).size ≤ 1000) := by
    show _ ≤ _
    have s1 : (⟨#[118, 97, 114, 115]⟩ : ByteArray).size = 4 := rfl
    have s2 : (⟨#[102, 105, 101, 108, 100, 115]⟩ : ByteArray).size = 6 := rfl
    have l1 := itoaB_size V hV
    have l2 := itoaB_size F hF
    simp only [joinB_size, joinSize, s1, s2, List.map_cons, List.map_nil, List.sum_cons, List.sum_nil]
    omega
  have K : ∀ wx, Below (w.heap.size + 1) (w.alloc (.cells #[.int .i64 V, .int .i64 F, .slice s len cap] 24)) wx → wx.cell? ⟨w.heap.size, 0, none⟩ = some (.int .i64 V) ∧ wx.cell? ⟨w.heap.size, 1, none⟩ = some (.int .i64 F) := by
    intro wx hb
    rw [hb.cell (by simp), hb.cell (by simp)]
    simp [go_sem]
  go_enter Tryd.func31, Tryd.ntmps31
  go_wp2
  go_region_held3 (fun w' => w'.cell? ⟨w.heap.size, 0, none⟩ = some (.int .i64 V) ∧ w'.cell? ⟨w.heap.size, 1, none⟩ = some (.int .i64 F))
    (first | exact K _ (Below.refl _ _).drew | exact K _ HB3 | exact K _ HB2' | exact K _ HB2 | exact K _ HB1)
    (first
      | (go_at_call 62; refine (itoa_any V _ hV ?tb).mono ?_; (case tb => exact ht.below hb0.drew); rintro e u1 ⟨rfl, hu1⟩; have HB1 : Below (w.heap.size + 1) (w.alloc (.cells #[.int .i64 V, .int .i64 F, .slice s len cap] 24)) u1 := (Below.refl _ _).drew.trans (Below.mono hu1 (by simp)))
      | (go_at_call 62; refine (itoa_any F _ hF ?tb).mono ?_; (case tb => exact ht.below (hb0.trans (HB1.mono (by omega)))); rintro e u2 ⟨rfl, hu2⟩; have HB2 : Below (w.heap.size + 1) (w.alloc (.cells #[.int .i64 V, .int .i64 F, .slice s len cap] 24)) u2 := HB1.trans (hu2.mono (by have := HB1.size; simp at this; omega)); have HB2' := Below.alloc HB2 (by have := HB2.size; simp at this; omega) (.cells #[.string ⟨#[118, 97, 114, 115]⟩, .string (itoaB V), .string ⟨#[102, 105, 101, 108, 100, 115]⟩, .string (itoaB F)] 9))
      | (go_at_call 61; refine (printLine_own (w.heap.size + 1) _ [⟨#[118, 97, 114, 115]⟩, itoaB V, ⟨#[102, 105, 101, 108, 100, 115]⟩, itoaB F] _ ?ow (by simp) (by simp) hsz.out).mono ?_; (case ow => exact (World.ownsRow_lit (base := w.heap.size + 1) (e := 9) (size := 1) u2 #[.string ⟨#[118, 97, 114, 115]⟩, .string (itoaB V), .string ⟨#[102, 105, 101, 108, 100, 115]⟩, .string (itoaB F)] 4 (by have := HB2.size; simp at this; omega) (by decide) rfl)); rintro e u3 ⟨rfl, hu3⟩; have HB3 : Below (w.heap.size + 1) (w.alloc (.cells #[.int .i64 V, .int .i64 F, .slice s len cap] 24)) u3 := HB2'.trans (hu3.mono (by have := HB2'.size; simp at this; simp; omega))))
  go_wp2
  go_ret
  exact ⟨ret_str hres.out, hb0.trans (HB3.mono (by omega))⟩
end Go.Proofs.YtmapdpcfanecdaaDoor

namespace Go.Proofs.YtmapdpcfanecdaaDoor
set_option linter.unusedVariables false
set_option linter.unusedSimpArgs false
open Go.RowKit

/-- Does an instruction lead to that place? -/
def leads (at_ : Nat) (i : Ins) : Bool := nG i.k && decide (i.g = (at_ : Int))
/-- Is a place the head of a loop? -/
def isHead (c : List Ins) (at_ : Nat) : Bool := (c.drop at_).any (leads at_)
/-- The heads ahead of place k. -/
def headsTo (c : List Ins) (k : Nat) : List Int := ((List.range k).filter (isHead c)).map fun n : Nat => (n : Int)

theorem headsTo_succ (c : List Ins) (k : Nat) : headsTo c (k + 1) = headsTo c k ++ (if isHead c k then [(k : Int)] else []) := by
  unfold headsTo
  rw [List.range_succ, List.filter_append, List.map_append]
  congr 1
  by_cases h : isHead c k = true
  · simp [h]
  · simp [h]

theorem headsTo_length (c : List Ins) (k : Nat) : (headsTo c k).length ≤ k := by
  unfold headsTo
  rw [List.length_map]
  exact Nat.le_trans (List.length_filter_le _ _) (by simp)

theorem any_take_succ (c : List Ins) (at_ t : Nat) (h : at_ + t < c.length) : ((c.drop at_).take (t + 1)).any (leads at_) = (((c.drop at_).take t).any (leads at_) || leads at_ c[at_ + t]) := by
  rw [List.take_succ_eq_append_getElem (by simp; omega), List.any_append]
  simp

theorem Tryd.info_int : (Tryd.prog.info? 3).map (fun i => (i.zero, i.size, i.bytes)) = some (some (.int .i64 0), 1, 8) := by kernel_rfl

theorem ownsRow_low {w : World} {B : Nat} {e : TypeId} {z : Nat} {v : Value} {n : Nat} {xs : List Value} (h : w.ownsRow B e z v n xs) {k : Nat} (hk : v.ownBlock = some k) : B ≤ k := by
  rcases h.2 with ⟨rfl, _⟩ | ⟨g, cap, cur, rfl, hb, hg, _⟩
  · cases hk
  · cases hk
    exact hb

set_option maxHeartbeats 2000000 in
set_option maxRecDepth 10000 in
theorem headsOf_loop (V F : Int) (b off cap : Nat) (c : List Ins) (w : World) (hL : c.length ≤ 60) (hb : b < w.heap.size) (hc : ∀ k (h : k < c.length), InsAt w b (off + k * 6) c[k]) :
    Calls Tryd.prog 12 #[.agg #[.int .i64 V, .int .i64 F, .slice (some ⟨b, off, none⟩) c.length cap]] w fun e w' => ∃ v, e = .returned v ∧ w'.ownsRow w.heap.size 3 1 v (headsTo c c.length).length ((headsTo c c.length).map (.int .i64)) ∧ Below w.heap.size w w' := by
  obtain ⟨ti, hi, hz0, hz1, hz2⟩ := info_parts Tryd.info_int
  go_enter Tryd.func12, Tryd.ntmps12
  go_wp2
  go_loopw [3, 4] (fun o i wr => ∃ k : Nat, k ≤ c.length ∧ i = .int .i64 k ∧ wr.ownsRow (w.heap.size + 1) 3 1 o (headsTo c k).length ((headsTo c k).map (.int .i64)) ∧ Below (w.heap.size + 1) (w.alloc (.cells #[.int .i64 V, .int .i64 F, .slice (some ⟨b, off, none⟩) c.length cap] 24)) wr) (fun _ i _ => c.length - (intOf i).toNat)
  case atStart => exact ⟨0, Nat.zero_le _, rfl, ⟨by simp [headsTo], .inl ⟨rfl, by simp [headsTo]⟩⟩, Below.refl _ _⟩
  case round =>
    obtain ⟨k, hk, rfl, hown, hbr⟩ := hrel
    have q2 : wr.cell? ⟨w.heap.size, 2, none⟩ = some (.slice (some ⟨b, off, none⟩) c.length cap) := by rw [hbr.cell (by simp)]; simp [go_sem]
    have s1 : w.heap.size + 1 ≤ wr.heap.size := by have := hbr.size; simp at this; omega
    by_cases hlt : k < c.length
    · have hci : ∀ j (h : j < c.length), InsAt wr b (off + j * 6) c[j] := fun j h => ((hc j h).below (Below.alloc (Below.refl w.heap.size w) (Nat.le_refl _) _) hb).below hbr (by omega)
      have n0 : (0 : Int) ≤ (k : Int) := by omega
      have n1 : (k : Int) < (c.length : Int) := by omega
      go_wp2
      go_loop [5, 6] (fun s i => ∃ t : Nat, k + t ≤ c.length ∧ i = .int .i64 ((k + t : Nat) : Int) ∧ s = .bool (((c.drop k).take t).any (leads k))) (fun _ i => c.length - (intOf i).toNat)
      case atStart => exact ⟨0, by omega, rfl, rfl⟩
      case round =>
        obtain ⟨t, ht, rfl, rfl⟩ := hrel
        by_cases hj : k + t < c.length
        · obtain ⟨i0, _, _, _, _, i5⟩ := hci (k + t) hj
          have HA : Hid (((c.drop k).take (t + 1)).any (leads k) = (((c.drop k).take t).any (leads k) || (nG c[k + t].k && decide (c[k + t].g = (k : Int))))) := any_take_succ c k t hj
          have m0 : (0 : Int) ≤ ((k + t : Nat) : Int) := by omega
          have m1 : ((k + t : Nat) : Int) < (c.length : Int) := by omega
          cases hA : ((c.drop k).take t).any (leads k) with
          | true =>
            go_wp2
            go_round
            case rel => exact ⟨t + 1, by omega, by go_num, by rw [HA.out, hA]; rfl⟩
            case measure => simp [intOf]; omega
          | false =>
            cases hG : nG c[k + t].k with
            | false =>
              go_wp2_with (go_at_call 40; refine (namesGoto_any _ _).mono ?_; rintro e w' ⟨rfl, rfl⟩)
              go_round
              case rel => exact ⟨t + 1, by omega, by go_num, by rw [HA.out, hA, hG]; rfl⟩
              case measure => simp [intOf]; omega
            | true =>
              go_wp2_with (go_at_call 40; refine (namesGoto_any _ _).mono ?_; rintro e w' ⟨rfl, rfl⟩)
              go_round
              case rel => exact ⟨t + 1, by omega, by go_num, by rw [HA.out, hA, hG]; rfl⟩
              case measure => simp [intOf]; omega
        · have hH : Hid (((c.drop k).take t).any (leads k) = isHead c k) := by
            show _ = _
            unfold isHead
            rw [List.take_of_length_le (by simp; omega)]
          rw [hH.out]
          have HS := headsTo_succ c k
          cases hh : isHead c k with
          | false =>
            rw [hh] at HS
            simp only [Bool.false_eq_true, if_false, List.append_nil] at HS
            have HS' : Hid (headsTo c (k + 1) = headsTo c k) := HS
            clear HS
            go_wp2
            go_roundw
            case rel => exact ⟨k + 1, by omega, by go_num, by rw [HS'.out]; exact hown, hbr⟩
            case measure => simp [intOf]; omega
          | true =>
            rw [hh] at HS
            simp only [if_true] at HS
            have HS' : Hid (headsTo c (k + 1) = headsTo c k ++ [(k : Int)]) := HS
            have hln := headsTo_length c k
            clear HS
            go_wp2_with (at_builtin; refine wpList_append_own _ rfl _ _ 28 rfl (w.heap.size + 1) 3 ti (.int .i64 0) 1 8 Tryd.underlying28 hi hz0 hz1 hz2 rfl (by decide) _ _ _ rfl (hown.alloc _) ⟨wr.heap.size, 0, none⟩ 1 1 [.int .i64 (k : Int)] rfl rfl (cell_one_new _ _ _) (fun x hx => by simp at hx; subst hx; rfl) (by unfold maxLen; omega) (by omega) (by simp; omega) ?_; intro v' w3 hown' hgrow3 hnil3)
            go_roundw
            case rel => exact ⟨k + 1, by omega, by go_num, by rw [HS'.out, List.map_append, List.length_append]; exact hown', (hbr.alloc s1 _).grown hgrow3 (by simp; omega) (fun j hj => ownsRow_low hown hj)⟩
            case measure => simp [intOf]; omega
    · go_wp2
      go_ret
      have hk' : k = c.length := by omega
      subst hk'
      refine ⟨_, rfl, ?_, (Below.alloc (Below.refl _ _) (Nat.le_refl _) _).trans (hbr.mono (by omega))⟩
      obtain ⟨h1, h2⟩ := hown
      exact ⟨h1, h2.imp id fun ⟨g, cap, cur, r1, r2, r3⟩ => ⟨g, cap, cur, r1, by omega, r3⟩⟩

set_option maxHeartbeats 1000000 in
theorem headsOf_nil (V F : Int) (s : Option Addr) (cap : Nat) (w : World) :
    Calls Tryd.prog 12 #[.agg #[.int .i64 V, .int .i64 F, .slice s 0 cap]] w fun e w' => e = .returned (.slice none 0 0) ∧ Below w.heap.size w w' := by
  go_enter Tryd.func12, Tryd.ntmps12
  go_wp2
  go_rounds 1
  go_ret
  exact ⟨rfl, by go_grown⟩

/-- The document's heads of a program that is right. -/
theorem headsOf_any (V F : Int) (s : Option Addr) (cap : Nat) (c : List Ins) (w : World) (hL : c.length ≤ 60) (h : CodeAt w s c) :
    Calls Tryd.prog 12 #[.agg #[.int .i64 V, .int .i64 F, .slice s c.length cap]] w fun e w' => ∃ v, e = .returned v ∧ w'.ownsRow w.heap.size 3 1 v (headsTo c c.length).length ((headsTo c c.length).map (.int .i64)) ∧ Below w.heap.size w w' := by
  rcases h with rfl | ⟨b, off, rfl, hb, hc⟩
  · exact (headsOf_nil V F s cap w).mono fun e w' ⟨he, hb⟩ => ⟨_, he, ⟨rfl, .inl ⟨rfl, rfl⟩⟩, hb⟩
  · exact headsOf_loop V F b off cap c w hL hb hc
end Go.Proofs.YtmapdpcfanecdaaDoor

namespace Go.Proofs.YtmapdpcfanecdaaDoor
set_option linter.unusedVariables false
set_option linter.unusedSimpArgs false
open Go.RowKit

set_option maxHeartbeats 1000000 in
theorem back_any (i : Ins) (at_ p : Nat) (w : World) (hp : p < w.heap.size) (hc : w.cell? ⟨p, 0, none⟩ = some (.int .i64 at_)) :
    Calls Tryd.prog 34 #[.agg #[.int .i64 i.k, .int .i64 i.to, .int .i64 i.a, .int .i64 i.b, .int .i64 i.n, .int .i64 i.g], .pointer (some ⟨p, 0, none⟩)] w fun e w' => e = .returned (.bool (leads at_ i)) ∧ Below w.heap.size w w' := by
  obtain ⟨k, d0, a, b, n, g⟩ := i
  by_cases h15 : k = 15
  · subst h15
    go_enter Tryd.func34, Tryd.ntmps34
    go_wp2
    go_ret
    exact ⟨ret_bool (by simp [leads, nG]; rfl), by go_grown⟩
  by_cases h16 : k = 16
  · subst h16
    go_enter Tryd.func34, Tryd.ntmps34
    go_wp2
    go_ret
    exact ⟨ret_bool (by simp [leads, nG]; rfl), by go_grown⟩
  · have e15 : (k == 15) = false := by simpa using h15
    have e16 : (k == 16) = false := by simpa using h16
    go_enter Tryd.func34, Tryd.ntmps34
    go_wp2
    go_ret
    exact ⟨ret_bool (by simp [leads, nG, h15, h16]), by go_grown⟩

theorem any_drop_step (l : List Ins) (p : Ins → Bool) (k : Nat) (h : k < l.length) : (l.drop k).any p = (p l[k] || (l.drop (k + 1)).any p) := by
  rw [List.drop_eq_getElem_cons h]; rfl

set_option maxHeartbeats 1000000 in
theorem indexFunc_heads (b off cap at_ p : Nat) (l : List Ins) (w : World) (h63 : l.length ≤ 60) (hb : b < w.heap.size) (hp : p < w.heap.size) (hcp : w.cell? ⟨p, 0, none⟩ = some (.int .i64 at_)) (hc : ∀ k (h : k < l.length), InsAt w b (off + k * 6) l[k]) :
    Calls Tryd.prog 64 #[.slice (some ⟨b, off, none⟩) l.length cap, .func (.func 34) #[] #[.pointer (some ⟨p, 0, none⟩)]] w fun e w' => ∃ n : Int, e = .returned (.int .i64 n) ∧ decide (0 ≤ n) = l.any (leads at_) ∧ Below w.heap.size w w' := by
  go_enter Tryd.func64, Tryd.ntmps64
  go_wp2
  go_loopw [8] (fun i wr => ∃ k : Nat, k ≤ l.length ∧ i = .int .i64 k ∧ Below w.heap.size w wr ∧ Hid (l.any (leads at_) = (l.drop k).any (leads at_))) (fun i _ => l.length - (intOf i).toNat)
  case atStart => exact ⟨0, Nat.zero_le _, rfl, Below.refl _ _, rfl⟩
  case round =>
    obtain ⟨k, hk, rfl, hbr, HA⟩ := hrel
    by_cases hlt : k < l.length
    · have n0 : (0 : Int) ≤ (k : Int) := by omega
      have n1 : (k : Int) < (l.length : Int) := by omega
      have s0 := hbr.size
      obtain ⟨i0, i1, i2, i3, i4, i5⟩ : InsAt wr b (off + k * 6) l[k] := (hc k hlt).below hbr hb
      have hcr : wr.cell? ⟨p, 0, none⟩ = some (.int .i64 at_) := by rw [hbr.cell hp]; exact hcp
      have HN := any_drop_step l (leads at_) k hlt
      cases hl : leads at_ l[k] with
      | true =>
        have HT : Hid (l.any (leads at_) = true) := by show _ = _; rw [HA.out, HN, hl]; rfl
        clear HN HA hc hcp
        go_wp2_with (go_at_call 34; refine (back_any l[k] at_ p _ (by omega) hcr).mono ?_; rintro e w1 ⟨rfl, hb1⟩)
        go_ret
        exact ⟨_, rfl, by rw [HT.out]; simp, hbr.trans (hb1.mono s0)⟩
      | false =>
        have HT : Hid (l.any (leads at_) = (l.drop (k + 1)).any (leads at_)) := by show _ = _; rw [HA.out, HN, hl]; rfl
        clear HN HA hc hcp
        go_wp2_with (go_at_call 34; refine (back_any l[k] at_ p _ (by omega) hcr).mono ?_; rintro e w1 ⟨rfl, hb1⟩)
        go_roundw
        case rel => exact ⟨k + 1, by omega, by go_num, hbr.trans (hb1.mono s0), HT⟩
        case measure => simp [intOf]; omega
    · go_wp2
      go_ret
      exact ⟨_, rfl, by rw [HA.out, List.drop_eq_nil_of_le (by omega)]; rfl, hbr⟩

set_option maxHeartbeats 1000000 in
theorem containsFunc_heads (b off len cap at_ p : Nat) (l : List Ins) (w : World) (hlen : l.length = len) (h63 : l.length ≤ 60) (hb : b < w.heap.size) (hp : p < w.heap.size) (hcp : w.cell? ⟨p, 0, none⟩ = some (.int .i64 at_)) (hc : ∀ k (h : k < l.length), InsAt w b (off + k * 6) l[k]) :
    Calls Tryd.prog 35 #[.slice (some ⟨b, off, none⟩) len cap, .func (.func 34) #[] #[.pointer (some ⟨p, 0, none⟩)]] w fun e w' => e = .returned (.bool (l.any (leads at_))) ∧ Below w.heap.size w w' := by
  subst hlen
  go_enter Tryd.func35, Tryd.ntmps35
  go_wp2_with (go_at_call 64; refine (indexFunc_heads b off cap at_ p l _ h63 hb hp hcp hc).mono ?_; rintro e w1 ⟨n, rfl, hn, hb1⟩)
  go_ret
  exact ⟨rfl, hb1⟩

set_option maxHeartbeats 1000000 in
theorem heads_loop (V F : Int) (b off cap : Nat) (c : List Ins) (w : World) (h0 : ckProg V F c = 0) (hL : c.length ≤ 60) (hcap : c.length ≤ cap) (hb : b < w.heap.size) (hc : ∀ k (h : k < c.length), InsAt w b (off + k * 6) c[k]) :
    Calls Tryd.prog 9 #[.agg #[.int .i64 V, .int .i64 F, .slice (some ⟨b, off, none⟩) c.length cap]] w fun e w' => ∃ v, e = .returned (.tuple #[v, .int .i64 0]) ∧ w'.ownsRow w.heap.size 3 1 v (headsTo c c.length).length ((headsTo c c.length).map (.int .i64)) ∧ Below w.heap.size w w' := by
  have hcode : CodeAt w (some ⟨b, off, none⟩) c := .inr ⟨b, off, rfl, hb, hc⟩
  obtain ⟨ti, hi, hz0, hz1, hz2⟩ := info_parts Tryd.info_int
  have hbox : Below w.heap.size w (w.alloc (.cells #[.int .i64 V, .int .i64 F, .slice (some ⟨b, off, none⟩) c.length cap] 24)) := by go_grown
  go_enter Tryd.func9, Tryd.ntmps9
  go_wp2_with (go_at_call 14; refine (codeCheck_any V F _ _ c _ (hcode.below hbox (Nat.le_refl _))).mono ?_; rintro e w1 ⟨rfl, hb1⟩; have q2 : w1.cell? ⟨w.heap.size, 2, none⟩ = some (.slice (some ⟨b, off, none⟩) c.length cap) := (by rw [hb1.cell (by simp)]; simp [go_sem]))
  go_loopw [5, 16] (fun o i wr => ∃ k : Nat, k ≤ c.length ∧ i = .int .i64 k ∧ wr.ownsRow (w.heap.size + 1) 3 1 o (headsTo c k).length ((headsTo c k).map (.int .i64)) ∧ Below (w.heap.size + 1) (w.alloc (.cells #[.int .i64 V, .int .i64 F, .slice (some ⟨b, off, none⟩) c.length cap] 24)) wr) (fun _ i _ => c.length - (intOf i).toNat)
  case atStart => exact ⟨0, Nat.zero_le _, rfl, ⟨by simp [headsTo], .inl ⟨rfl, by simp [headsTo]⟩⟩, hb1.mono (by simp)⟩
  case round =>
    obtain ⟨k, hk, rfl, hown, hbr⟩ := hrel
    have q3 : wr.cell? ⟨w.heap.size, 2, none⟩ = some (.slice (some ⟨b, off, none⟩) c.length cap) := by rw [hbr.cell (by simp)]; simp [go_sem]
    have s1 : w.heap.size + 1 ≤ wr.heap.size := by have := hbr.size; simp at this; omega
    by_cases hlt : k < c.length
    · have n0 : (0 : Int) ≤ (k : Int) := by omega
      have n1 : (k : Int) < (c.length : Int) := by omega
      have n2 : (k : Int) ≤ (c.length : Int) := by omega
      have s2 : w.heap.size < wr.heap.size := by omega
      have n3 : (k : Int) < (cap : Int) := by omega
      have n4 : k < cap := by omega
      have hbe : Below w.heap.size w wr := hbox.trans (hbr.mono (by omega))
      have hba : Below wr.heap.size wr (wr.alloc (.cells #[.int .i64 (k : Int)] 3)) := by go_grown
      have hci : ∀ j (h : j < (c.drop k).length), InsAt (wr.alloc (.cells #[.int .i64 (k : Int)] 3)) b (off + k * 6 + j * 6) (c.drop k)[j] := by
        intro j h
        have hj : k + j < c.length := by simp at h; omega
        have := ((hc (k + j) hj).below hbe hb).below hba (by omega)
        rw [show off + k * 6 + j * 6 = off + (k + j) * 6 by omega]
        simpa using this
      have hlen : (c.drop k).length = c.length - k := by simp
      have HS := headsTo_succ c k
      have hcell : (wr.alloc (.cells #[.int .i64 (k : Int)] 3)).cell? ⟨wr.heap.size, 0, none⟩ = some (.int .i64 (k : Int)) := by simp [go_sem]
      cases hh : isHead c k with
      | false =>
        have hh' : (c.drop k).any (leads k) = false := hh
        rw [hh] at HS
        simp only [Bool.false_eq_true, if_false, List.append_nil] at HS
        have HS' : Hid (headsTo c (k + 1) = headsTo c k) := HS
        clear HS hc
        go_wp2_with (go_at_call 35; refine (containsFunc_heads b (off + k * 6) (c.length - k) (cap - k) k wr.heap.size (c.drop k) _ hlen (by omega) (by simp; omega) (by simp) hcell hci).mono ?_; rintro e w2 ⟨rfl, hb2⟩)
        go_roundw
        case rel => exact ⟨k + 1, by omega, by go_num, by rw [HS'.out]; exact ownsRow_of_block hown (fun j hj => by rw [hb2.block j (by have := (ownsRow_block_lt hown hj).1; simp; omega), hba.block j (ownsRow_block_lt hown hj).1]), (hbr.alloc s1 _).trans (hb2.mono (by simp; omega))⟩
        case measure => simp [intOf]; omega
      | true =>
        have hh' : (c.drop k).any (leads k) = true := hh
        rw [hh] at HS
        simp only [if_true] at HS
        have HS' : Hid (headsTo c (k + 1) = headsTo c k ++ [(k : Int)]) := HS
        have hln := headsTo_length c k
        clear HS hc
        go_wp2_with (first
          | (go_at_call 35; refine (containsFunc_heads b (off + k * 6) (c.length - k) (cap - k) k wr.heap.size (c.drop k) _ hlen (by omega) (by simp; omega) (by simp) hcell hci).mono ?_; rintro e w2 ⟨rfl, hb2⟩; have hs2 : wr.heap.size < w2.heap.size := (by have := hb2.size; simp at this; omega); have hc2 : w2.cell? ⟨wr.heap.size, 0, none⟩ = some (.int .i64 (k : Int)) := (by rw [hb2.cell (by simp)]; exact hcell); have hown2 : w2.ownsRow (w.heap.size + 1) 3 1 _ (headsTo c k).length ((headsTo c k).map (.int .i64)) := (ownsRow_of_block hown (fun j hj => by rw [hb2.block j (by have := (ownsRow_block_lt hown hj).1; simp; omega), hba.block j (ownsRow_block_lt hown hj).1])))
          | (at_builtin; refine wpList_append_own _ rfl _ _ 28 rfl (w.heap.size + 1) 3 ti (.int .i64 0) 1 8 Tryd.underlying28 hi hz0 hz1 hz2 rfl (by decide) _ _ _ rfl (hown2.alloc _) ⟨w2.heap.size, 0, none⟩ 1 1 [.int .i64 (k : Int)] rfl rfl (cell_one_new _ _ _) (fun x hx => by simp at hx; subst hx; rfl) (by unfold maxLen; omega) (by omega) (by simp; omega) ?_; intro v' w3 hown' hgrow3 hnil3))
        go_roundw
        case rel => exact ⟨k + 1, by omega, by go_num, by rw [HS'.out, List.map_append, List.length_append]; exact hown', (((hbr.alloc s1 _).trans (hb2.mono (by simp; omega))).alloc (by omega) _).grown hgrow3 (by simp; omega) (fun j hj => ownsRow_low hown hj)⟩
        case measure => simp [intOf]; omega
    · go_wp2
      go_ret2
      have hk' : k = c.length := by omega
      subst hk'
      refine ⟨_, rfl, ?_, hbox.trans (hbr.mono (by omega))⟩
      obtain ⟨h1, h2⟩ := hown
      exact ⟨h1, h2.imp id fun ⟨g, cap, cur, r1, r2, r3⟩ => ⟨g, cap, cur, r1, by omega, r3⟩⟩

set_option maxHeartbeats 1000000 in
theorem heads_nil (V F : Int) (s : Option Addr) (cap : Nat) (w : World) (h0 : ckProg V F [] = 0) :
    Calls Tryd.prog 9 #[.agg #[.int .i64 V, .int .i64 F, .slice s 0 cap]] w fun e w' => e = .returned (.tuple #[.slice none 0 0, .int .i64 0]) ∧ Below w.heap.size w w' := by
  have hbox : Below w.heap.size w (w.alloc (.cells #[.int .i64 V, .int .i64 F, .slice s 0 cap] 24)) := by go_grown
  go_enter Tryd.func9, Tryd.ntmps9
  go_wp2_with (go_at_call 14; refine (codeCheck_any V F s cap [] _ (.inl rfl)).mono ?_; rintro e w1 ⟨rfl, hb1⟩; have q2 : w1.cell? ⟨w.heap.size, 2, none⟩ = some (.slice s 0 cap) := (by rw [hb1.cell (by simp)]; simp [go_sem]))
  go_rounds 1
  go_ret2
  exact ⟨rfl, hbox.trans (hb1.mono (by simp))⟩

set_option maxHeartbeats 1000000 in
theorem heads_err (V F : Int) (s : Option Addr) (cap : Nat) (c : List Ins) (w : World) (h : CodeAt w s c) (h0 : ckProg V F c ≠ 0) :
    Calls Tryd.prog 9 #[.agg #[.int .i64 V, .int .i64 F, .slice s c.length cap]] w fun e w' => e = .returned (.tuple #[.slice none 0 0, .int .i64 (ckProg V F c)]) ∧ Below w.heap.size w w' := by
  have hbox : Below w.heap.size w (w.alloc (.cells #[.int .i64 V, .int .i64 F, .slice s c.length cap] 24)) := by go_grown
  have hne : (ckProg V F c != 0) = true := by simpa using h0
  go_enter Tryd.func9, Tryd.ntmps9
  go_wp2_with (go_at_call 14; refine (codeCheck_any V F s cap c _ (h.below hbox (Nat.le_refl _))).mono ?_; rintro e w1 ⟨rfl, hb1⟩)
  go_ret2
  exact ⟨rfl, hbox.trans (hb1.mono (by simp))⟩

/-- What heads are told of a program. -/
def headsAll (V F : Int) (c : List Ins) : List Int := if ckProg V F c = 0 then headsTo c c.length else []

theorem ckProg_len {V F : Int} {c : List Ins} (h : ckProg V F c = 0) : c.length ≤ 60 := by
  unfold ckProg at h
  split at h
  · omega
  · split at h
    · omega
    · omega

/-- The program's heads, whatever it is handed. -/
theorem heads_any (V F : Int) (s : Option Addr) (cap : Nat) (c : List Ins) (w : World) (hcap : c.length ≤ cap) (h : CodeAt w s c) :
    Calls Tryd.prog 9 #[.agg #[.int .i64 V, .int .i64 F, .slice s c.length cap]] w fun e w' => ∃ v, e = .returned (.tuple #[v, .int .i64 (ckProg V F c)]) ∧ w'.ownsRow w.heap.size 3 1 v (headsAll V F c).length ((headsAll V F c).map (.int .i64)) ∧ Below w.heap.size w w' := by
  by_cases h0 : ckProg V F c = 0
  · unfold headsAll
    rw [if_pos h0, h0]
    rcases h with rfl | ⟨b, off, rfl, hb, hc⟩
    · exact (heads_nil V F s cap w h0).mono fun e w' ⟨he, hb⟩ => ⟨_, he, ⟨rfl, .inl ⟨rfl, rfl⟩⟩, hb⟩
    · exact heads_loop V F b off cap c w h0 (ckProg_len h0) hcap hb hc
  · unfold headsAll
    rw [if_neg h0]
    exact (heads_err V F s cap c w h h0).mono fun e w' ⟨he, hb⟩ => ⟨_, he, ⟨rfl, .inl ⟨rfl, rfl⟩⟩, hb⟩
end Go.Proofs.YtmapdpcfanecdaaDoor

namespace Go.Proofs.YtmapdpcfanecdaaDoor
set_option linter.unusedVariables false
set_option linter.unusedSimpArgs false
open Go.RowKit

abbrev BuildAt (B b : Nat) (s : ByteArray) (w : World) : Prop := Lib.BuilderAt 65 5 B b (.pointer (some ⟨b, 0, none⟩)) (Lib.strCells s) w

theorem builder_below {B b : Nat} {p : Value} {bs : List Value} {w w' : World} (h : Lib.BuilderAt 65 5 B b p bs w) (hb : Below w.heap.size w w') : Lib.BuilderAt 65 5 B b p bs w' := by
  have hlt := h.lt
  obtain ⟨h1, v, h2, h3, h4⟩ := h
  exact ⟨h1, v, by rw [hb.block b hlt]; exact h2, ownsRow_of_block h3 (fun k hk => hb.block k (ownsRow_block_lt h3 hk).1), h4⟩

theorem strCells_append (a b : ByteArray) : Lib.strCells (a ++ b) = Lib.strCells a ++ Lib.strCells b := by
  simp [Lib.strCells]

theorem ckAll_kinds {V F L : Int} : ∀ {c : List Ins}, ckAll V F L c = 0 → ∀ i ∈ c, btw i.k 1 19 = true := by
  intro c
  induction c with
  | nil => intro _ i hi; cases hi
  | cons x r ih =>
    intro h i hi
    have hx : ckOne V F L x = 0 ∧ ckAll V F L r = 0 := by
      unfold ckAll at h
      split at h
      · exact ⟨by assumption, h⟩
      · exact absurd h (by assumption)
    rcases List.mem_cons.1 hi with rfl | hi
    · have := hx.1
      unfold ckOne at this
      split at this
      · cases this
      · rename_i hne
        cases hb : btw i.k 1 19 with
        | true => rfl
        | false => exact absurd hb hne
    · exact ih hx.2 i hi

theorem ckProg_ok {V F : Int} {c : List Ins} (h : ckProg V F c = 0) : (1 ≤ V ∧ V ≤ 8) ∧ (0 ≤ F ∧ F ≤ 3) ∧ c.length ≤ 60 ∧ (∀ i ∈ c, btw i.k 1 19 = true) ∧ ckAll V F c.length c = 0 := by
  unfold ckProg at h
  split at h
  · cases h
  · rename_i h1
    split at h
    · cases h
    · have h1' : ¬ (btw V 1 8 = false) ∧ ¬ (btw F 0 3 = false) := by simpa using h1
      have hv : btw V 1 8 = true := by simpa using h1'.1
      have hf : btw F 0 3 = true := by simpa using h1'.2
      exact ⟨by simpa [btw] using hv, by simpa [btw] using hf, by omega, ckAll_kinds h, h⟩

set_option maxHeartbeats 1000000 in
set_option maxRecDepth 20000 in
theorem print_loop (V F : Int) (b off cap : Nat) (c : List Ins) (w : World) (h0 : ckProg V F c = 0) (hf : ∀ i ∈ c, i.Fits) (ht : Tab w) (hb : b < w.heap.size) (hc : ∀ k (h : k < c.length), InsAt w b (off + k * 6) c[k]) :
    Calls Tryd.prog 8 #[.agg #[.int .i64 V, .int .i64 F, .slice (some ⟨b, off, none⟩) c.length cap]] w fun e w' => e = .returned (.tuple #[.string (textB V F c), .int .i64 0]) ∧ Below w.heap.size w w' := by
  obtain ⟨hV, hF, hL, hk, _⟩ := ckProg_ok h0
  have fV : fits V := ⟨by omega, by omega⟩
  have fF : fits F := ⟨by omega, by omega⟩
  have hcode : CodeAt w (some ⟨b, off, none⟩) c := .inr ⟨b, off, rfl, hb, hc⟩
  have hbox : Below w.heap.size w (w.alloc (.cells #[.int .i64 V, .int .i64 F, .slice (some ⟨b, off, none⟩) c.length cap] 24)) := by go_grown
  have hhs := headB_size V F fV fF
  go_enter Tryd.func8, Tryd.ntmps8
  go_wp2_with (first
    | (go_at_call 14; refine (codeCheck_any V F _ _ c _ (hcode.below hbox (Nat.le_refl _))).mono ?_; rintro e w1 ⟨rfl, hb1⟩)
    | (go_at_call 29; refine (shapes_any _).mono ?_; rintro e w2 ⟨rfl, hs2, hb2⟩; have HB2 : Below (w.heap.size + 1) (w.alloc (.cells #[.int .i64 V, .int .i64 F, .slice (some ⟨b, off, none⟩) c.length cap] 24)) w2 := (hb1.mono (by simp)).trans (hb2.mono (by have := hb1.size; simp at this; omega)); have HS2 : w.heap.size < w2.heap.size := (by have := HB2.size; simp at this; omega); have q0 : w2.cell? ⟨w.heap.size, 0, none⟩ = some (.int .i64 V) := (by rw [HB2.cell (by simp)]; simp [go_sem]); have q1 : w2.cell? ⟨w.heap.size, 1, none⟩ = some (.int .i64 F) := (by rw [HB2.cell (by simp)]; simp [go_sem]); have q2 : w2.cell? ⟨w.heap.size, 2, none⟩ = some (.slice (some ⟨b, off, none⟩) c.length cap) := (by rw [HB2.cell (by simp)]; simp [go_sem]))
    | (go_at_call 31; refine (printHead_any V F _ _ _ _ fV fF ?tb).mono ?_; (case tb => exact ht.below ((hbox.trans (HB2.mono (by omega))).alloc (by omega) _)); rintro e w3 ⟨rfl, hb3⟩; have fresh : Lib.BuilderAt 65 5 w2.heap.size w2.heap.size (.pointer none) [] w3 := builder_below ⟨Nat.le_refl _, _, (MapKept.heap_alloc w2 _).1, ⟨rfl, .inl ⟨rfl, rfl⟩⟩, (by intro h; cases h)⟩ hb3; have HB3 : Below w2.heap.size w2 w3 := Below.trans (by go_grown) (hb3.mono (by go_size)))
    | (go_at_call 30; refine (writeString_any w2.heap.size w2.heap.size [] (headB V F) _ (.inl fresh) (by simp; omega) HB3.size).mono ?_; rintro e w4 ⟨rfl, ha4, hb4⟩; have HB4 : Below w2.heap.size w2 w4 := HB3.trans hb4; have q2 : w4.cell? ⟨w.heap.size, 2, none⟩ = some (.slice (some ⟨b, off, none⟩) c.length cap) := (by rw [HB4.cell HS2]; exact q2)))
  have HW2 : Below w.heap.size w w2 := hbox.trans (HB2.mono (by omega))
  go_loopw [21] (fun i wr => ∃ k : Nat, k ≤ c.length ∧ i = .int .i64 k ∧ BuildAt w2.heap.size w2.heap.size (textB V F (c.take k)) wr ∧ Below w2.heap.size w2 wr) (fun i _ => c.length - (intOf i).toNat)
  case atStart => exact ⟨0, Nat.zero_le _, rfl, ha4, HB4⟩
  case round =>
    obtain ⟨k, hk', rfl, hbd, hbr⟩ := hrel
    have q3 : wr.cell? ⟨w.heap.size, 2, none⟩ = some (.slice (some ⟨b, off, none⟩) c.length cap) := by rw [hbr.cell HS2, ← HB4.cell HS2]; exact q2
    have s1 := hbr.size
    by_cases hlt : k < c.length
    · obtain ⟨i0, i1, i2, i3, i4, i5⟩ : InsAt wr b (off + k * 6) c[k] := ((hc k hlt).below HW2 hb).below hbr (by omega)
      have n0 : (0 : Int) ≤ (k : Int) := by omega
      have n1 : (k : Int) < (c.length : Int) := by omega
      have hs := lineB_size c[k] (hf _ (List.getElem_mem _))
      have ht' := textB_size V F fV fF (c.take k) (fun i hi => hf i (List.mem_of_mem_take hi))
      have hl : (c.take k).length = k := by simp; omega
      rw [hl] at ht'
      have HT : Hid (textB V F (c.take (k + 1)) = textB V F (c.take k) ++ (lineB c[k] ++ ⟨#[10]⟩)) := textB_snoc V F c k hlt
      have hsz : (Lib.strCells (textB V F (c.take k))).length + (lineB c[k] ++ ⟨#[10]⟩).size ≤ 140737488355328 := by
        have s10 : (⟨#[10]⟩ : ByteArray).size = 1 := rfl
        rw [Lib.strCells_length, ByteArray.size_append, s10]
        omega
      have hkk := hk c[k] (List.getElem_mem hlt)
      have hff := hf c[k] (List.getElem_mem hlt)
      have hba : Below wr.heap.size wr (wr.alloc (.cells #[.int .i64 c[k].k, .int .i64 c[k].to, .int .i64 c[k].a, .int .i64 c[k].b, .int .i64 c[k].n, .int .i64 c[k].g] 71)) := Below.alloc (Below.refl _ _) (Nat.le_refl _) _
      have SH : ShpAt w1.heap.size shps (wr.alloc (.cells #[.int .i64 c[k].k, .int .i64 c[k].to, .int .i64 c[k].a, .int .i64 c[k].b, .int .i64 c[k].n, .int .i64 c[k].g] 71)) := (hs2.below hbr (Nat.le_refl _)).below hba (Nat.le_refl _)
      have TB : Tab (wr.alloc (.cells #[.int .i64 c[k].k, .int .i64 c[k].to, .int .i64 c[k].a, .int .i64 c[k].b, .int .i64 c[k].n, .int .i64 c[k].g] 71)) := (ht.below (HW2.trans (hbr.mono HW2.size))).below hba
      have BA : BuildAt w2.heap.size w2.heap.size (textB V F (c.take k)) (wr.alloc (.cells #[.int .i64 c[k].k, .int .i64 c[k].to, .int .i64 c[k].a, .int .i64 c[k].b, .int .i64 c[k].n, .int .i64 c[k].g] 71)) := builder_below hbd hba
      have HA : Below w2.heap.size w2 (wr.alloc (.cells #[.int .i64 c[k].k, .int .i64 c[k].to, .int .i64 c[k].a, .int .i64 c[k].b, .int .i64 c[k].n, .int .i64 c[k].g] 71)) := hbr.trans (hba.mono s1)
      clear hl ht' q2 q0 q1
      go_wp2_with (first
        | (go_at_call 32; refine (printInstr_any w1.heap.size c[k] _ SH TB hkk hff).mono ?_; rintro e w5 ⟨rfl, hb5⟩; have hbd5 := builder_below BA hb5; have HB5 : Below w2.heap.size w2 w5 := HA.trans (hb5.mono HA.size))
        | (go_at_call 30; fail))
      have hW := writeString_any w2.heap.size w2.heap.size _ (lineB c[k] ++ ⟨#[10]⟩) w5 (.inr hbd5) hsz HB5.size
      refine hW.mono ?_
      rintro e w6 ⟨rfl, ha6, hb6⟩
      go_wp2
      have HBD : BuildAt w2.heap.size w2.heap.size (textB V F (c.take (k + 1))) w6 := by
        rw [HT.out]
        show Lib.BuilderAt _ _ _ _ _ (Lib.strCells _) _
        rw [strCells_append]
        exact ha6
      go_roundw
      case rel => exact ⟨k + 1, by omega, by go_num, HBD, HB5.trans hb6⟩
      case measure => simp [intOf]; omega
    · have htk : c.take k = c := List.take_of_length_le (by omega)
      rw [htk] at hbd
      clear htk
      have hbd' : Lib.IsBuilder 65 5 w2.heap.size w2.heap.size (Lib.byteCells (textB V F c).data.toList) wr := .inr hbd
      have hS : Calls Tryd.prog 33 #[.pointer (some ⟨w2.heap.size, 0, none⟩)] wr fun e w' => e = .returned (.string (textB V F c)) ∧ Below w2.heap.size wr w' := Tryd.Builder_String_any w2.heap.size w2.heap.size _ wr hbd' s1
      go_wp2_with (go_at_call 33; refine hS.mono ?_; rintro e w7 ⟨rfl, hb7⟩)
      go_ret2
      exact ⟨rfl, HW2.trans ((hbr.trans hb7).mono HW2.size)⟩

set_option maxHeartbeats 1000000 in
set_option maxRecDepth 20000 in
theorem print_nil (V F : Int) (s : Option Addr) (cap : Nat) (w : World) (h0 : ckProg V F [] = 0) (ht : Tab w) :
    Calls Tryd.prog 8 #[.agg #[.int .i64 V, .int .i64 F, .slice s 0 cap]] w fun e w' => e = .returned (.tuple #[.string (textB V F []), .int .i64 0]) ∧ Below w.heap.size w w' := by
  obtain ⟨hV, hF, _, _, _⟩ := ckProg_ok h0
  have fV : fits V := ⟨by omega, by omega⟩
  have fF : fits F := ⟨by omega, by omega⟩
  have hbox : Below w.heap.size w (w.alloc (.cells #[.int .i64 V, .int .i64 F, .slice s 0 cap] 24)) := by go_grown
  have hhs := headB_size V F fV fF
  go_enter Tryd.func8, Tryd.ntmps8
  go_wp2_with (first
    | (go_at_call 14; refine (codeCheck_any V F s cap [] _ (.inl rfl)).mono ?_; rintro e w1 ⟨rfl, hb1⟩)
    | (go_at_call 29; refine (shapes_any _).mono ?_; rintro e w2 ⟨rfl, hs2, hb2⟩; have HB2 : Below (w.heap.size + 1) (w.alloc (.cells #[.int .i64 V, .int .i64 F, .slice s 0 cap] 24)) w2 := (hb1.mono (by simp)).trans (hb2.mono (by have := hb1.size; simp at this; omega)); have HS2 : w.heap.size < w2.heap.size := (by have := HB2.size; simp at this; omega); have q0 : w2.cell? ⟨w.heap.size, 0, none⟩ = some (.int .i64 V) := (by rw [HB2.cell (by simp)]; simp [go_sem]); have q1 : w2.cell? ⟨w.heap.size, 1, none⟩ = some (.int .i64 F) := (by rw [HB2.cell (by simp)]; simp [go_sem]); have q2 : w2.cell? ⟨w.heap.size, 2, none⟩ = some (.slice s 0 cap) := (by rw [HB2.cell (by simp)]; simp [go_sem]))
    | (go_at_call 31; refine (printHead_any V F _ _ _ _ fV fF ?tb).mono ?_; (case tb => exact ht.below ((hbox.trans (HB2.mono (by omega))).alloc (by omega) _)); rintro e w3 ⟨rfl, hb3⟩; have fresh : Lib.BuilderAt 65 5 w2.heap.size w2.heap.size (.pointer none) [] w3 := builder_below ⟨Nat.le_refl _, _, (MapKept.heap_alloc w2 _).1, ⟨rfl, .inl ⟨rfl, rfl⟩⟩, (by intro h; cases h)⟩ hb3; have HB3 : Below w2.heap.size w2 w3 := Below.trans (by go_grown) (hb3.mono (by go_size)))
    | (go_at_call 30; refine (writeString_any w2.heap.size w2.heap.size [] (headB V F) _ (.inl fresh) (by simp; omega) HB3.size).mono ?_; rintro e w4 ⟨rfl, ha4, hb4⟩; have HB4 : Below w2.heap.size w2 w4 := HB3.trans hb4; have q2 : w4.cell? ⟨w.heap.size, 2, none⟩ = some (.slice s 0 cap) := (by rw [HB4.cell HS2]; exact q2)))
  have HW2 : Below w.heap.size w w2 := hbox.trans (HB2.mono (by omega))
  have hbd' : Lib.IsBuilder 65 5 w2.heap.size w2.heap.size (Lib.byteCells (textB V F []).data.toList) w4 := .inr ha4
  have hS : Calls Tryd.prog 33 #[.pointer (some ⟨w2.heap.size, 0, none⟩)] w4 fun e w' => e = .returned (.string (textB V F [])) ∧ Below w2.heap.size w4 w' := Tryd.Builder_String_any w2.heap.size w2.heap.size _ w4 hbd' HB4.size
  refine wp_loop_rounds 1 ?_
  rw [rounds_succ]
  go_wp2_with (go_at_call 33; refine hS.mono ?_; rintro e w7 ⟨rfl, hb7⟩)
  go_ret2
  exact ⟨rfl, HW2.trans ((HB4.trans hb7).mono HW2.size)⟩

set_option maxHeartbeats 1000000 in
theorem print_err (V F : Int) (s : Option Addr) (cap : Nat) (c : List Ins) (w : World) (h : CodeAt w s c) (h0 : ckProg V F c ≠ 0) :
    Calls Tryd.prog 8 #[.agg #[.int .i64 V, .int .i64 F, .slice s c.length cap]] w fun e w' => e = .returned (.tuple #[.string ⟨#[]⟩, .int .i64 (ckProg V F c)]) ∧ Below w.heap.size w w' := by
  have hbox : Below w.heap.size w (w.alloc (.cells #[.int .i64 V, .int .i64 F, .slice s c.length cap] 24)) := by go_grown
  have hne : (ckProg V F c != 0) = true := by simpa using h0
  go_enter Tryd.func8, Tryd.ntmps8
  go_wp2_with (go_at_call 14; refine (codeCheck_any V F s cap c _ (h.below hbox (Nat.le_refl _))).mono ?_; rintro e w1 ⟨rfl, hb1⟩)
  go_ret2
  exact ⟨rfl, hbox.trans (hb1.mono (by simp))⟩

/-- What is printed of a program. -/
def textAll (V F : Int) (c : List Ins) : ByteArray := if ckProg V F c = 0 then textB V F c else ⟨#[]⟩

/-- The program's text of a program, whatever it is handed. -/
theorem print_any (V F : Int) (s : Option Addr) (cap : Nat) (c : List Ins) (w : World) (hf : ∀ i ∈ c, i.Fits) (ht : Tab w) (h : CodeAt w s c) :
    Calls Tryd.prog 8 #[.agg #[.int .i64 V, .int .i64 F, .slice s c.length cap]] w fun e w' => e = .returned (.tuple #[.string (textAll V F c), .int .i64 (ckProg V F c)]) ∧ Below w.heap.size w w' := by
  by_cases h0 : ckProg V F c = 0
  · unfold textAll
    rw [if_pos h0, h0]
    rcases h with rfl | ⟨b, off, rfl, hb, hc⟩
    · exact print_nil V F s cap w h0 ht
    · exact print_loop V F b off cap c w h0 hf ht hb hc
  · unfold textAll
    rw [if_neg h0]
    exact print_err V F s cap c w h h0
end Go.Proofs.YtmapdpcfanecdaaDoor

namespace Go.Proofs.YtmapdpcfanecdaaDoor
set_option linter.unusedVariables false
set_option linter.unusedSimpArgs false
open Go.RowKit

/-- The library's bound lies in its variable, whatever it is. -/
def Cap (w : World) : Prop := ∃ m, w.cell? ⟨0, 0, none⟩ = some (.int .i64 m)
theorem Cap.below {w w' : World} (h : Cap w) (hb : Below w.heap.size w w') : Cap w' := by
  obtain ⟨m, hm⟩ := h
  exact ⟨m, by rw [hb.cell (World.block_lt_of_cell? w _ hm)]; exact hm⟩

set_option maxHeartbeats 1000000 in
set_option maxRecDepth 20000 in
theorem parseNumber_ok (s : ByteArray) (v : Int) (w : World) (h : Lib.atoiAll s.data.toList = .ok v) (hf : fits v) (hi : itoaB v = s) (hs : s.size ≤ 11) (ht : Tab w) :
    Calls Tryd.prog 92 #[.string s] w fun e w' => e = .returned (.tuple #[.int .i64 v, .bool true]) ∧ Below w.heap.size w w' := by
  have n1 : ¬ (11 : Int) < (s.size : Int) := by omega
  have hA : ∀ w, Calls Tryd.prog 109 #[.string s] w fun e w' => e = .returned (.tuple #[.int .i64 v, .nilIface]) ∧ Below w.heap.size w w' := by
    intro w
    refine (Tryd.strconv_Atoi_ok s (by omega) v h w).mono ?_
    rintro e w' ⟨rfl, rfl | ⟨t, rfl⟩⟩
    · exact ⟨rfl, Below.refl _ _⟩
    · exact ⟨rfl, Lib.bytesWorld_below _ _ _⟩
  go_enter Tryd.func92, Tryd.ntmps92
  go_wp2_with (first
    | (go_at_call 109; refine (hA _).mono ?_; rintro e w1 ⟨rfl, hb1⟩)
    | (go_at_call 62; refine (itoa_any v _ hf (ht.below hb1)).mono ?_; rintro e w2 ⟨rfl, hb2⟩))
  go_ret2
  exact ⟨rfl, hb1.trans (hb2.mono hb1.size)⟩

/-- A line cut at its blanks, in a row of the call's own. -/
theorem split_words (s : ByteArray) (xs : List ByteArray) (w : World) (hm : Cap w) (hs : s.size < 4294967281) (hc : Lib.countB s ⟨#[32]⟩ + 1 = xs.length) (hx : Lib.splitB ⟨#[32]⟩ 0 (Lib.countB s ⟨#[32]⟩) s = xs) :
    Calls Tryd.prog 91 #[.string s, .string ⟨#[32]⟩] w fun e w' => e = .returned (.slice (some ⟨w.heap.size, 0, none⟩) xs.length xs.length) ∧ w' = w.alloc (.cells (xs.map Value.string).toArray 9) := by
  obtain ⟨m, hm⟩ := hm
  refine (Tryd.strings_Split s ⟨#[32]⟩ m w hs hm (by decide)).mono ?_
  rintro e w' ⟨rfl, rfl⟩
  rw [hc, hx]
  exact ⟨rfl, rfl⟩

def lineHead : ByteArray := ⟨#[118, 97, 114, 115, 32, 49, 32, 102, 105, 101, 108, 100, 115, 32, 48]⟩
theorem head_count : Lib.countB lineHead ⟨#[32]⟩ + 1 = 4 := by decide +kernel
theorem head_split : Lib.splitB ⟨#[32]⟩ 0 (Lib.countB lineHead ⟨#[32]⟩) lineHead = [⟨#[118, 97, 114, 115]⟩, ⟨#[49]⟩, ⟨#[102, 105, 101, 108, 100, 115]⟩, ⟨#[48]⟩] := by decide +kernel

set_option maxHeartbeats 1000000 in
set_option maxRecDepth 20000 in
theorem parseHead_small (w : World) (ht : Tab w) (hm : Cap w) :
    Calls Tryd.prog 69 #[.string lineHead] w fun e w' => e = .returned (.tuple #[.agg #[.int .i64 1, .int .i64 0, .slice none 0 0], .bool true]) ∧ Below w.heap.size w w' := by
  have hb1 : Below w.heap.size w (w.alloc (.cells #[.int .i64 0, .int .i64 0, .slice none 0 0] 24)) := by go_grown
  have hsp := split_words lineHead [⟨#[118, 97, 114, 115]⟩, ⟨#[49]⟩, ⟨#[102, 105, 101, 108, 100, 115]⟩, ⟨#[48]⟩] _ (hm.below hb1) (by decide) head_count head_split
  have ha1 : Lib.atoiAll (⟨#[49]⟩ : ByteArray).data.toList = .ok 1 := by decide +kernel
  have ha0 : Lib.atoiAll (⟨#[48]⟩ : ByteArray).data.toList = .ok 0 := by decide +kernel
  have hi1 : itoaB 1 = ⟨#[49]⟩ := by decide +kernel
  have hi0 : itoaB 0 = ⟨#[48]⟩ := by decide +kernel
  have hb2 : Below w.heap.size w ((w.alloc (.cells #[.int .i64 0, .int .i64 0, .slice none 0 0] 24)).alloc (.cells #[.string ⟨#[118, 97, 114, 115]⟩, .string ⟨#[49]⟩, .string ⟨#[102, 105, 101, 108, 100, 115]⟩, .string ⟨#[48]⟩] 9)) := by go_grown
  go_enter Tryd.func69, Tryd.ntmps69
  go_wp2_with (first | (go_at_call 91; refine hsp.mono ?_; rintro e w1 ⟨rfl, rfl⟩) | (go_at_call 92; fail))
  refine (parseNumber_ok ⟨#[49]⟩ 1 _ ha1 ⟨by decide, by decide⟩ hi1 (by decide) (ht.below hb2)).mono ?_
  rintro e w3 ⟨rfl, hb3⟩
  have HB3 : Below w.heap.size w w3 := hb2.trans (hb3.mono (by go_size))
  have q3 : w3.cell? ⟨w.heap.size + 1, 3, none⟩ = some (.string ⟨#[48]⟩) := by rw [hb3.cell (by simp)]; simp [go_sem]
  have hs3 : w.heap.size < w3.heap.size := by have := hb3.size; simp at this; omega
  have f3 : ∀ j, w3.frozen? ⟨w.heap.size, j, none⟩ = false := fun j => by rw [hb3.frozen (by simp; omega)]; simp [go_sem]
  have d0 : w3.cell? ⟨w.heap.size, 0, none⟩ = some (.int .i64 0) := by rw [hb3.cell (by simp; omega)]; simp [go_sem]
  have d1 : w3.cell? ⟨w.heap.size, 1, none⟩ = some (.int .i64 0) := by rw [hb3.cell (by simp; omega)]; simp [go_sem]
  have d2 : w3.cell? ⟨w.heap.size, 2, none⟩ = some (.slice none 0 0) := by rw [hb3.cell (by simp; omega)]; simp [go_sem]
  clear hsp
  go_wp2_with (go_at_call 92; fail)
  refine (parseNumber_ok ⟨#[48]⟩ 0 _ ha0 ⟨by decide, by decide⟩ hi0 (by decide) (ht.below HB3)).mono ?_
  rintro e w4 ⟨rfl, hb4⟩
  have HB4 : Below w.heap.size w w4 := HB3.trans (hb4.mono (by omega))
  have f4 : ∀ j, w4.frozen? ⟨w.heap.size, j, none⟩ = false := fun j => by rw [hb4.frozen hs3]; exact f3 j
  have e0 : w4.cell? ⟨w.heap.size, 0, none⟩ = some (.int .i64 0) := by rw [hb4.cell hs3]; exact d0
  have e1 : w4.cell? ⟨w.heap.size, 1, none⟩ = some (.int .i64 0) := by rw [hb4.cell hs3]; exact d1
  have e2 : w4.cell? ⟨w.heap.size, 2, none⟩ = some (.slice none 0 0) := by rw [hb4.cell hs3]; exact d2
  clear d0 d1 d2 f3 q3
  go_wp2
  refine bodyPost_ret (v := .tuple #[.agg #[.int .i64 1, .int .i64 0, .slice none 0 0], .bool true]) (by simp [results, Tryd.results69, go_sem, e0, e1, e2]) rfl ⟨rfl, ?_⟩
  exact ((HB4.setCell (Nat.le_refl _) _).setCell (Nat.le_refl _) _).setCell (Nat.le_refl _) _
end Go.Proofs.YtmapdpcfanecdaaDoor

namespace Go.Proofs.YtmapdpcfanecdaaDoor
set_option linter.unusedVariables false
set_option linter.unusedSimpArgs false
open Go.RowKit

set_option maxHeartbeats 1000000 in
set_option maxRecDepth 20000 in
theorem wanted_yes (x : ByteArray) (sa : Option Addr) (np p g n c : Nat) (w : World) (h0 : 0 < n) (hn : n ≤ 100) (hp : p < w.heap.size) (hg : g < w.heap.size) (hc : w.cell? ⟨p, 0, none⟩ = some (.slice (some ⟨g, 0, none⟩) n c)) (hx : w.cell? ⟨g, 0, none⟩ = some (.string x)) (he : np + 1 = n) :
    Calls Tryd.prog 94 #[.agg #[.string x, .slice sa np np], .pointer (some ⟨p, 0, none⟩)] w fun e w' => e = .returned (.bool true) ∧ Below w.heap.size w w' := by
  have n0 : (0 : Int) < (n : Int) := by omega
  have e1 : ((np : Int) == (n : Int) - 1) = true := by simp; omega
  have z1 : p < w.heap.size + 1 := by omega
  have z2 : g < w.heap.size + 1 := by omega
  clear he
  go_enter Tryd.func94, Tryd.ntmps94
  go_wp2
  go_quiet (fail)
  go_wp2
  go_ret
  exact ⟨rfl, below_drewN (by go_grown) _⟩

set_option maxHeartbeats 1000000 in
set_option maxRecDepth 20000 in
theorem wanted_no (x y : ByteArray) (sa : Option Addr) (np p g n c : Nat) (w : World) (h0 : 0 < n) (hn : n ≤ 100) (hp : p < w.heap.size) (hg : g < w.heap.size) (hc : w.cell? ⟨p, 0, none⟩ = some (.slice (some ⟨g, 0, none⟩) n c)) (hx : w.cell? ⟨g, 0, none⟩ = some (.string x)) (hne : (y.toList == x.toList) = false) :
    Calls Tryd.prog 94 #[.agg #[.string y, .slice sa np np], .pointer (some ⟨p, 0, none⟩)] w fun e w' => e = .returned (.bool false) ∧ Below w.heap.size w w' := by
  have n0 : (0 : Int) < (n : Int) := by omega
  have z1 : p < w.heap.size + 1 := by omega
  have z2 : g < w.heap.size + 1 := by omega
  go_enter Tryd.func94, Tryd.ntmps94
  go_wp2
  go_quiet (fail)
  go_wp2
  go_ret
  exact ⟨rfl, below_drewN (by go_grown) _⟩

/-- How many parts a kind names. -/
def npt (k : Nat) : Nat := match k with
  | 1 => 2 | 2 => 2 | 3 => 1 | 4 => 2 | 5 => 3 | 6 => 3 | 7 => 3 | 8 => 3 | 9 => 3 | 10 => 2 | 11 => 1 | 12 => 3 | 13 => 3 | 14 => 2 | 15 => 2 | 16 => 1 | 17 => 1 | 18 => 1 | _ => 0

theorem nat_cases {k : Nat} (h1 : 1 ≤ k) (h : k ≤ 19) : k = 1 ∨ k = 2 ∨ k = 3 ∨ k = 4 ∨ k = 5 ∨ k = 6 ∨ k = 7 ∨ k = 8 ∨ k = 9 ∨ k = 10 ∨ k = 11 ∨ k = 12 ∨ k = 13 ∨ k = 14 ∨ k = 15 ∨ k = 16 ∨ k = 17 ∨ k = 18 ∨ k = 19 := by omega

theorem look_gen {N : Nat} {w : World} (h : ShpAt N shps w) (k : Nat) (h1 : 1 ≤ k) (h19 : k ≤ 19) : ∃ sa, (Instr.lookup 60 (.map (some N)) (.int .i64 (k : Int)) false).run Tryd.prog w = .ok (.agg #[.string (wordB k), .slice sa (npt k) (npt k)]) w := by
  rcases nat_cases h1 h19 with rfl | rfl | rfl | rfl | rfl | rfl | rfl | rfl | rfl | rfl | rfl | rfl | rfl | rfl | rfl | rfl | rfl | rfl | rfl
  · exact ⟨_, look_val h 1 0 _ rfl⟩
  · exact ⟨_, look_val h 2 1 _ rfl⟩
  · exact ⟨_, look_val h 3 2 _ rfl⟩
  · exact ⟨_, look_val h 4 3 _ rfl⟩
  · exact ⟨_, look_val h 5 4 _ rfl⟩
  · exact ⟨_, look_val h 6 5 _ rfl⟩
  · exact ⟨_, look_val h 7 6 _ rfl⟩
  · exact ⟨_, look_val h 8 7 _ rfl⟩
  · exact ⟨_, look_val h 9 8 _ rfl⟩
  · exact ⟨_, look_val h 10 9 _ rfl⟩
  · exact ⟨_, look_val h 11 10 _ rfl⟩
  · exact ⟨_, look_val h 12 11 _ rfl⟩
  · exact ⟨_, look_val h 13 12 _ rfl⟩
  · exact ⟨_, look_val h 14 13 _ rfl⟩
  · exact ⟨_, look_val h 15 14 _ rfl⟩
  · exact ⟨_, look_val h 16 15 _ rfl⟩
  · exact ⟨_, look_val h 17 16 _ rfl⟩
  · exact ⟨_, look_val h 18 17 _ rfl⟩
  · exact ⟨_, look_val h 19 18 _ rfl⟩

theorem words_differ : ∀ j : Fin 20, ∀ k : Fin 20, 1 ≤ j.val → j.val < k.val → ((wordB j.val).data.toList == (wordB k.val).data.toList) = false := by decide +kernel

set_option maxHeartbeats 1000000 in
set_option maxRecDepth 20000 in
theorem find_at (K N p g n c : Nat) (w : World) (hK1 : 1 ≤ K) (hK : K ≤ 19) (hs : ShpAt N shps w) (hn : n ≤ 100) (hp : p < w.heap.size) (hg : g < w.heap.size) (hc : w.cell? ⟨p, 0, none⟩ = some (.slice (some ⟨g, 0, none⟩) n c)) (hx : w.cell? ⟨g, 0, none⟩ = some (.string (wordB K))) (he : npt K + 1 = n) :
    Calls Tryd.prog 93 #[.map (some N), .func (.func 94) #[] #[.pointer (some ⟨p, 0, none⟩)]] w fun e w' => e = .returned (.tuple #[.int .i64 K, .bool true]) ∧ Below w.heap.size w w' := by
  go_enter Tryd.func93, Tryd.ntmps93
  go_wp2
  go_loopw [6] (fun i wr => ∃ k : Nat, 1 ≤ k ∧ k ≤ K ∧ i = .int .i64 k ∧ Below w.heap.size w wr) (fun i _ => K - (intOf i).toNat)
  case atStart => exact ⟨1, Nat.le_refl _, hK1, rfl, Below.refl _ _⟩
  case round =>
    obtain ⟨k, hk1, hk, rfl, hbr⟩ := hrel
    obtain ⟨sa, hl⟩ := look_gen (hs.below hbr (Nat.le_refl _)) k hk1 (by omega)
    have hc' : wr.cell? ⟨p, 0, none⟩ = some (.slice (some ⟨g, 0, none⟩) n c) := by rw [hbr.cell hp]; exact hc
    have hx' : wr.cell? ⟨g, 0, none⟩ = some (.string (wordB K)) := by rw [hbr.cell hg]; exact hx
    have s0 := hbr.size
    have m1 : (k : Int) ≤ 19 := by omega
    by_cases hkK : k = K
    · subst hkK
      have hW := wanted_yes (wordB k) sa (npt k) p g n c wr (by omega) hn (by omega) (by omega) hc' hx' he
      clear hc' hx' hc hx he hs
      go_wp2_with (go_at_call 94; refine hW.mono ?_; rintro e w1 ⟨rfl, hb1⟩)
      go_ret2
      exact ⟨rfl, hbr.trans (hb1.mono s0)⟩
    · have hd := words_differ ⟨k, by omega⟩ ⟨K, by omega⟩ hk1 (by show k < K; omega)
      have hW := wanted_no (wordB K) (wordB k) sa (npt k) p g n c wr (by omega) hn (by omega) (by omega) hc' hx' (by rw [ByteArray.toList_eq, ByteArray.toList_eq]; exact hd)
      clear hc' hx' hc hx he hs hd
      go_wp2_with (go_at_call 94; refine hW.mono ?_; rintro e w1 ⟨rfl, hb1⟩)
      go_roundw
      case rel => exact ⟨k + 1, by omega, by omega, by go_num, hbr.trans (hb1.mono s0)⟩
      case measure => simp [intOf]; omega
end Go.Proofs.YtmapdpcfanecdaaDoor
