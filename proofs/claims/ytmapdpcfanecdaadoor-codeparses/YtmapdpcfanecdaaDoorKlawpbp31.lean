/- Walks over the document's own answers: the heads of loops. -/
import Derived.Test.YtmapdpcfanecdaaDoorKlawpbp04
import Derived.Deep.AppendLies
namespace Go.Proofs.YtmapdpcfanecdaaDoor
set_option linter.unusedVariables false
set_option linter.unusedSimpArgs false
open Go.RowKit

/-- Does an instruction lead to that place? -/
def leads (at_ : Nat) (i : Ins) : Bool := nG i.k && decide (i.g = (at_ : Int))
/-- Is a place the head of a loop? -/
def isHead (c : List Ins) (at_ : Nat) : Bool := (c.drop at_).any (leads at_)
/-- The heads ahead of place k. -/
def headsTo (c : List Ins) (k : Nat) : List Int := ((List.range k).filter (isHead c)).map fun n : Nat => (n : Int)

theorem headsTo_succ (c : List Ins) (k : Nat) : headsTo c (k + 1) = headsTo c k ++ (if isHead c k then [(k : Int)] else []) := by
  unfold headsTo
  rw [List.range_succ, List.filter_append, List.map_append]
  congr 1
  by_cases h : isHead c k = true
  · simp [h]
  · simp [h]

theorem headsTo_length (c : List Ins) (k : Nat) : (headsTo c k).length ≤ k := by
  unfold headsTo
  rw [List.length_map]
  exact Nat.le_trans (List.length_filter_le _ _) (by simp)

theorem any_take_succ (c : List Ins) (at_ t : Nat) (h : at_ + t < c.length) : ((c.drop at_).take (t + 1)).any (leads at_) = (((c.drop at_).take t).any (leads at_) || leads at_ c[at_ + t]) := by
  rw [List.take_succ_eq_append_getElem (by simp; omega), List.any_append]
  simp

theorem Tryd.info_int : (Tryd.prog.info? 3).map (fun i => (i.zero, i.size, i.bytes)) = some (some (.int .i64 0), 1, 8) := by kernel_rfl

theorem ownsRow_low {w : World} {B : Nat} {e : TypeId} {z : Nat} {v : Value} {n : Nat} {xs : List Value} (h : w.ownsRow B e z v n xs) {k : Nat} (hk : v.ownBlock = some k) : B ≤ k := by
  rcases h.2 with ⟨rfl, _⟩ | ⟨g, cap, cur, rfl, hb, hg, _⟩
  · cases hk
  · cases hk
    exact hb

set_option maxHeartbeats 2000000 in
set_option maxRecDepth 10000 in
theorem headsOf_loop (V F : Int) (b off cap : Nat) (c : List Ins) (w : World) (hL : c.length ≤ 60) (hb : b < w.heap.size) (hc : ∀ k (h : k < c.length), InsAt w b (off + k * 6) c[k]) :
    Calls Tryd.prog 12 #[.agg #[.int .i64 V, .int .i64 F, .slice (some ⟨b, off, none⟩) c.length cap]] w fun e w' => ∃ v, e = .returned v ∧ w'.ownsRow w.heap.size 3 1 v (headsTo c c.length).length ((headsTo c c.length).map (.int .i64)) ∧ Below w.heap.size w w' := by
  obtain ⟨ti, hi, hz0, hz1, hz2⟩ := info_parts Tryd.info_int
  go_enter Tryd.func12, Tryd.ntmps12
  go_wp2
  go_loopw [3, 4] (fun o i wr => ∃ k : Nat, k ≤ c.length ∧ i = .int .i64 k ∧ wr.ownsRow (w.heap.size + 1) 3 1 o (headsTo c k).length ((headsTo c k).map (.int .i64)) ∧ Below (w.heap.size + 1) (w.alloc (.cells #[.int .i64 V, .int .i64 F, .slice (some ⟨b, off, none⟩) c.length cap] 24)) wr) (fun _ i _ => c.length - (intOf i).toNat)
  case atStart => exact ⟨0, Nat.zero_le _, rfl, ⟨by simp [headsTo], .inl ⟨rfl, by simp [headsTo]⟩⟩, Below.refl _ _⟩
  case round =>
    obtain ⟨k, hk, rfl, hown, hbr⟩ := hrel
    have q2 : wr.cell? ⟨w.heap.size, 2, none⟩ = some (.slice (some ⟨b, off, none⟩) c.length cap) := by rw [hbr.cell (by simp)]; simp [go_sem]
    have s1 : w.heap.size + 1 ≤ wr.heap.size := by have := hbr.size; simp at this; omega
    by_cases hlt : k < c.length
    · have hci : ∀ j (h : j < c.length), InsAt wr b (off + j * 6) c[j] := fun j h => ((hc j h).below (Below.alloc (Below.refl w.heap.size w) (Nat.le_refl _) _) hb).below hbr (by omega)
      have n0 : (0 : Int) ≤ (k : Int) := by omega
      have n1 : (k : Int) < (c.length : Int) := by omega
      go_wp2
      go_loop [5, 6] (fun s i => ∃ t : Nat, k + t ≤ c.length ∧ i = .int .i64 ((k + t : Nat) : Int) ∧ s = .bool (((c.drop k).take t).any (leads k))) (fun _ i => c.length - (intOf i).toNat)
      case atStart => exact ⟨0, by omega, rfl, rfl⟩
      case round =>
        obtain ⟨t, ht, rfl, rfl⟩ := hrel
        by_cases hj : k + t < c.length
        · obtain ⟨i0, _, _, _, _, i5⟩ := hci (k + t) hj
          have HA : Hid (((c.drop k).take (t + 1)).any (leads k) = (((c.drop k).take t).any (leads k) || (nG c[k + t].k && decide (c[k + t].g = (k : Int))))) := any_take_succ c k t hj
          have m0 : (0 : Int) ≤ ((k + t : Nat) : Int) := by omega
          have m1 : ((k + t : Nat) : Int) < (c.length : Int) := by omega
          cases hA : ((c.drop k).take t).any (leads k) with
          | true =>
            go_wp2
            go_round
            case rel => exact ⟨t + 1, by omega, by go_num, by rw [HA.out, hA]; rfl⟩
            case measure => simp [intOf]; omega
          | false =>
            cases hG : nG c[k + t].k with
            | false =>
              go_wp2_with (go_at_call 40; refine (namesGoto_any _ _).mono ?_; rintro e w' ⟨rfl, rfl⟩)
              go_round
              case rel => exact ⟨t + 1, by omega, by go_num, by rw [HA.out, hA, hG]; rfl⟩
              case measure => simp [intOf]; omega
            | true =>
              go_wp2_with (go_at_call 40; refine (namesGoto_any _ _).mono ?_; rintro e w' ⟨rfl, rfl⟩)
              go_round
              case rel => exact ⟨t + 1, by omega, by go_num, by rw [HA.out, hA, hG]; rfl⟩
              case measure => simp [intOf]; omega
        · have hH : Hid (((c.drop k).take t).any (leads k) = isHead c k) := by
            show _ = _
            unfold isHead
            rw [List.take_of_length_le (by simp; omega)]
          rw [hH.out]
          have HS := headsTo_succ c k
          cases hh : isHead c k with
          | false =>
            rw [hh] at HS
            simp only [Bool.false_eq_true, if_false, List.append_nil] at HS
            have HS' : Hid (headsTo c (k + 1) = headsTo c k) := HS
            clear HS
            go_wp2
            go_roundw
            case rel => exact ⟨k + 1, by omega, by go_num, by rw [HS'.out]; exact hown, hbr⟩
            case measure => simp [intOf]; omega
          | true =>
            rw [hh] at HS
            simp only [if_true] at HS
            have HS' : Hid (headsTo c (k + 1) = headsTo c k ++ [(k : Int)]) := HS
            have hln := headsTo_length c k
            clear HS
            go_wp2_with (at_builtin; refine wpList_append_own _ rfl _ _ 28 rfl (w.heap.size + 1) 3 ti (.int .i64 0) 1 8 Tryd.underlying28 hi hz0 hz1 hz2 rfl (by decide) _ _ _ rfl (hown.alloc _) ⟨wr.heap.size, 0, none⟩ 1 1 [.int .i64 (k : Int)] rfl rfl (cell_one_new _ _ _) (fun x hx => by simp at hx; subst hx; rfl) (by unfold maxLen; omega) (by omega) (by simp; omega) ?_; intro v' w3 hown' hgrow3 hnil3)
            go_roundw
            case rel => exact ⟨k + 1, by omega, by go_num, by rw [HS'.out, List.map_append, List.length_append]; exact hown', (hbr.alloc s1 _).grown hgrow3 (by simp; omega) (fun j hj => ownsRow_low hown hj)⟩
            case measure => simp [intOf]; omega
    · go_wp2
      go_ret
      have hk' : k = c.length := by omega
      subst hk'
      refine ⟨_, rfl, ?_, (Below.alloc (Below.refl _ _) (Nat.le_refl _) _).trans (hbr.mono (by omega))⟩
      obtain ⟨h1, h2⟩ := hown
      exact ⟨h1, h2.imp id fun ⟨g, cap, cur, r1, r2, r3⟩ => ⟨g, cap, cur, r1, by omega, r3⟩⟩

set_option maxHeartbeats 1000000 in
theorem headsOf_nil (V F : Int) (s : Option Addr) (cap : Nat) (w : World) :
    Calls Tryd.prog 12 #[.agg #[.int .i64 V, .int .i64 F, .slice s 0 cap]] w fun e w' => e = .returned (.slice none 0 0) ∧ Below w.heap.size w w' := by
  go_enter Tryd.func12, Tryd.ntmps12
  go_wp2
  go_rounds 1
  go_ret
  exact ⟨rfl, by go_grown⟩

/-- The document's heads of a program that is right. -/
theorem headsOf_any (V F : Int) (s : Option Addr) (cap : Nat) (c : List Ins) (w : World) (hL : c.length ≤ 60) (h : CodeAt w s c) :
    Calls Tryd.prog 12 #[.agg #[.int .i64 V, .int .i64 F, .slice s c.length cap]] w fun e w' => ∃ v, e = .returned v ∧ w'.ownsRow w.heap.size 3 1 v (headsTo c c.length).length ((headsTo c c.length).map (.int .i64)) ∧ Below w.heap.size w w' := by
  rcases h with rfl | ⟨b, off, rfl, hb, hc⟩
  · exact (headsOf_nil V F s cap w).mono fun e w' ⟨he, hb⟩ => ⟨_, he, ⟨rfl, .inl ⟨rfl, rfl⟩⟩, hb⟩
  · exact headsOf_loop V F b off cap c w hL hb hc
end Go.Proofs.YtmapdpcfanecdaaDoor
