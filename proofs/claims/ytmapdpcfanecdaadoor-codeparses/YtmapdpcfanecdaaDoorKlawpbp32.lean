/- Walks over package code: the heads of loops. -/
import Derived.Test.YtmapdpcfanecdaaDoorKlawpbp29
import Derived.Test.YtmapdpcfanecdaaDoorKlawpbp31
import Derived.Test.YtmapdpcfanecdaaDoorKlawpbp19
namespace Go.Proofs.YtmapdpcfanecdaaDoor
set_option linter.unusedVariables false
set_option linter.unusedSimpArgs false
open Go.RowKit

set_option maxHeartbeats 1000000 in
theorem back_any (i : Ins) (at_ p : Nat) (w : World) (hp : p < w.heap.size) (hc : w.cell? ⟨p, 0, none⟩ = some (.int .i64 at_)) :
    Calls Tryd.prog 34 #[.agg #[.int .i64 i.k, .int .i64 i.to, .int .i64 i.a, .int .i64 i.b, .int .i64 i.n, .int .i64 i.g], .pointer (some ⟨p, 0, none⟩)] w fun e w' => e = .returned (.bool (leads at_ i)) ∧ Below w.heap.size w w' := by
  obtain ⟨k, d0, a, b, n, g⟩ := i
  by_cases h15 : k = 15
  · subst h15
    go_enter Tryd.func34, Tryd.ntmps34
    go_wp2
    go_ret
    exact ⟨ret_bool (by simp [leads, nG]; rfl), by go_grown⟩
  by_cases h16 : k = 16
  · subst h16
    go_enter Tryd.func34, Tryd.ntmps34
    go_wp2
    go_ret
    exact ⟨ret_bool (by simp [leads, nG]; rfl), by go_grown⟩
  · have e15 : (k == 15) = false := by simpa using h15
    have e16 : (k == 16) = false := by simpa using h16
    go_enter Tryd.func34, Tryd.ntmps34
    go_wp2
    go_ret
    exact ⟨ret_bool (by simp [leads, nG, h15, h16]), by go_grown⟩

theorem any_drop_step (l : List Ins) (p : Ins → Bool) (k : Nat) (h : k < l.length) : (l.drop k).any p = (p l[k] || (l.drop (k + 1)).any p) := by
  rw [List.drop_eq_getElem_cons h]; rfl

set_option maxHeartbeats 1000000 in
theorem indexFunc_heads (b off cap at_ p : Nat) (l : List Ins) (w : World) (h63 : l.length ≤ 60) (hb : b < w.heap.size) (hp : p < w.heap.size) (hcp : w.cell? ⟨p, 0, none⟩ = some (.int .i64 at_)) (hc : ∀ k (h : k < l.length), InsAt w b (off + k * 6) l[k]) :
    Calls Tryd.prog 64 #[.slice (some ⟨b, off, none⟩) l.length cap, .func (.func 34) #[] #[.pointer (some ⟨p, 0, none⟩)]] w fun e w' => ∃ n : Int, e = .returned (.int .i64 n) ∧ decide (0 ≤ n) = l.any (leads at_) ∧ Below w.heap.size w w' := by
  go_enter Tryd.func64, Tryd.ntmps64
  go_wp2
  go_loopw [8] (fun i wr => ∃ k : Nat, k ≤ l.length ∧ i = .int .i64 k ∧ Below w.heap.size w wr ∧ Hid (l.any (leads at_) = (l.drop k).any (leads at_))) (fun i _ => l.length - (intOf i).toNat)
  case atStart => exact ⟨0, Nat.zero_le _, rfl, Below.refl _ _, rfl⟩
  case round =>
    obtain ⟨k, hk, rfl, hbr, HA⟩ := hrel
    by_cases hlt : k < l.length
    · have n0 : (0 : Int) ≤ (k : Int) := by omega
      have n1 : (k : Int) < (l.length : Int) := by omega
      have s0 := hbr.size
      obtain ⟨i0, i1, i2, i3, i4, i5⟩ : InsAt wr b (off + k * 6) l[k] := (hc k hlt).below hbr hb
      have hcr : wr.cell? ⟨p, 0, none⟩ = some (.int .i64 at_) := by rw [hbr.cell hp]; exact hcp
      have HN := any_drop_step l (leads at_) k hlt
      cases hl : leads at_ l[k] with
      | true =>
        have HT : Hid (l.any (leads at_) = true) := by show _ = _; rw [HA.out, HN, hl]; rfl
        clear HN HA hc hcp
        go_wp2_with (go_at_call 34; refine (back_any l[k] at_ p _ (by omega) hcr).mono ?_; rintro e w1 ⟨rfl, hb1⟩)
        go_ret
        exact ⟨_, rfl, by rw [HT.out]; simp, hbr.trans (hb1.mono s0)⟩
      | false =>
        have HT : Hid (l.any (leads at_) = (l.drop (k + 1)).any (leads at_)) := by show _ = _; rw [HA.out, HN, hl]; rfl
        clear HN HA hc hcp
        go_wp2_with (go_at_call 34; refine (back_any l[k] at_ p _ (by omega) hcr).mono ?_; rintro e w1 ⟨rfl, hb1⟩)
        go_roundw
        case rel => exact ⟨k + 1, by omega, by go_num, hbr.trans (hb1.mono s0), HT⟩
        case measure => simp [intOf]; omega
    · go_wp2
      go_ret
      exact ⟨_, rfl, by rw [HA.out, List.drop_eq_nil_of_le (by omega)]; rfl, hbr⟩

set_option maxHeartbeats 1000000 in
theorem containsFunc_heads (b off len cap at_ p : Nat) (l : List Ins) (w : World) (hlen : l.length = len) (h63 : l.length ≤ 60) (hb : b < w.heap.size) (hp : p < w.heap.size) (hcp : w.cell? ⟨p, 0, none⟩ = some (.int .i64 at_)) (hc : ∀ k (h : k < l.length), InsAt w b (off + k * 6) l[k]) :
    Calls Tryd.prog 35 #[.slice (some ⟨b, off, none⟩) len cap, .func (.func 34) #[] #[.pointer (some ⟨p, 0, none⟩)]] w fun e w' => e = .returned (.bool (l.any (leads at_))) ∧ Below w.heap.size w w' := by
  subst hlen
  go_enter Tryd.func35, Tryd.ntmps35
  go_wp2_with (go_at_call 64; refine (indexFunc_heads b off cap at_ p l _ h63 hb hp hcp hc).mono ?_; rintro e w1 ⟨n, rfl, hn, hb1⟩)
  go_ret
  exact ⟨rfl, hb1⟩

set_option maxHeartbeats 1000000 in
theorem heads_loop (V F : Int) (b off cap : Nat) (c : List Ins) (w : World) (h0 : ckProg V F c = 0) (hL : c.length ≤ 60) (hcap : c.length ≤ cap) (hb : b < w.heap.size) (hc : ∀ k (h : k < c.length), InsAt w b (off + k * 6) c[k]) :
    Calls Tryd.prog 9 #[.agg #[.int .i64 V, .int .i64 F, .slice (some ⟨b, off, none⟩) c.length cap]] w fun e w' => ∃ v, e = .returned (.tuple #[v, .int .i64 0]) ∧ w'.ownsRow w.heap.size 3 1 v (headsTo c c.length).length ((headsTo c c.length).map (.int .i64)) ∧ Below w.heap.size w w' := by
  have hcode : CodeAt w (some ⟨b, off, none⟩) c := .inr ⟨b, off, rfl, hb, hc⟩
  obtain ⟨ti, hi, hz0, hz1, hz2⟩ := info_parts Tryd.info_int
  have hbox : Below w.heap.size w (w.alloc (.cells #[.int .i64 V, .int .i64 F, .slice (some ⟨b, off, none⟩) c.length cap] 24)) := by go_grown
  go_enter Tryd.func9, Tryd.ntmps9
  go_wp2_with (go_at_call 14; refine (codeCheck_any V F _ _ c _ (hcode.below hbox (Nat.le_refl _))).mono ?_; rintro e w1 ⟨rfl, hb1⟩; have q2 : w1.cell? ⟨w.heap.size, 2, none⟩ = some (.slice (some ⟨b, off, none⟩) c.length cap) := (by rw [hb1.cell (by simp)]; simp [go_sem]))
  go_loopw [5, 16] (fun o i wr => ∃ k : Nat, k ≤ c.length ∧ i = .int .i64 k ∧ wr.ownsRow (w.heap.size + 1) 3 1 o (headsTo c k).length ((headsTo c k).map (.int .i64)) ∧ Below (w.heap.size + 1) (w.alloc (.cells #[.int .i64 V, .int .i64 F, .slice (some ⟨b, off, none⟩) c.length cap] 24)) wr) (fun _ i _ => c.length - (intOf i).toNat)
  case atStart => exact ⟨0, Nat.zero_le _, rfl, ⟨by simp [headsTo], .inl ⟨rfl, by simp [headsTo]⟩⟩, hb1.mono (by simp)⟩
  case round =>
    obtain ⟨k, hk, rfl, hown, hbr⟩ := hrel
    have q3 : wr.cell? ⟨w.heap.size, 2, none⟩ = some (.slice (some ⟨b, off, none⟩) c.length cap) := by rw [hbr.cell (by simp)]; simp [go_sem]
    have s1 : w.heap.size + 1 ≤ wr.heap.size := by have := hbr.size; simp at this; omega
    by_cases hlt : k < c.length
    · have n0 : (0 : Int) ≤ (k : Int) := by omega
      have n1 : (k : Int) < (c.length : Int) := by omega
      have n2 : (k : Int) ≤ (c.length : Int) := by omega
      have s2 : w.heap.size < wr.heap.size := by omega
      have n3 : (k : Int) < (cap : Int) := by omega
      have n4 : k < cap := by omega
      have hbe : Below w.heap.size w wr := hbox.trans (hbr.mono (by omega))
      have hba : Below wr.heap.size wr (wr.alloc (.cells #[.int .i64 (k : Int)] 3)) := by go_grown
      have hci : ∀ j (h : j < (c.drop k).length), InsAt (wr.alloc (.cells #[.int .i64 (k : Int)] 3)) b (off + k * 6 + j * 6) (c.drop k)[j] := by
        intro j h
        have hj : k + j < c.length := by simp at h; omega
        have := ((hc (k + j) hj).below hbe hb).below hba (by omega)
        rw [show off + k * 6 + j * 6 = off + (k + j) * 6 by omega]
        simpa using this
      have hlen : (c.drop k).length = c.length - k := by simp
      have HS := headsTo_succ c k
      have hcell : (wr.alloc (.cells #[.int .i64 (k : Int)] 3)).cell? ⟨wr.heap.size, 0, none⟩ = some (.int .i64 (k : Int)) := by simp [go_sem]
      cases hh : isHead c k with
      | false =>
        have hh' : (c.drop k).any (leads k) = false := hh
        rw [hh] at HS
        simp only [Bool.false_eq_true, if_false, List.append_nil] at HS
        have HS' : Hid (headsTo c (k + 1) = headsTo c k) := HS
        clear HS hc
        go_wp2_with (go_at_call 35; refine (containsFunc_heads b (off + k * 6) (c.length - k) (cap - k) k wr.heap.size (c.drop k) _ hlen (by omega) (by simp; omega) (by simp) hcell hci).mono ?_; rintro e w2 ⟨rfl, hb2⟩)
        go_roundw
        case rel => exact ⟨k + 1, by omega, by go_num, by rw [HS'.out]; exact ownsRow_of_block hown (fun j hj => by rw [hb2.block j (by have := (ownsRow_block_lt hown hj).1; simp; omega), hba.block j (ownsRow_block_lt hown hj).1]), (hbr.alloc s1 _).trans (hb2.mono (by simp; omega))⟩
        case measure => simp [intOf]; omega
      | true =>
        have hh' : (c.drop k).any (leads k) = true := hh
        rw [hh] at HS
        simp only [if_true] at HS
        have HS' : Hid (headsTo c (k + 1) = headsTo c k ++ [(k : Int)]) := HS
        have hln := headsTo_length c k
        clear HS hc
        go_wp2_with (first
          | (go_at_call 35; refine (containsFunc_heads b (off + k * 6) (c.length - k) (cap - k) k wr.heap.size (c.drop k) _ hlen (by omega) (by simp; omega) (by simp) hcell hci).mono ?_; rintro e w2 ⟨rfl, hb2⟩; have hs2 : wr.heap.size < w2.heap.size := (by have := hb2.size; simp at this; omega); have hc2 : w2.cell? ⟨wr.heap.size, 0, none⟩ = some (.int .i64 (k : Int)) := (by rw [hb2.cell (by simp)]; exact hcell); have hown2 : w2.ownsRow (w.heap.size + 1) 3 1 _ (headsTo c k).length ((headsTo c k).map (.int .i64)) := (ownsRow_of_block hown (fun j hj => by rw [hb2.block j (by have := (ownsRow_block_lt hown hj).1; simp; omega), hba.block j (ownsRow_block_lt hown hj).1])))
          | (at_builtin; refine wpList_append_own _ rfl _ _ 28 rfl (w.heap.size + 1) 3 ti (.int .i64 0) 1 8 Tryd.underlying28 hi hz0 hz1 hz2 rfl (by decide) _ _ _ rfl (hown2.alloc _) ⟨w2.heap.size, 0, none⟩ 1 1 [.int .i64 (k : Int)] rfl rfl (cell_one_new _ _ _) (fun x hx => by simp at hx; subst hx; rfl) (by unfold maxLen; omega) (by omega) (by simp; omega) ?_; intro v' w3 hown' hgrow3 hnil3))
        go_roundw
        case rel => exact ⟨k + 1, by omega, by go_num, by rw [HS'.out, List.map_append, List.length_append]; exact hown', (((hbr.alloc s1 _).trans (hb2.mono (by simp; omega))).alloc (by omega) _).grown hgrow3 (by simp; omega) (fun j hj => ownsRow_low hown hj)⟩
        case measure => simp [intOf]; omega
    · go_wp2
      go_ret2
      have hk' : k = c.length := by omega
      subst hk'
      refine ⟨_, rfl, ?_, hbox.trans (hbr.mono (by omega))⟩
      obtain ⟨h1, h2⟩ := hown
      exact ⟨h1, h2.imp id fun ⟨g, cap, cur, r1, r2, r3⟩ => ⟨g, cap, cur, r1, by omega, r3⟩⟩

set_option maxHeartbeats 1000000 in
theorem heads_nil (V F : Int) (s : Option Addr) (cap : Nat) (w : World) (h0 : ckProg V F [] = 0) :
    Calls Tryd.prog 9 #[.agg #[.int .i64 V, .int .i64 F, .slice s 0 cap]] w fun e w' => e = .returned (.tuple #[.slice none 0 0, .int .i64 0]) ∧ Below w.heap.size w w' := by
  have hbox : Below w.heap.size w (w.alloc (.cells #[.int .i64 V, .int .i64 F, .slice s 0 cap] 24)) := by go_grown
  go_enter Tryd.func9, Tryd.ntmps9
  go_wp2_with (go_at_call 14; refine (codeCheck_any V F s cap [] _ (.inl rfl)).mono ?_; rintro e w1 ⟨rfl, hb1⟩; have q2 : w1.cell? ⟨w.heap.size, 2, none⟩ = some (.slice s 0 cap) := (by rw [hb1.cell (by simp)]; simp [go_sem]))
  go_rounds 1
  go_ret2
  exact ⟨rfl, hbox.trans (hb1.mono (by simp))⟩

set_option maxHeartbeats 1000000 in
theorem heads_err (V F : Int) (s : Option Addr) (cap : Nat) (c : List Ins) (w : World) (h : CodeAt w s c) (h0 : ckProg V F c ≠ 0) :
    Calls Tryd.prog 9 #[.agg #[.int .i64 V, .int .i64 F, .slice s c.length cap]] w fun e w' => e = .returned (.tuple #[.slice none 0 0, .int .i64 (ckProg V F c)]) ∧ Below w.heap.size w w' := by
  have hbox : Below w.heap.size w (w.alloc (.cells #[.int .i64 V, .int .i64 F, .slice s c.length cap] 24)) := by go_grown
  have hne : (ckProg V F c != 0) = true := by simpa using h0
  go_enter Tryd.func9, Tryd.ntmps9
  go_wp2_with (go_at_call 14; refine (codeCheck_any V F s cap c _ (h.below hbox (Nat.le_refl _))).mono ?_; rintro e w1 ⟨rfl, hb1⟩)
  go_ret2
  exact ⟨rfl, hbox.trans (hb1.mono (by simp))⟩

/-- What heads are told of a program. -/
def headsAll (V F : Int) (c : List Ins) : List Int := if ckProg V F c = 0 then headsTo c c.length else []

theorem ckProg_len {V F : Int} {c : List Ins} (h : ckProg V F c = 0) : c.length ≤ 60 := by
  unfold ckProg at h
  split at h
  · omega
  · split at h
    · omega
    · omega

/-- The program's heads, whatever it is handed. -/
theorem heads_any (V F : Int) (s : Option Addr) (cap : Nat) (c : List Ins) (w : World) (hcap : c.length ≤ cap) (h : CodeAt w s c) :
    Calls Tryd.prog 9 #[.agg #[.int .i64 V, .int .i64 F, .slice s c.length cap]] w fun e w' => ∃ v, e = .returned (.tuple #[v, .int .i64 (ckProg V F c)]) ∧ w'.ownsRow w.heap.size 3 1 v (headsAll V F c).length ((headsAll V F c).map (.int .i64)) ∧ Below w.heap.size w w' := by
  by_cases h0 : ckProg V F c = 0
  · unfold headsAll
    rw [if_pos h0, h0]
    rcases h with rfl | ⟨b, off, rfl, hb, hc⟩
    · exact (heads_nil V F s cap w h0).mono fun e w' ⟨he, hb⟩ => ⟨_, he, ⟨rfl, .inl ⟨rfl, rfl⟩⟩, hb⟩
    · exact heads_loop V F b off cap c w h0 (ckProg_len h0) hcap hb hc
  · unfold headsAll
    rw [if_neg h0]
    exact (heads_err V F s cap c w h h0).mono fun e w' ⟨he, hb⟩ => ⟨_, he, ⟨rfl, .inl ⟨rfl, rfl⟩⟩, hb⟩
end Go.Proofs.YtmapdpcfanecdaaDoor
