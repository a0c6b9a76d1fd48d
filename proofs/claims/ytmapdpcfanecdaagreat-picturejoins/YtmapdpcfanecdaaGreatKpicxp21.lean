/- The document's own answer: the picture of all beginnings. -/
import Derived.Test.YtmapdpcfanecdaaGreatKpicxp20
import Derived.Test.YtmapdpcfanecdaaGreatKpicxp07
import Derived.Deep.DeepCutAuto
import Derived.Deep.RegionHeldLaw
namespace Go.Proofs.YtmapdpcfanecdaaGreat
set_option linter.unusedVariables false
set_option linter.unusedSimpArgs false
open Go.RowKit
attribute [local go_sem ↓] Go.wp_at_zero Go.wp_at_succ

set_option maxHeartbeats 16000000 in
set_option maxRecDepth 20000 in
theorem firstOf_any (v f : Nat) (s : Option Addr) (c : List Ins) (cap : Nat) (w : World) (hv8 : v ≤ 8) (hf3 : f ≤ 3) (h60 : c.length ≤ 60) :
    Calls Tryz.prog 28 #[pv (v : Int) (f : Int) s c cap] w fun e w' => PicRF w.heap.size w' e (firstPic (v : Int) (f : Int) c) ∧ Below w.heap.size w w' := by
  have efp : firstPic (v : Int) (f : Int) c = ⟨false, List.replicate v nullG, List.replicate c.length (List.replicate f noneG)⟩ := by simp [firstPic]
  rw [efp]
  clear efp
  obtain ⟨ti, hi, hz0, hz1, hz2⟩ := info_parts Tryz.info_guess
  obtain ⟨tk, hk, hx0, hx1, hx2⟩ := info_parts Tryz.info_row
  have HN : Hid (∀ wx, Calls Tryz.prog 60 #[] wx fun e w' => e = .returned (.agg #[.bool false, .bool true, .int .i64 0, .int .i64 0, .bool false, .bool false, .slice none 0 0]) ∧ Below wx.heap.size wx w') := fun wx => nothingR_any wx
  have hb0 : Below w.heap.size w (((w.alloc (.cells #[.int .i64 (v : Int), .int .i64 (f : Int), .slice s c.length cap] 24)).alloc (.cells #[.bool false, .slice none 0 0, .slice none 0 0] 58)).alloc (.cells #[.bool false, .slice none 0 0, .slice none 0 0] 58)) := by go_grown
  have P0 := (PrAt.new w (v : Int) (f : Int) s c cap).call (w' := (((w.alloc (.cells #[.int .i64 (v : Int), .int .i64 (f : Int), .slice s c.length cap] 24)).alloc (.cells #[.bool false, .slice none 0 0, .slice none 0 0] 58)).alloc (.cells #[.bool false, .slice none 0 0, .slice none 0 0] 58))) (by go_grown)
  have A0 := (X3.new (w.alloc (.cells #[.int .i64 (v : Int), .int .i64 (f : Int), .slice s c.length cap] 24)) 58 (.bool false) (.slice none 0 0) (.slice none 0 0)).call (w' := (((w.alloc (.cells #[.int .i64 (v : Int), .int .i64 (f : Int), .slice s c.length cap] 24)).alloc (.cells #[.bool false, .slice none 0 0, .slice none 0 0] 58)).alloc (.cells #[.bool false, .slice none 0 0, .slice none 0 0] 58))) (by go_grown)
  have Z0 := X3.new ((w.alloc (.cells #[.int .i64 (v : Int), .int .i64 (f : Int), .slice s c.length cap] 24)).alloc (.cells #[.bool false, .slice none 0 0, .slice none 0 0] 58)) 58 (.bool false) (.slice none 0 0) (.slice none 0 0)
  have z0 : w.heap.size + 1 + 1 + 1 ≤ (((w.alloc (.cells #[.int .i64 (v : Int), .int .i64 (f : Int), .slice s c.length cap] 24)).alloc (.cells #[.bool false, .slice none 0 0, .slice none 0 0] 58)).alloc (.cells #[.bool false, .slice none 0 0, .slice none 0 0] 58)).heap.size := by simp
  rw [World.size_alloc] at A0
  rw [World.size_alloc, World.size_alloc] at Z0
  go_enter Tryz.func28, Tryz.ntmps28
  go_upto_region 2 with fail
  generalize (((w.alloc (.cells #[.int .i64 (v : Int), .int .i64 (f : Int), .slice s c.length cap] 24)).alloc (.cells #[.bool false, .slice none 0 0, .slice none 0 0] 58)).alloc (.cells #[.bool false, .slice none 0 0, .slice none 0 0] 58)) = w1 at *
  go_wp2
  go_loopw [4] (fun i wr => ∃ (k : Nat) (vs : Option Addr) (vc : Nat) (l : List Gc), k ≤ v ∧ i = .int .i64 k ∧ PrAt wr w.heap.size (v : Int) (f : Int) s c cap ∧ X3 wr (w.heap.size + 1) (.bool false) (.slice none 0 0) (.slice none 0 0) ∧ X3 wr (w.heap.size + 1 + 1) (.bool false) (.slice vs l.length vc) (.slice none 0 0) ∧ SRow wr (w.heap.size + 1 + 1 + 1) (.slice vs l.length vc) l ∧ Hid (l.map Gc.g = List.replicate k nullG) ∧ Below w.heap.size w wr ∧ w.heap.size + 1 + 1 + 1 ≤ wr.heap.size) (fun i _ => v - (intOf i).toNat)
  case atStart => exact ⟨0, none, 0, [], Nat.zero_le _, rfl, P0, A0, Z0, SRow.nil _ _, rfl, hb0, z0⟩
  case round =>
    obtain ⟨k, vs, vc, l, hk1, rfl, PR, AR, ZR, SR, HL, BR, zr⟩ := hrel
    clear P0 A0 Z0 hb0 z0
    obtain ⟨⟨p0, p1, p2⟩, pz⟩ := id PR
    have LL : Hid (l.length = k) := by show _ = _; have := congrArg List.length HL.out; simpa using this
    by_cases hlt : k < v
    · have n0 : (0 : Int) ≤ (k : Int) := by omega
      have n1 : (k : Int) < (v : Int) := by omega
      go_wp2_with (go_at_call 60; fail)
      refine (HN.out _).mono ?_
      rintro e w2 ⟨rfl, hb2⟩
      clear p0 p1 p2 pz
      have hb3 : Below w2.heap.size w2 (w2.alloc (.cells #[.bool true, .bool true, .int .i64 0, .int .i64 0, .bool false, .bool false, .slice none 0 0] 29)) := by go_grown
      have G3 : GuAt (w2.alloc (.cells #[.bool true, .bool true, .int .i64 0, .int .i64 0, .bool false, .bool false, .slice none 0 0] 29)) w2.heap.size 0 nullG none 0 := GuAt.new w2 nullG none 0
      have hbz := hb2.trans (hb3.mono hb2.size)
      go_upto_region 7 with fail
      generalize w2.alloc (.cells #[.bool true, .bool true, .int .i64 0, .int .i64 0, .bool false, .bool false, .slice none 0 0] 29) = w3 at *
      generalize w2.heap.size = gb at *
      have P3 := PR.call hbz
      have A3 := AR.call hbz
      have Z3 := ZR.call hbz
      have S3 := SR.call hbz
      have B3 := BR.trans (hbz.mono BR.size)
      have z3 : w.heap.size + 1 + 1 + 1 ≤ w3.heap.size := Nat.le_trans zr hbz.size
      clear PR AR ZR SR BR zr hbz hb2 hb3
      obtain ⟨⟨y0, y1, y2⟩, yz, yf⟩ := id Z3
      obtain ⟨⟨g0, g1, g2, g3, g4, g5, g6⟩, gz⟩ := id G3
      simp only [nullG, List.length_nil, Nat.zero_add] at g0 g1 g2 g3 g4 g5 g6
      have S4 := S3.call (w' := w3.alloc (.cells #[.bool true, .bool true, .int .i64 0, .int .i64 0, .bool false, .bool false, .slice none 0 0] 29)) (by go_grown)
      go_wp2_with (at_builtin; refine wpList_append_any _ rfl _ _ 41 rfl (w.heap.size + 1 + 1 + 1) 29 ti (.agg #[.bool false, .bool false, .int .i64 0, .int .i64 0, .bool false, .bool false, .slice none 0 0]) 7 64 Tryz.underlying41 hi hz0 hz1 hz2 rfl (by decide) _ _ _ rfl S4.1 (some ⟨w3.heap.size, 0, none⟩) 1 1 (gcCells ⟨nullG, none, 0⟩) rfl rfl (fun h => by cases h) ?qa2 (gcCells_one _) ?qa4 ?qa5 ?qa6 ?_)
      (try (case qa2 => exact news7 w3 ⟨nullG, none, 0⟩ #[.bool true, .bool true, .int .i64 0, .int .i64 0, .bool false, .bool false, .slice none 0 0] _ rfl))
      case qa4 => unfold maxLen; have := LL.out; omega
      case qa5 => have := LL.out; omega
      (try (case qa6 => first | omega | (rw [World.size_alloc]; omega) | (simp; omega) | simp))
      intro v' w4 hown hgrow hat
      have S5 := S4.grown (x := ⟨nullG, none, 0⟩) ⟨.inl rfl, Nat.le_refl _, by unfold maxLen; simp⟩ hown hgrow (by rw [World.size_alloc]; exact hat)
      have hb4 : Below (w.heap.size + 1 + 1 + 1) w3 w4 := ((Below.refl _ w3).alloc z3 _).grown hgrow (by simp; omega) (fun k hk => (ownsI_lt S4.1 hk).2)
      obtain ⟨vs', vc', rfl, -, -, -⟩ := S5.in
      clear hown hgrow hat S4 S3 y0 y1 y2 yz yf g0 g1 g2 g3 g4 g5 g6 gz G3
      have P4 : PrAt w4 w.heap.size (v : Int) (f : Int) s c cap := P3.low hb4 (by omega)
      have A4 : X3 w4 (w.heap.size + 1) (.bool false) (.slice none 0 0) (.slice none 0 0) := A3.same (hb4.block _ (by omega)) hb4.size
      have Z4 : X3 w4 (w.heap.size + 1 + 1) (.bool false) (.slice vs l.length vc) (.slice none 0 0) := Z3.same (hb4.block _ (by omega)) hb4.size
      have B4 := B3.trans (hb4.mono (by omega))
      have z4 : w.heap.size + 1 + 1 + 1 ≤ w4.heap.size := Nat.le_trans z3 hb4.size
      clear P3 A3 Z3 B3 z3 hb4
      obtain ⟨⟨y0, y1, y2⟩, yz, yf⟩ := id Z4
      have yf1 := yf 1
      clear yf
      go_wp2
      go_roundw
      case rel => exact ⟨k + 1, vs', vc', l ++ [⟨nullG, none, 0⟩], by omega, by go_num, P4.far (by simp only; omega) _, A4.far (by simp only; omega) _, by rw [List.length_append]; exact Z4.put1 _, S5.old (old_set (by simp only; omega) _).1 (old_set (by simp only; omega) _).2 (B := w.heap.size + 1 + 1 + 1), by show _ = _; rw [List.map_append, HL.out, List.replicate_succ']; rfl, B4.setCell (by simp only; omega) _, by simpa [World.setCell] using z4⟩
      case measure => simp [intOf]; omega
    · have n1 : ¬ (k : Int) < (v : Int) := by omega
      have ek : k = v := by omega
      obtain ⟨vs0, vc0, e0, hk0, hk00, GV0⟩ := SR.in
      cases e0
      have LV : Hid (l.length = v) := by show _ = _; rw [LL.out, ek]
      rw [HL.out, ek] at GV0
      have GV : GsIn (fun b => w.heap.size + 1 + 1 + 1 ≤ b ∧ b < wr.heap.size) wr vs (List.replicate v nullG) := GV0.mono fun b h1 h2 => ⟨h1, h2⟩
      clear GV0 SR LL HL hk0 hk00
      have zn : w.heap.size + 1 + 1 + 1 ≤ wr.heap.size := zr
      generalize hN : wr.heap.size = N at *
      have HNN := hideH hN
      clear hN
      go_wp2
      clear p0 p1 p2 pz
      go_loopw [6] (fun i wx => ∃ (k : Nat) (fs : Option Addr) (fc : Nat) (L : List Rw), k ≤ c.length ∧ i = .int .i64 k ∧ PrAt wx w.heap.size (v : Int) (f : Int) s c cap ∧ X3 wx (w.heap.size + 1) (.bool false) (.slice none 0 0) (.slice none 0 0) ∧ X3 wx (w.heap.size + 1 + 1) (.bool false) (.slice vs l.length vc) (.slice fs L.length fc) ∧ FRow wx N (.slice fs L.length fc) L ∧ Hid (L.map Rw.l = List.replicate k (List.replicate f noneG)) ∧ GsIn (fun b => w.heap.size + 1 + 1 + 1 ≤ b ∧ b < N) wx vs (List.replicate v nullG) ∧ Below w.heap.size w wx ∧ N ≤ wx.heap.size) (fun i _ => c.length - (intOf i).toNat)
      case atStart => exact ⟨0, none, 0, [], Nat.zero_le _, rfl, PR, AR, ZR, FRow.nil _ _, rfl, GV, BR, by rw [HNN.out]; exact Nat.le_refl _⟩
      case round =>
        clear PR AR ZR GV BR zr HNN
        obtain ⟨k2, fs, fc, L, hk2, rfl, PR, AR, ZR, FR, HL, GV, BR, zr⟩ := hrel
        generalize wr = w6 at *
        clear wr
        have LL : Hid (L.length = k2) := by show _ = _; have := congrArg List.length HL.out; simpa using this
        obtain ⟨⟨p0, p1, p2⟩, pz⟩ := id PR
        by_cases hlt2 : k2 < c.length
        · have n2 : (k2 : Int) < (c.length : Int) := by omega
          go_wp2
          clear p0 p1 p2 pz
          go_loopw [7, 8] (fun r j wo => ∃ (m : Nat) (rs : Option Addr) (rc : Nat) (lr : List Gc), m ≤ f ∧ r = .slice rs lr.length rc ∧ j = .int .i64 m ∧ Below w6.heap.size w6 wo ∧ SRow wo w6.heap.size (.slice rs lr.length rc) lr ∧ Hid (lr.map Gc.g = List.replicate m noneG)) (fun _ j _ => f - (intOf j).toNat)
          case atStart => exact ⟨0, none, 0, [], Nat.zero_le _, rfl, rfl, Below.refl _ _, SRow.nil _ _, rfl⟩
          case round =>
            obtain ⟨m, rs, rc, lr, hm, rfl, rfl, hbo, SR, HM⟩ := hrel
            have LM : Hid (lr.length = m) := by show _ = _; have := congrArg List.length HM.out; simpa using this
            obtain ⟨⟨p0, p1, p2⟩, pz⟩ := id (PR.call hbo)
            by_cases hltm : m < f
            · have m1 : (m : Int) < (f : Int) := by omega
              go_wp2_with (go_at_call 60; fail)
              refine (HN.out _).mono ?_
              rintro e w7 ⟨rfl, hb7⟩
              clear p0 p1 p2 pz
              have S7 := (SR.call hb7).call (w' := w7.alloc (.cells #[.bool false, .bool true, .int .i64 0, .int .i64 0, .bool false, .bool false, .slice none 0 0] 29)) (by go_grown)
              have hb67 := hbo.trans (hb7.mono hbo.size)
              have z67 : w6.heap.size ≤ w7.heap.size := hb67.size
              go_wp2_with (at_builtin; refine wpList_append_any _ rfl _ _ 41 rfl w6.heap.size 29 ti (.agg #[.bool false, .bool false, .int .i64 0, .int .i64 0, .bool false, .bool false, .slice none 0 0]) 7 64 Tryz.underlying41 hi hz0 hz1 hz2 rfl (by decide) _ _ _ rfl S7.1 (some ⟨w7.heap.size, 0, none⟩) 1 1 (gcCells ⟨noneG, none, 0⟩) rfl rfl (fun h => by cases h) ?qb2 (gcCells_one _) ?qb4 ?qb5 ?qb6 ?_)
              (try (case qb2 => exact news7 w7 ⟨noneG, none, 0⟩ #[.bool false, .bool true, .int .i64 0, .int .i64 0, .bool false, .bool false, .slice none 0 0] _ rfl))
              case qb4 => unfold maxLen; have := LM.out; omega
              case qb5 => have := LM.out; omega
              (try (case qb6 => first | omega | (rw [World.size_alloc]; omega) | (simp; omega) | simp))
              intro v' w8 hown hgrow hat
              have S8 := S7.grown (x := ⟨noneG, none, 0⟩) ⟨.inl rfl, Nat.le_refl _, by unfold maxLen; simp⟩ hown hgrow (by rw [World.size_alloc]; exact hat)
              have hb8 : Below w6.heap.size w6 w8 := (hb67.alloc z67 _).grown hgrow (by simp; omega) (fun k hk => (ownsI_lt S7.1 hk).2)
              obtain ⟨rs', rc', rfl, -, -, -⟩ := S8.in
              clear hown hgrow hat S7 SR hb7 hbo hb67
              go_wp2
              go_roundw
              case rel => exact ⟨m + 1, rs', rc', lr ++ [⟨noneG, none, 0⟩], by omega, by first | rfl | (rw [List.length_append]; rfl), by go_num, hb8, S8, by show _ = _; rw [List.map_append, HM.out, List.replicate_succ']; rfl⟩
              case measure => simp [intOf]; omega
            · have m1 : ¬ (m : Int) < (f : Int) := by omega
              have em : m = f := by omega
              obtain ⟨rs0, rc0, e0, hk0, hk00, GR⟩ := SR.in
              cases e0
              rw [HM.out, em] at GR
              have HLF : Hid (lr.length = (List.replicate f noneG).length) := by show _ = _; rw [LM.out, em, List.length_replicate]
              have A9 := AR.call hbo
              have Z9 := ZR.call hbo
              have F9 := FR.call hbo
              have P9 := PR.call hbo
              have V9 := GV.call hbo
              have B9 := BR.trans (hbo.mono BR.size)
              have z9 : N ≤ wr.heap.size := Nat.le_trans zr hbo.size
              have RX : RwIn (fun b => N ≤ b ∧ (Value.slice fs L.length fc).ownBlock ≠ some b) wr ⟨rs, rc, List.replicate f noneG⟩ := ⟨GR.mono fun b h1 _ => ⟨Nat.le_trans zr h1, fun e => by have := (ownsI_lt FR.1 e).1; omega⟩, by rw [HLF.out] at hk0; exact hk0, hk00⟩
              clear AR ZR FR PR GV BR SR GR hbo zr hk0 hk00 em LM HM p0 p1 p2 pz
              generalize wr = w9 at *
              clear wr
              obtain ⟨⟨y0, y1, y2⟩, yz, yf⟩ := id Z9
              obtain ⟨⟨p0, p1, p2⟩, pz⟩ := id P9
              have F10 := F9.call (w' := w9.alloc (.cells #[.slice rs lr.length rc] 41)) (by go_grown)
              have R10 : RwIn (fun b => N ≤ b ∧ (Value.slice fs L.length fc).ownBlock ≠ some b) (w9.alloc (.cells #[.slice rs lr.length rc] 41)) ⟨rs, rc, List.replicate f noneG⟩ := ⟨RX.1.call (by go_grown), RX.2⟩
              go_wp2_with (at_builtin; refine wpList_append_any _ rfl _ _ 56 rfl N 41 tk (.slice none 0 0) 1 24 Tryz.underlying56 hk hx0 hx1 hx2 rfl (by decide) _ _ _ rfl F10.1 (some ⟨w9.heap.size, 0, none⟩) 1 1 [.slice rs lr.length rc] rfl rfl (fun h => by cases h) ?qc2 (by intro u hu; rw [List.mem_singleton.1 hu]; rfl) ?qc4 ?qc5 ?qc6 ?_)
              (try (case qc2 => exact news1 w9 _ _))
              case qc4 => unfold maxLen; have := LL.out; omega
              case qc5 => have := LL.out; omega
              (try (case qc6 => first | omega | (rw [World.size_alloc]; omega) | (simp; omega) | simp))
              intro v' w10 hown hgrow hat
              rw [HLF.out] at hown
              have F11 := F10.grown (x := ⟨rs, rc, List.replicate f noneG⟩) R10 hown hgrow (by rw [World.size_alloc]; exact hat)
              have hb10 : Below N w9 w10 := ((Below.refl _ w9).alloc z9 _).grown hgrow (by simp; omega) (fun k hk => (ownsI_lt F10.1 hk).2)
              obtain ⟨fs', fc', rfl, -, -, -⟩ := F11.rows
              clear hown hgrow hat F10 F9 R10 RX y0 y1 y2 yz yf p0 p1 p2 pz
              have P4 : PrAt w10 w.heap.size (v : Int) (f : Int) s c cap := P9.low hb10 (by omega)
              have A4 : X3 w10 (w.heap.size + 1) (.bool false) (.slice none 0 0) (.slice none 0 0) := A9.same (hb10.block _ (by omega)) hb10.size
              have Z4 : X3 w10 (w.heap.size + 1 + 1) (.bool false) (.slice vs l.length vc) (.slice fs L.length fc) := Z9.same (hb10.block _ (by omega)) hb10.size
              have V4 : GsIn (fun b => w.heap.size + 1 + 1 + 1 ≤ b ∧ b < N) w10 vs (List.replicate v nullG) := V9.same (fun b hS _ => hb10.block b hS.2) hb10.size
              have B4 := B9.trans (hb10.mono (by omega))
              have z4 : N ≤ w10.heap.size := Nat.le_trans z9 hb10.size
              clear P9 A9 Z9 V9 B9 z9 hb10
              obtain ⟨⟨y0, y1, y2⟩, yz, yf⟩ := id Z4
              have yf2 := yf 2
              clear yf
              go_wp2
              go_roundw
              case rel => exact ⟨k2 + 1, fs', fc', L ++ [⟨rs, rc, List.replicate f noneG⟩], by omega, by go_num, P4.far (by simp only; omega) _, A4.far (by simp only; omega) _, by rw [List.length_append]; exact Z4.put2 _, F11.old (old_set (by simp only; omega) _).1 (old_set (by simp only; omega) _).2 (B := N), by show _ = _; rw [List.map_append, HL.out, List.replicate_succ']; rfl, V4.same (fun b hS _ => Below.heap_setCell _ _ _ _ (by simp only; omega)) (by simp [World.setCell]), B4.setCell (by simp only; omega) _, by simpa [World.setCell] using z4⟩
              case measure => simp [intOf]; omega
        · have n2 : ¬ (k2 : Int) < (c.length : Int) := by omega
          have ek2 : k2 = c.length := by omega
          have ELL : Hid (L.length = c.length) := by show _ = _; rw [LL.out, ek2]
          have hch : ∀ b, b ≠ w.heap.size + 1 → (((w6.setCell ⟨w.heap.size + 1, 0, none⟩ (.bool false)).setCell ⟨w.heap.size + 1, 1, none⟩ (.slice vs l.length vc)).setCell ⟨w.heap.size + 1, 2, none⟩ (.slice fs L.length fc)).heap[b]? = w6.heap[b]? := fun b hb => by rw [Below.heap_setCell _ _ _ _ hb, Below.heap_setCell _ _ _ _ hb, Below.heap_setCell _ _ _ _ hb]
          have hcz : w6.heap.size ≤ (((w6.setCell ⟨w.heap.size + 1, 0, none⟩ (.bool false)).setCell ⟨w.heap.size + 1, 1, none⟩ (.slice vs l.length vc)).setCell ⟨w.heap.size + 1, 2, none⟩ (.slice fs L.length fc)).heap.size := by simp [World.setCell]
          have FX := FR.old (w' := (((w6.setCell ⟨w.heap.size + 1, 0, none⟩ (.bool false)).setCell ⟨w.heap.size + 1, 1, none⟩ (.slice vs l.length vc)).setCell ⟨w.heap.size + 1, 2, none⟩ (.slice fs L.length fc))) (fun b hb => hch b (by omega)) hcz
          have GX := GV.same (w' := (((w6.setCell ⟨w.heap.size + 1, 0, none⟩ (.bool false)).setCell ⟨w.heap.size + 1, 1, none⟩ (.slice vs l.length vc)).setCell ⟨w.heap.size + 1, 2, none⟩ (.slice fs L.length fc))) (fun b hS _ => hch b (by omega)) hcz
          have BX : Below w.heap.size w (((w6.setCell ⟨w.heap.size + 1, 0, none⟩ (.bool false)).setCell ⟨w.heap.size + 1, 1, none⟩ (.slice vs l.length vc)).setCell ⟨w.heap.size + 1, 2, none⟩ (.slice fs L.length fc)) := ((BR.setCell (by simp) _).setCell (by simp) _).setCell (by simp) _
          have HFX : Hid (∀ wz : World, (∀ b, w.heap.size ≤ b → b < (((w6.setCell ⟨w.heap.size + 1, 0, none⟩ (.bool false)).setCell ⟨w.heap.size + 1, 1, none⟩ (.slice vs l.length vc)).setCell ⟨w.heap.size + 1, 2, none⟩ (.slice fs L.length fc)).heap.size → wz.heap[b]? = (((w6.setCell ⟨w.heap.size + 1, 0, none⟩ (.bool false)).setCell ⟨w.heap.size + 1, 1, none⟩ (.slice vs l.length vc)).setCell ⟨w.heap.size + 1, 2, none⟩ (.slice fs L.length fc)).heap[b]?) → (((w6.setCell ⟨w.heap.size + 1, 0, none⟩ (.bool false)).setCell ⟨w.heap.size + 1, 1, none⟩ (.slice vs l.length vc)).setCell ⟨w.heap.size + 1, 2, none⟩ (.slice fs L.length fc)).heap.size ≤ wz.heap.size → GsAt wz vs (List.replicate v nullG) ∧ RowsAt wz fs (List.replicate c.length (List.replicate f noneG))) := fun wz hs hz => by
            obtain ⟨fs0, fc0, e0, hk0, hk00, RW0⟩ := (FX.olden (w' := wz) (fun b hb hlt => hs b (by omega) hlt) hz).rows
            cases e0
            rw [HL.out, ek2] at RW0
            exact ⟨(GX.same (fun b hS hlt => hs b (by have := hS.1; omega) hlt) hz).at, RW0⟩
          obtain ⟨⟨y0, y1, y2⟩, yz, yf⟩ := id ZR
          obtain ⟨⟨a0, a1, a2⟩, az, af⟩ := id AR
          have f0 := af 0
          have f1 := af 1
          have f2 := af 2
          clear af yf hch hcz FX GX
          go_wp2
          refine bodyPost_ret (v := .agg #[.bool false, .slice vs l.length vc, .slice fs L.length fc]) (by simp [results, Tryz.results28, go_sem, a0, a1, a2]) rfl ⟨⟨vs, vc, fs, fc, ?_, fun wz hs hz => HFX.out wz hs hz⟩, BX⟩
          rw [LV.out, ELL.out]
          simp only [List.length_replicate]
end Go.Proofs.YtmapdpcfanecdaaGreat
