/- What is told of a run that is right, and that a step leaves it right. No program in sight. -/
import Derived.Test.YtmapdpcfanecdaaGreatKpicyp10
import Derived.Test.YtmapdpcfanecdaaGreatKpicyp39
import Derived.Test.YtmapdpcfanecdaaGreatKpicyp09
import Derived.Deep.DeepCutAuto
import Derived.Test.YtmapdpcfanecdaaGreatKpicyp05
namespace Go.Proofs.YtmapdpcfanecdaaGreat
set_option linter.unusedVariables false
set_option linter.unusedSimpArgs false
open Go.RowKit
attribute [local go_sem ↓] Go.wp_at_zero Go.wp_at_succ

set_option maxHeartbeats 2000000 in
set_option maxRecDepth 10000 in
theorem beginP_err (V F : Int) (s : Option Addr) (c : List Ins) (cap : Nat) (w : World) (hcd : CodeAt w s c) (h : ckProg V F c ≠ 0) :
    Calls Tryz.prog 22 #[pv V F s c cap] w fun e w' => PicE w' e zeroPic (ckProg V F c) ∧ Below w.heap.size w w' := by
  have B0 : Below w.heap.size w ((w.alloc (.cells #[.int .i64 V, .int .i64 F, .slice s c.length cap] 24)).alloc (.cells #[.bool false, .slice none 0 0, .slice none 0 0] 58)) := by go_grown
  have P0 := (PrAt.new w V F s c cap).call (w' := ((w.alloc (.cells #[.int .i64 V, .int .i64 F, .slice s c.length cap] 24)).alloc (.cells #[.bool false, .slice none 0 0, .slice none 0 0] 58))) (by go_grown)
  have Z0 := X3.new (w.alloc (.cells #[.int .i64 V, .int .i64 F, .slice s c.length cap] 24)) 58 (.bool false) (.slice none 0 0) (.slice none 0 0)
  rw [World.size_alloc] at Z0
  have HC := hideH (codeCheck_any V F s cap c ((w.alloc (.cells #[.int .i64 V, .int .i64 F, .slice s c.length cap] 24)).alloc (.cells #[.bool false, .slice none 0 0, .slice none 0 0] 58)) (hcd.below B0 (Nat.le_refl _)))
  have d1 : (ckProg V F c != 0) = true := by simpa using h
  generalize ckProg V F c = ce at *
  clear h hcd P0
  go_enter Tryz.func22, Tryz.ntmps22
  go_wp2_with (go_at_call 66; fail)
  refine HC.out.mono ?_
  rintro e w1 ⟨rfl, hb1⟩
  have Z1 := Z0.call hb1
  have B1 := B0.trans (hb1.mono B0.size)
  clear hb1 B0 Z0 HC
  obtain ⟨⟨z0, z1, z2⟩, zz, zf⟩ := id Z1
  have f0 := zf 0
  have f1 := zf 1
  have f2 := zf 2
  clear zf
  go_wp2
  refine bodyPost_ret (v := .tuple #[.agg #[.bool false, .slice none 0 0, .slice none 0 0], .int .i64 ce]) (by simp [results, Tryz.results22, go_sem, z0, z1, z2]) rfl ⟨⟨none, 0, none, 0, rfl, ⟨fun i hi => absurd hi (by simp [zeroPic]), fun i hi => absurd hi (by simp [zeroPic])⟩, ⟨Nat.zero_le _, Nat.zero_le _⟩, Nat.zero_le _, Nat.zero_le _⟩, ?_⟩
  exact ((B1.setCell (by simp only; omega) _).setCell (by simp only; omega) _).setCell (by simp only; omega) _
set_option maxHeartbeats 4000000 in
set_option maxRecDepth 10000 in
theorem beginP_ok (v f : Nat) (s : Option Addr) (c : List Ins) (cap : Nat) (w : World) (hcd : CodeAt w s c) (h : ckProg (v : Int) (f : Int) c = 0) :
    Calls Tryz.prog 22 #[pv (v : Int) (f : Int) s c cap] w fun e w' => PicF w.heap.size w' e (firstPic (v : Int) (f : Int) c) 0 ∧ Below w.heap.size w w' := by
  have efp : firstPic (v : Int) (f : Int) c = ⟨false, List.replicate v nullG, List.replicate c.length (List.replicate f noneG)⟩ := by simp [firstPic]
  rw [efp]
  clear efp
  obtain ⟨⟨_, hv8⟩, ⟨_, hf3⟩, h60⟩ := ckProg_lim h
  obtain ⟨tk, hk, hx0, hx1, hx2⟩ := info_parts Tryz.info_row
  have B0 : Below w.heap.size w ((w.alloc (.cells #[.int .i64 (v : Int), .int .i64 (f : Int), .slice s c.length cap] 24)).alloc (.cells #[.bool false, .slice none 0 0, .slice none 0 0] 58)) := by go_grown
  have P0 := (PrAt.new w (v : Int) (f : Int) s c cap).call (w' := ((w.alloc (.cells #[.int .i64 (v : Int), .int .i64 (f : Int), .slice s c.length cap] 24)).alloc (.cells #[.bool false, .slice none 0 0, .slice none 0 0] 58))) (by go_grown)
  have Z0 := X3.new (w.alloc (.cells #[.int .i64 (v : Int), .int .i64 (f : Int), .slice s c.length cap] 24)) 58 (.bool false) (.slice none 0 0) (.slice none 0 0)
  rw [World.size_alloc] at Z0
  have HC := hideH (codeCheck_any (v : Int) (f : Int) s cap c ((w.alloc (.cells #[.int .i64 (v : Int), .int .i64 (f : Int), .slice s c.length cap] 24)).alloc (.cells #[.bool false, .slice none 0 0, .slice none 0 0] 58)) (hcd.below B0 (Nat.le_refl _)))
  rw [h] at HC
  have HNO := hideH nothingP_any
  have HRF : Hid (∀ wx, Calls Tryz.prog 68 #[.agg #[.bool false, .bool true, .int .i64 0, .int .i64 0, .bool false, .bool false, .slice none 0 0], .int .i64 (f : Int)] wx fun e w' => (∃ rs, e = .returned (.slice rs f f) ∧ GsIn (fun b => wx.heap.size ≤ b) w' rs (List.replicate f noneG)) ∧ Below wx.heap.size wx w') := fun wx => rowG_any noneG rfl f (by omega) wx
  have HRV : Hid (∀ wx, Calls Tryz.prog 68 #[.agg #[.bool true, .bool true, .int .i64 0, .int .i64 0, .bool false, .bool false, .slice none 0 0], .int .i64 (v : Int)] wx fun e w' => (∃ rs, e = .returned (.slice rs v v) ∧ GsIn (fun b => wx.heap.size ≤ b) w' rs (List.replicate v nullG)) ∧ Below wx.heap.size wx w') := fun wx => rowG_any nullG rfl v (by omega) wx
  clear h hcd
  go_enter Tryz.func22, Tryz.ntmps22
  go_wp2_with (go_at_call 66; fail)
  refine HC.out.mono ?_
  rintro e w1 ⟨rfl, hb1⟩
  have Z1 := Z0.call hb1
  have P1 := P0.call hb1
  have B1 := B0.trans (hb1.mono B0.size)
  have z1 : w.heap.size + 1 + 1 ≤ w1.heap.size := by have := hb1.size; simpa using this
  clear hb1 B0 Z0 P0 HC
  go_wp2_with (go_at_call 67; fail)
  refine (HNO.out _).mono ?_
  rintro e w2 ⟨rfl, hb2⟩
  have hb3 : Below w2.heap.size w2 (w2.alloc (.cells #[.bool true, .bool true, .int .i64 0, .int .i64 0, .bool false, .bool false, .slice none 0 0] 29)) := by go_grown
  have hb23 := hb2.trans (hb3.mono hb2.size)
  have Z3 := Z1.call hb23
  have P3 := P1.call hb23
  have B3 := B1.trans (hb23.mono B1.size)
  have z3 : w.heap.size + 1 + 1 ≤ (w2.alloc (.cells #[.bool true, .bool true, .int .i64 0, .int .i64 0, .bool false, .bool false, .slice none 0 0] 29)).heap.size := Nat.le_trans z1 hb23.size
  clear hb2 hb3 hb23 Z1 P1 B1 z1
  obtain ⟨⟨p0, p1, p2⟩, pz⟩ := id P3
  go_wp2_with (go_at_call 68; fail)
  refine (HRV.out _).mono ?_
  rintro e w4 ⟨⟨vs, rfl, GV0⟩, hb4⟩
  clear p0 p1 p2 pz HRV
  have hbx : Below w4.heap.size w4 (w4.alloc (.cells #[.bool false, .slice vs v v, .slice none 0 0] 58)) := by go_grown
  have hb45 := hb4.trans (hbx.mono hb4.size)
  have Z5 := Z3.call hb45
  have P5 := P3.call hb45
  have B5 := B3.trans (hb45.mono B3.size)
  have U5 := X3.new w4 58 (.bool false) (.slice vs v v) (.slice none 0 0)
  have z5 : w.heap.size + 1 + 1 ≤ w4.heap.size := Nat.le_trans z3 hb4.size
  have GV5 : GsIn (fun b => w.heap.size + 1 + 1 ≤ b ∧ b < w4.heap.size + 1 ∧ b ≠ w4.heap.size) (w4.alloc (.cells #[.bool false, .slice vs v v, .slice none 0 0] 58)) vs (List.replicate v nullG) := (GV0.mono (S' := fun b => w.heap.size + 1 + 1 ≤ b ∧ b < w4.heap.size + 1 ∧ b ≠ w4.heap.size) fun b h1 h2 => ⟨Nat.le_trans z3 h1, by omega, by omega⟩).call hbx
  have e5 : w4.heap.size + 1 ≤ (w4.alloc (.cells #[.bool false, .slice vs v v, .slice none 0 0] 58)).heap.size := by simp
  have l5 : w4.heap.size < w4.heap.size + 1 := by omega
  clear hb4 hbx hb45 Z3 P3 B3 z3 GV0
  obtain ⟨⟨p0, p1, p2⟩, pz⟩ := id P5
  go_wp2
  clear p0 p1 p2 pz
  generalize w4.alloc (.cells #[.bool false, .slice vs v v, .slice none 0 0] 58) = w5 at *
  generalize w4.heap.size + 1 = N at *
  generalize w4.heap.size = zb at *
  go_loopw [23] (fun i wr => ∃ (k : Nat) (fs : Option Addr) (fc : Nat) (L : List Rw), k ≤ c.length ∧ i = .int .i64 k ∧ PrAt wr w.heap.size (v : Int) (f : Int) s c cap ∧ X3 wr (w.heap.size + 1) (.bool false) (.slice none 0 0) (.slice none 0 0) ∧ X3 wr zb (.bool false) (.slice vs v v) (.slice fs L.length fc) ∧ FRow wr N (.slice fs L.length fc) L ∧ Hid (L.map Rw.l = List.replicate k (List.replicate f noneG)) ∧ GsIn (fun b => w.heap.size + 1 + 1 ≤ b ∧ b < N ∧ b ≠ zb) wr vs (List.replicate v nullG) ∧ Below w.heap.size w wr ∧ N ≤ wr.heap.size) (fun i _ => c.length - (intOf i).toNat)
  case atStart => exact ⟨0, none, 0, [], Nat.zero_le _, rfl, P5, Z5, U5, FRow.nil _ _, rfl, GV5, B5, e5⟩
  case round =>
    clear P5 Z5 U5 GV5 B5 e5
    obtain ⟨k, fs, fc, L, hk1, rfl, PR, ZR, UR, FR, HL, GV, LR, zr⟩ := hrel
    have LL : Hid (L.length = k) := by
      show _ = _
      have h1 := congrArg List.length HL.out
      simpa using h1
    by_cases hlt : k < c.length
    · have n0 : (0 : Int) ≤ (k : Int) := by omega
      have n1 : (k : Int) < (c.length : Int) := by omega
      obtain ⟨⟨p0, p1, p2⟩, pz⟩ := id PR
      obtain ⟨⟨y0, y1, y2⟩, yz, yf⟩ := id UR
      have HKZ : Hid (∀ wx, Below N wr wx → wx.cell? ⟨w.heap.size, 1, none⟩ = some (.int .i64 (f : Int)) ∧ wx.cell? ⟨zb, 2, none⟩ = some (.slice fs L.length fc)) := fun wx hx => ⟨by rw [hx.cell (by simp only; omega)]; exact p1, by rw [hx.cell (by simp only; omega)]; exact y2⟩
      have HD : Below wr.heap.size wr wr.drew := (Below.refl _ _).drew
      go_upto_region 9 with fail
      clear p0 p1 p2 pz y0 y1 y2 yz yf
      refine wp_region_z (S := (fun wx => wx.cell? ⟨w.heap.size, 1, none⟩ = some (.int .i64 (f : Int)) ∧ wx.cell? ⟨zb, 2, none⟩ = some (.slice fs L.length fc))) [9] (by kernel_rfl) (HKZ.out _ (HD.mono zr)) (fun hHeld => ?_)
      refine tkZ 0 ?_ ?_ ?_
      rotate_left
      · exact rn
      (try simp only [Act.put, List.getElem_toArray, List.getElem_cons_zero, List.getElem_cons_succ, List.setIfInBounds_toArray, List.set_cons_zero, List.set_cons_succ])
      refine tkZ 1 ?_ ?_ ?_
      rotate_left
      · exact rn
      (try simp only [Act.put, List.getElem_toArray, List.getElem_cons_zero, List.getElem_cons_succ, List.setIfInBounds_toArray, List.set_cons_zero, List.set_cons_succ])
      refine tkZ 3 ?_ ?_ ?_
      rotate_left
      · exact rn
      (try simp only [Act.put, List.getElem_toArray, List.getElem_cons_zero, List.getElem_cons_succ, List.setIfInBounds_toArray, List.set_cons_zero, List.set_cons_succ])
      refine tkZ 4 ?_ ?_ ?_
      rotate_left
      · exact rn
      (try simp only [Act.put, List.getElem_toArray, List.getElem_cons_zero, List.getElem_cons_succ, List.setIfInBounds_toArray, List.set_cons_zero, List.set_cons_succ])
      refine wpAnyZ_one (i := 2) rfl (by kernel_rfl) (fun K hK => ?_)
      go_simp
      go_at_call 67
      refine (HNO.out _).mono ?_
      rintro e w4 ⟨rfl, hb4⟩
      have HW4 : Below wr.heap.size wr w4 := HD.trans (hb4.mono HD.size)
      have HB4 : Below N wr w4 := HW4.mono zr
      go_wp2_with fail
      refine hK.out _ _ (HKZ.out _ HB4) (fun hHeld => ?_)
      clear hK K
      (try simp only [Act.put, List.getElem_toArray, List.getElem_cons_zero, List.getElem_cons_succ, List.setIfInBounds_toArray, List.set_cons_zero, List.set_cons_succ])
      refine wpAnyZ_one (i := 5) rfl (by kernel_rfl) (fun K hK => ?_)
      go_simp
      go_at_call 68
      refine (HRF.out _).mono ?_
      rintro e w5 ⟨⟨rs, rfl, GR⟩, hb5⟩
      have HW5 : Below wr.heap.size wr w5 := HW4.trans (hb5.mono HW4.size)
      have HB5 : Below N wr w5 := HW5.mono zr
      go_wp2_with fail
      refine hK.out _ _ (HKZ.out _ HB5) (fun hHeld => ?_)
      clear hK K
      (try simp only [Act.put, List.getElem_toArray, List.getElem_cons_zero, List.getElem_cons_succ, List.setIfInBounds_toArray, List.set_cons_zero, List.set_cons_succ])
      refine wpAnyZ_one (i := 6) rfl (by kernel_rfl) (fun K hK => ?_)
      go_simp
      have HW6 : Below wr.heap.size wr (w5.alloc (.cells #[.slice rs f f] 41)) := HW5.alloc HW5.size _
      have HB6 : Below N wr (w5.alloc (.cells #[.slice rs f f] 41)) := HW6.mono zr
      refine hK.out _ _ (HKZ.out _ HB6) (fun hHeld => ?_)
      clear hK K
      (try simp only [Act.put, List.getElem_toArray, List.getElem_cons_zero, List.getElem_cons_succ, List.setIfInBounds_toArray, List.set_cons_zero, List.set_cons_succ])
      refine wpAnyZ_one (i := 7) rfl (by kernel_rfl) (fun K hK => ?_)
      have F6 := FR.call HW6
      have RX : RwIn (fun b => N ≤ b ∧ (Value.slice fs L.length fc).ownBlock ≠ some b) (w5.alloc (.cells #[.slice rs f f] 41)) ⟨rs, f, List.replicate f noneG⟩ := ⟨(GR.mono fun b h1 _ => ⟨Nat.le_trans zr (Nat.le_trans HW4.size h1), fun e => by have := (ownsI_lt FR.1 e).1; have := HW4.size; omega⟩).call (by go_grown), by simp, by unfold maxLen; simp only; omega⟩
      have hlr : (List.replicate f noneG).length = f := List.length_replicate
      refine step_append_any _ rfl _ _ 56 rfl N 41 tk (.slice none 0 0) 1 24 Tryz.underlying56 hk hx0 hx1 hx2 rfl (by decide) _ _ _ rfl F6.1 (some ⟨w5.heap.size, 0, none⟩) 1 1 [.slice rs f f] rfl rfl (fun h => by cases h) (news1 w5 _ _) (by intro u hu; rw [List.mem_singleton.1 hu]; rfl) (by unfold maxLen; have := LL.out; omega) (by have := LL.out; omega) (by rw [World.size_alloc]; have := HW5.size; omega) ?_
      intro v' w7 hown hgrow hat
      have F7 := F6.grown (x := ⟨rs, f, List.replicate f noneG⟩) RX (by unfold rwV; rw [hlr]; exact hown) hgrow hat
      have HB7 : Below N wr w7 := HB6.grown hgrow (by rw [World.size_alloc]; have := HW5.size; omega) (fun k hk => (ownsI_lt F6.1 hk).2)
      obtain ⟨fs', fc', rfl, -, -, -⟩ := F7.rows
      refine hK.out _ _ (HKZ.out _ HB7) (fun hHeld => ?_)
      clear hK K hown hgrow hat F6 RX HB6 HW6 HB5 HW5 GR hlr
      (try simp only [Act.put, List.getElem_toArray, List.getElem_cons_zero, List.getElem_cons_succ, List.setIfInBounds_toArray, List.set_cons_zero, List.set_cons_succ])
      refine tkZ 8 ?_ ?_ ?_
      rotate_left
      · exact rn
      (try simp only [Act.put, List.getElem_toArray, List.getElem_cons_zero, List.getElem_cons_succ, List.setIfInBounds_toArray, List.set_cons_zero, List.set_cons_succ])
      refine wpAnyZ_last (i := 9) rfl (by kernel_rfl) (by kernel_rfl) (fun K hK => ?_)
      have U7 : X3 w7 zb _ _ _ := UR.same (HB7.block _ (by omega)) HB7.size
      obtain ⟨⟨y0, y1, y2⟩, yz, yf⟩ := id U7
      have yf2 := yf 2
      clear yf
      go_simp
      refine hK.out _ _ ?_
      clear hK K
      (try simp only [Act.put, List.getElem_toArray, List.getElem_cons_zero, List.getElem_cons_succ, List.setIfInBounds_toArray, List.set_cons_zero, List.set_cons_succ])
      refine wpAnyZ_done (by kernel_rfl) ?_ _
      clear y0 y1 y2 yz yf2
      have P7 := PR.low HB7 (by omega)
      have Z7 : X3 w7 (w.heap.size + 1) (.bool false) (.slice none 0 0) (.slice none 0 0) := ZR.same (HB7.block _ (by omega)) HB7.size
      have V7 := GV.same (w' := w7) (fun b hS _ => HB7.block b hS.2.1) HB7.size
      have L7 := LR.trans (HB7.mono (by omega))
      have z7 : N ≤ w7.heap.size := Nat.le_trans zr HB7.size
      have E7 : Hid (∀ (x : Value) b, b ≠ zb → (w7.setCell ⟨zb, 2, none⟩ x).heap[b]? = w7.heap[b]?) := fun x b hb => Below.heap_setCell _ _ _ _ hb
      have S7 : Hid (∀ (x : Value), w7.heap.size ≤ (w7.setCell ⟨zb, 2, none⟩ x).heap.size) := fun x => by simp [World.setCell]
      clear PR ZR UR FR LR zr HKZ GV HB7
      go_wp2
      go_roundw
      case rel => exact ⟨k + 1, fs', fc', L ++ [⟨rs, f, List.replicate f noneG⟩], by omega, by go_num, P7.far (by simp only; omega) _, Z7.same (E7.out _ _ (by omega)) (S7.out _), by first | exact U7.put2 _ | (rw [List.length_append]; exact U7.put2 _), F7.old (fun b hb => E7.out _ b (by omega)) (S7.out _), by show _ = _; rw [List.map_append, HL.out, List.replicate_succ']; rfl, V7.same (fun b hS _ => E7.out _ b hS.2.2) (S7.out _), L7.setCell (by simp only; omega) _, by simpa [World.setCell] using z7⟩
      case measure => simp [intOf]; omega
    · have n1' : ¬ (k : Int) < (c.length : Int) := by omega
      have ek : k = c.length := by omega
      have ELL : Hid (L.length = c.length) := by show _ = _; rw [LL.out, ek]
      have hch : ∀ b, b ≠ w.heap.size + 1 → (((wr.setCell ⟨w.heap.size + 1, 0, none⟩ (.bool false)).setCell ⟨w.heap.size + 1, 1, none⟩ (.slice vs v v)).setCell ⟨w.heap.size + 1, 2, none⟩ (.slice fs L.length fc)).heap[b]? = wr.heap[b]? := fun b hb => by rw [Below.heap_setCell _ _ _ _ hb, Below.heap_setCell _ _ _ _ hb, Below.heap_setCell _ _ _ _ hb]
      have hcz : wr.heap.size ≤ (((wr.setCell ⟨w.heap.size + 1, 0, none⟩ (.bool false)).setCell ⟨w.heap.size + 1, 1, none⟩ (.slice vs v v)).setCell ⟨w.heap.size + 1, 2, none⟩ (.slice fs L.length fc)).heap.size := by simp [World.setCell]
      have FX := FR.old (w' := (((wr.setCell ⟨w.heap.size + 1, 0, none⟩ (.bool false)).setCell ⟨w.heap.size + 1, 1, none⟩ (.slice vs v v)).setCell ⟨w.heap.size + 1, 2, none⟩ (.slice fs L.length fc))) (fun b hb => hch b (by omega)) hcz
      have GX := GV.same (w' := (((wr.setCell ⟨w.heap.size + 1, 0, none⟩ (.bool false)).setCell ⟨w.heap.size + 1, 1, none⟩ (.slice vs v v)).setCell ⟨w.heap.size + 1, 2, none⟩ (.slice fs L.length fc))) (fun b hS _ => hch b (by omega)) hcz
      have BX : Below w.heap.size w (((wr.setCell ⟨w.heap.size + 1, 0, none⟩ (.bool false)).setCell ⟨w.heap.size + 1, 1, none⟩ (.slice vs v v)).setCell ⟨w.heap.size + 1, 2, none⟩ (.slice fs L.length fc)) := ((LR.setCell (by simp only; omega) _).setCell (by simp only; omega) _).setCell (by simp only; omega) _
      have HFX : Hid (∀ wz : World, (∀ b, w.heap.size ≤ b → b < (((wr.setCell ⟨w.heap.size + 1, 0, none⟩ (.bool false)).setCell ⟨w.heap.size + 1, 1, none⟩ (.slice vs v v)).setCell ⟨w.heap.size + 1, 2, none⟩ (.slice fs L.length fc)).heap.size → wz.heap[b]? = (((wr.setCell ⟨w.heap.size + 1, 0, none⟩ (.bool false)).setCell ⟨w.heap.size + 1, 1, none⟩ (.slice vs v v)).setCell ⟨w.heap.size + 1, 2, none⟩ (.slice fs L.length fc)).heap[b]?) → (((wr.setCell ⟨w.heap.size + 1, 0, none⟩ (.bool false)).setCell ⟨w.heap.size + 1, 1, none⟩ (.slice vs v v)).setCell ⟨w.heap.size + 1, 2, none⟩ (.slice fs L.length fc)).heap.size ≤ wz.heap.size → GsAt wz vs (List.replicate v nullG) ∧ RowsAt wz fs (List.replicate c.length (List.replicate f noneG))) := fun wz hs hz => by
        obtain ⟨fs0, fc0, e0, hk0, hk00, RW0⟩ := (FX.olden (w' := wz) (fun b hb hlt => hs b (by omega) hlt) hz).rows
        cases e0
        rw [HL.out, ek] at RW0
        exact ⟨(GX.same (fun b hS hlt => hs b (by have := hS.1; omega) hlt) hz).at, RW0⟩
      have CFX : Hid (L.length ≤ fc ∧ fc ≤ maxLen) := by
        obtain ⟨fs0, fc0, e0, hk0, hk00, -⟩ := FR.rows
        cases e0
        exact ⟨hk0, hk00⟩
      obtain ⟨⟨y0, y1, y2⟩, yz, yf⟩ := id UR
      obtain ⟨⟨d0, d1, d2⟩, dz, df⟩ := id ZR
      have f0 := df 0
      have f1 := df 1
      have f2 := df 2
      clear df yf hch hcz FX GX ek
      go_wp2
      refine bodyPost_ret (v := .tuple #[.agg #[.bool false, .slice vs v v, .slice fs L.length fc], .int .i64 0]) (by simp [results, Tryz.results22, go_sem, d0, d1, d2]) rfl ⟨?_, BX⟩
      refine ⟨vs, v, fs, fc, ?_, fun wz hs hz => HFX.out wz hs hz, ⟨by simp, by unfold maxLen; omega⟩, by rw [List.length_replicate, ← ELL.out]; exact CFX.out⟩
      rw [ELL.out]
      simp
theorem beginPU (V F : Int) (s : Option Addr) (c : List Ins) (cap : Nat) (w : World) (hcd : CodeAt w s c) :
    Calls Tryz.prog 22 #[pv V F s c cap] w fun e w' => PicF w.heap.size w' e (if ckProg V F c = 0 then firstPic V F c else zeroPic) (ckProg V F c) ∧ Below w.heap.size w w' := by
  by_cases h : ckProg V F c = 0
  · rw [if_pos h, h]
    obtain ⟨⟨hV, _⟩, ⟨hF, _⟩, _⟩ := ckProg_lim h
    obtain ⟨v, rfl⟩ := Int.eq_ofNat_of_zero_le (show 0 ≤ V by omega)
    obtain ⟨f, rfl⟩ := Int.eq_ofNat_of_zero_le hF
    exact beginP_ok v f s c cap w hcd h
  · rw [if_neg h]
    refine (beginP_err V F s c cap w hcd h).mono ?_
    rintro e w1 ⟨⟨us, uc, gs, gc, he, -, hcp⟩, hb⟩
    exact ⟨⟨us, uc, gs, gc, he, fun wz _ _ => ⟨fun i hi => absurd hi (by simp [zeroPic]), fun i hi => absurd hi (by simp [zeroPic])⟩, hcp⟩, hb⟩
end Go.Proofs.YtmapdpcfanecdaaGreat

namespace Go.Proofs.YtmapdpcfanecdaaGreat
set_option linter.unusedVariables false
set_option linter.unusedSimpArgs false

theorem okValB_iff {T : Nat} {v : Val} : okValB T v = true ↔ okVal T v := by
  unfold okValB okVal btw
  simp only [Bool.or_eq_true, Bool.and_eq_true, decide_eq_true_eq]
  constructor
  · rintro (h | h | h | h)
    · exact .inl h
    · exact .inr (.inl ⟨h.1, h.2⟩)
    · exact .inr (.inr (.inl ⟨h.1, by omega⟩))
    · exact .inr (.inr (.inr ⟨h.1, by omega, by omega⟩))
  · rintro (h | h | h | h)
    · exact .inl h
    · exact .inr (.inl ⟨h.1, h.2⟩)
    · exact .inr (.inr (.inl ⟨h.1, by omega⟩))
    · exact .inr (.inr (.inr ⟨h.1, by omega, by omega⟩))

/-- A run that is right. -/
structure RunOk (V F : Int) (c : List Ins) (r : St) : Prop where
  at0 : 0 ≤ r.at_
  at1 : r.at_ ≤ c.length
  tk : 0 ≤ r.taken
  fin0 : 0 ≤ r.fin
  fin5 : r.fin ≤ 5
  vars : (r.vars.length : Int) = V
  things : r.things.length ≤ 100
  sites : ∀ t ∈ r.things, isNew c t.site = true
  fields : ∀ t ∈ r.things, (t.fs.length : Int) = F
  vals : ∀ v ∈ r.vars, okVal r.things.length v
  fvals : ∀ t ∈ r.things, ∀ v ∈ t.fs, okVal r.things.length v

theorem ckRun_ok {V F : Int} {c : List Ins} {r : St} (h : ckRun V F c r = 0) : RunOk V F c r := by
  unfold ckRun at h
  split at h
  · cases h
  rename_i h1
  split at h
  · cases h
  rename_i h2
  split at h
  · cases h
  rename_i h3
  split at h
  · cases h
  rename_i h4
  split at h
  · cases h
  rename_i h5
  split at h
  · cases h
  rename_i h6
  simp only [btw, Bool.or_eq_true, Bool.not_eq_true', decide_eq_false_iff_not, decide_eq_true_eq, not_or, Decidable.not_not] at h1
  simp only [ne_eq, Decidable.not_not] at h2
  simp only [Bool.not_eq_false, List.all_eq_true, decide_eq_true_eq, Bool.and_eq_true] at h4 h5 h6
  exact ⟨by omega, by omega, by omega, by omega, by omega, h2, by omega, h4, h5, fun v hv => okValB_iff.1 (h6.1 v hv), fun t ht v hv => okValB_iff.1 (h6.2 t ht v hv)⟩

section
variable {V F L : Int} {i : Ins}
end

theorem ckAll_mem {V F L : Int} {c : List Ins} (h : ckAll V F L c = 0) : ∀ i ∈ c, ckOne V F L i = 0 := by
  induction c with
  | nil => intro i hi; cases hi
  | cons x r ih =>
    unfold ckAll at h
    split at h
    · rename_i hx
      intro i hi
      rcases List.mem_cons.1 hi with rfl | hi
      · exact hx
      · exact ih h i hi
    · rename_i hx; exact absurd h hx
structure ProgOk (V F : Int) (c : List Ins) : Prop where
  v1 : 1 ≤ V
  v8 : V ≤ 8
  f0 : 0 ≤ F
  f3 : F ≤ 3
  len : c.length ≤ 60
  each : ∀ i ∈ c, ckOne V F c.length i = 0
theorem progOk_of {V F : Int} {c : List Ins} (h : ckProg V F c = 0) : ProgOk V F c := by
  unfold ckProg at h
  split at h
  · cases h
  rename_i h1
  split at h
  · cases h
  rename_i h2
  simp [btw] at h1
  exact ⟨by omega, by omega, by omega, by omega, by omega, ckAll_mem h⟩

theorem insAt_eq {c : List Ins} {p : Nat} (h : p < c.length) : insAt c (p : Int) = c[p] := by
  unfold insAt
  simp [List.getD, List.getElem?_eq_getElem h]
end Go.Proofs.YtmapdpcfanecdaaGreat
