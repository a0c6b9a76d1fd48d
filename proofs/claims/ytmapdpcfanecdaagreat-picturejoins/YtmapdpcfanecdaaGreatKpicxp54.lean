/- The law PictureJoins over what it calls. -/
import Derived.Test.YtmapdpcfanecdaaGreatKpicxp53
import Derived.Test.YtmapdpcfanecdaaGreatKpicxp33
import Derived.Test.YtmapdpcfanecdaaGreatKpicxp20
import Derived.Test.YtmapdpcfanecdaaGreatKpicxp07
import Derived.Deep.DeepCutAuto
namespace Go.Proofs.YtmapdpcfanecdaaGreat
set_option linter.unusedVariables false
set_option linter.unusedSimpArgs false
open Go.RowKit
attribute [local go_sem ↓] Go.wp_at_zero Go.wp_at_succ

/-- What the law was handed lies in three blocks, and behind them. -/
def LawX (w : World) (b : Nat) (V F : Int) (s : Option Addr) (c : List Ins) (cap : Nat) (x : Pic) (vs1 : Option Addr) (vc1 : Nat) (fs1 : Option Addr) (fc1 : Nat) (y : Pic) (vs2 : Option Addr) (vc2 : Nat) (fs2 : Option Addr) (fc2 : Nat) : Prop :=
  PrAt w b V F s c cap ∧ XAt w (b + 1) x vs1 vc1 fs1 fc1 ∧ XAt w (b + 1 + 1) y vs2 vc2 fs2 fc2 ∧ CodeAt w s c ∧ PicAt w x vs1 fs1 ∧ PicAt w y vs2 fs2
theorem LawX.below {w w' : World} {b : Nat} {V F : Int} {s : Option Addr} {c : List Ins} {cap : Nat} {x : Pic} {vs1 : Option Addr} {vc1 : Nat} {fs1 : Option Addr} {fc1 : Nat} {y : Pic} {vs2 : Option Addr} {vc2 : Nat} {fs2 : Option Addr} {fc2 : Nat} (l : LawX w b V F s c cap x vs1 vc1 fs1 fc1 y vs2 vc2 fs2 fc2) (hb : Below w.heap.size w w') : LawX w' b V F s c cap x vs1 vc1 fs1 fc1 y vs2 vc2 fs2 fc2 :=
  ⟨l.1.call hb, l.2.1.call hb, l.2.2.1.call hb, l.2.2.2.1.call hb, l.2.2.2.2.1.call hb, l.2.2.2.2.2.call hb⟩
theorem XsAt.call {w w' : World} {ls : Option Addr} {L : List Pic} (h : XsAt w ls L) (hb : Below w.heap.size w w') : XsAt w' ls L := h.below hb (Nat.le_refl _)
/-- Its lengths are lengths. -/
theorem lenPic_of {x : Pic} {vc fc : Nat} (h1 : x.vars.length ≤ vc ∧ vc ≤ maxLen) (h2 : x.flds.length ≤ fc ∧ fc ≤ maxLen) : LenPic x := ⟨Nat.le_trans h1.1 h1.2, Nat.le_trans h2.1 h2.2⟩
set_option maxHeartbeats 16000000 in
set_option maxRecDepth 20000 in
theorem pictureJoins_core (V F : Int) (s : Option Addr) (c : List Ins) (cap : Nat) (x : Pic) (vs1 : Option Addr) (vc1 : Nat) (fs1 : Option Addr) (fc1 : Nat) (y : Pic) (vs2 : Option Addr) (vc2 : Nat) (fs2 : Option Addr) (fc2 : Nat) (u v wv : Int) (Pb J Z : Pic) (isIn : Bool) (w : World) (hcd : CodeAt w s c) (hx : PicAt w x vs1 fs1) (h1 : x.vars.length ≤ vc1 ∧ vc1 ≤ maxLen) (h2 : x.flds.length ≤ fc1 ∧ fc1 ≤ maxLen) (hy : PicAt w y vs2 fs2) (h3 : y.vars.length ≤ vc2 ∧ vc2 ≤ maxLen) (h4 : y.flds.length ≤ fc2 ∧ fc2 ≤ maxLen)
    (HBG : Hid (∀ wx, CodeAt wx s c → Calls Tryz.prog 22 #[pv V F s c cap] wx fun e w' => PicF wx.heap.size w' e Pb u ∧ Below wx.heap.size wx w'))
    (HJN : Hid (∀ wx, CodeAt wx s c → PicAt wx x vs1 fs1 → PicAt wx y vs2 fs2 → Calls Tryz.prog 23 #[pv V F s c cap, xv x vs1 vc1 fs1 fc1, xv y vs2 vc2 fs2 fc2] wx fun e w' => PicF wx.heap.size w' e J wv ∧ Below wx.heap.size wx w'))
    (HWD : Hid (∀ wx, CodeAt wx s c → PicAt wx x vs1 fs1 → PicAt wx y vs2 fs2 → Calls Tryz.prog 24 #[pv V F s c cap, xv x vs1 vc1 fs1 fc1, xv y vs2 vc2 fs2 fc2] wx fun e w' => PicF wx.heap.size w' e Z wv ∧ Below wx.heap.size wx w'))
    (HWI : Hid (∀ wx, CodeAt wx s c → PicAt wx x vs1 fs1 → PicAt wx y vs2 fs2 → Calls Tryz.prog 25 #[pv V F s c cap, xv x vs1 vc1 fs1 fc1, xv y vs2 vc2 fs2 fc2] wx fun e w' => e = .returned (.tuple #[.bool isIn, .int .i64 wv]) ∧ Below wx.heap.size wx w'))
    (HCP : Hid (∀ wx, CodeAt wx s c → Calls Tryz.prog 26 #[pv V F s c cap] wx fun e w' => e = .returned (.int .i64 u) ∧ Below wx.heap.size wx w'))
    (HC1 : Hid (∀ wx ls, CodeAt wx s c → XsAt wx ls [x] → Calls Tryz.prog 27 #[pv V F s c cap, .slice ls 1 1] wx fun e w' => e = .returned (.int .i64 v) ∧ Below wx.heap.size wx w'))
    (HC2 : Hid (∀ wx ls, CodeAt wx s c → XsAt wx ls [x, y] → Calls Tryz.prog 27 #[pv V F s c cap, .slice ls 2 2] wx fun e w' => e = .returned (.int .i64 wv) ∧ Below wx.heap.size wx w'))
    (HFO : Hid (u = 0 → ∀ wx, Calls Tryz.prog 28 #[pv V F s c cap] wx fun e w' => PicRF wx.heap.size w' e Pb ∧ Below wx.heap.size wx w'))
    (HJR : Hid (wv = 0 → ∀ (S : Nat → Prop) wx, PicOn S wx x vs1 fs1 → PicOn S wx y vs2 fs2 → Calls Tryz.prog 29 #[xv x vs1 vc1 fs1 fc1, xv y vs2 vc2 fs2 fc2, .bool false] wx fun e w' => (∃ us uc gs gc, e = .returned (.agg #[.bool J.none, .slice us J.vars.length uc, .slice gs J.flds.length gc]) ∧ PicOn (fun b => S b ∨ wx.heap.size ≤ b) w' J us gs) ∧ Below wx.heap.size wx w'))
    (HWR : Hid (wv = 0 → ∀ (S : Nat → Prop) wx, PicOn S wx x vs1 fs1 → PicOn S wx y vs2 fs2 → Calls Tryz.prog 29 #[xv x vs1 vc1 fs1 fc1, xv y vs2 vc2 fs2 fc2, .bool true] wx fun e w' => (∃ us uc gs gc, e = .returned (.agg #[.bool Z.none, .slice us Z.vars.length uc, .slice gs Z.flds.length gc]) ∧ PicOn (fun b => S b ∨ wx.heap.size ≤ b) w' Z us gs) ∧ Below wx.heap.size wx w'))
    (HIN : Hid (wv = 0 → ∀ wx, PicAt wx x vs1 fs1 → PicAt wx y vs2 fs2 → Calls Tryz.prog 30 #[xv x vs1 vc1 fs1 fc1, xv y vs2 vc2 fs2 fc2] wx fun e w' => e = .returned (.bool isIn) ∧ Below wx.heap.size wx w'))
    (HCK : Hid (∀ wx, CodeAt wx s c → PicAt wx x vs1 fs1 → Calls Tryz.prog 32 #[pv V F s c cap, xv x vs1 vc1 fs1 fc1] wx fun e w' => e = .returned (.int .i64 v) ∧ Below wx.heap.size wx w'))
    (HZ1 : Hid (u ≠ 0 → Pb = zeroPic)) (HZ2 : Hid (wv ≠ 0 → J = zeroPic ∧ Z = zeroPic ∧ isIn = false))
    (HBE : Hid (∀ wx, Calls Tryz.prog 31 #[] wx fun e w' => e = .returned (.bool true) ∧ Below wx.heap.size wx w')) :
    Calls Tryz.prog 5 #[pv V F s c cap, xv x vs1 vc1 fs1 fc1, xv y vs2 vc2 fs2 fc2] w fun e w' => e = .returned (.bool true) ∧ Below w.heap.size w w' := by
  have B0 : Below w.heap.size w (((w.alloc (.cells #[.int .i64 V, .int .i64 F, .slice s c.length cap] 24)).alloc (.cells #[.bool x.none, .slice vs1 x.vars.length vc1, .slice fs1 x.flds.length fc1] 58)).alloc (.cells #[.bool y.none, .slice vs2 y.vars.length vc2, .slice fs2 y.flds.length fc2] 58)) := by go_grown
  have L0 : LawX (((w.alloc (.cells #[.int .i64 V, .int .i64 F, .slice s c.length cap] 24)).alloc (.cells #[.bool x.none, .slice vs1 x.vars.length vc1, .slice fs1 x.flds.length fc1] 58)).alloc (.cells #[.bool y.none, .slice vs2 y.vars.length vc2, .slice fs2 y.flds.length fc2] 58)) w.heap.size V F s c cap x vs1 vc1 fs1 fc1 y vs2 vc2 fs2 fc2 := by
    have X0 := (XAt.new (w.alloc (.cells #[.int .i64 V, .int .i64 F, .slice s c.length cap] 24)) x vs1 vc1 fs1 fc1).call (w' := (((w.alloc (.cells #[.int .i64 V, .int .i64 F, .slice s c.length cap] 24)).alloc (.cells #[.bool x.none, .slice vs1 x.vars.length vc1, .slice fs1 x.flds.length fc1] 58)).alloc (.cells #[.bool y.none, .slice vs2 y.vars.length vc2, .slice fs2 y.flds.length fc2] 58))) (by go_grown)
    have Y0 := XAt.new ((w.alloc (.cells #[.int .i64 V, .int .i64 F, .slice s c.length cap] 24)).alloc (.cells #[.bool x.none, .slice vs1 x.vars.length vc1, .slice fs1 x.flds.length fc1] 58)) y vs2 vc2 fs2 fc2
    rw [World.size_alloc] at X0
    rw [World.size_alloc, World.size_alloc] at Y0
    exact ⟨(PrAt.new w V F s c cap).call (by go_grown), X0, Y0, hcd.below B0 (Nat.le_refl _), hx.below B0 (Nat.le_refl _), hy.below B0 (Nat.le_refl _)⟩
  have HN3 : Hid ((((w.alloc (.cells #[.int .i64 V, .int .i64 F, .slice s c.length cap] 24)).alloc (.cells #[.bool x.none, .slice vs1 x.vars.length vc1, .slice fs1 x.flds.length fc1] 58)).alloc (.cells #[.bool y.none, .slice vs2 y.vars.length vc2, .slice fs2 y.flds.length fc2] 58)).heap.size = w.heap.size + 1 + 1 + 1) := by show _ = _; simp
  have HPX : Hid (∀ wz, Below w.heap.size w wz → PicOn (fun b => b < w.heap.size) wz x vs1 fs1) := fun wz hb => (hx.on.same (fun b h _ => hb.block b h) hb.size).mono fun b h _ => h.1
  have HPY : Hid (∀ wz, Below w.heap.size w wz → PicOn (fun b => b < w.heap.size) wz y vs2 fs2) := fun wz hb => (hy.on.same (fun b h _ => hb.block b h) hb.size).mono fun b h _ => h.1
  obtain ⟨WW, hWW⟩ : ∃ q, q = (((w.alloc (.cells #[.int .i64 V, .int .i64 F, .slice s c.length cap] 24)).alloc (.cells #[.bool x.none, .slice vs1 x.vars.length vc1, .slice fs1 x.flds.length fc1] 58)).alloc (.cells #[.bool y.none, .slice vs2 y.vars.length vc2, .slice fs2 y.flds.length fc2] 58)) := ⟨_, rfl⟩
  have HW0 := hideH hWW
  rw [← hWW] at B0 L0 HN3
  clear hWW hcd hx hy
  go_enter Tryz.func5, Tryz.ntmps5
  go_wp2_with (go_at_call 22; fail)
  rw [← HW0.out]
  refine (HBG.out WW L0.2.2.2.1).mono ?_
  rintro e w1 ⟨⟨bs, bc, bf, be, rfl, ON, c1B, c2B⟩, hb1⟩
  have KB1 := ON.at
  clear ON
  have BB1 : Below WW.heap.size WW w1 := hb1
  clear hb1
  obtain ⟨⟨⟨p0, p1, p2⟩, pz⟩, ⟨⟨a0, a1, a2⟩, az, -⟩, ⟨⟨c0, c1, c2⟩, cz, -⟩, -⟩ := id (L0.below BB1)
  go_wp2_with (go_at_call 23; fail)
  have hbA : Below w1.heap.size w1 (w1.alloc (.cells #[.bool Pb.none, .slice bs Pb.vars.length bc, .slice bf Pb.flds.length be] 58)) := by go_grown
  have BB2 := BB1.trans (hbA.mono BB1.size)
  have KB2 := KB1.call hbA
  have AB2 := XAt.new w1 Pb bs bc bf be
  clear p0 p1 p2 pz a0 a1 a2 az c0 c1 c2 cz BB1 hbA KB1
  generalize w1.alloc (.cells #[.bool Pb.none, .slice bs Pb.vars.length bc, .slice bf Pb.flds.length be] 58) = w2 at *
  generalize w1.heap.size = bB at *
  refine (HJN.out w2 (L0.below BB2).2.2.2.1 (L0.below BB2).2.2.2.2.1 (L0.below BB2).2.2.2.2.2).mono ?_
  rintro e w3 ⟨⟨js, jc, jf, je, rfl, ON, c1J, c2J⟩, hb3⟩
  have KJ3 := ON.at
  clear ON
  have BB3 := BB2.trans (hb3.mono BB2.size)
  have AB3 := AB2.call hb3
  have KB3 := KB2.call hb3
  clear BB2 hb3 AB2 KB2
  obtain ⟨⟨⟨p0, p1, p2⟩, pz⟩, ⟨⟨a0, a1, a2⟩, az, -⟩, ⟨⟨c0, c1, c2⟩, cz, -⟩, -⟩ := id (L0.below BB3)
  go_wp2_with (go_at_call 24; fail)
  have hbA : Below w3.heap.size w3 (w3.alloc (.cells #[.bool J.none, .slice js J.vars.length jc, .slice jf J.flds.length je] 58)) := by go_grown
  have BB4 := BB3.trans (hbA.mono BB3.size)
  have AB4 := AB3.call hbA
  have KB4 := KB3.call hbA
  have KJ4 := KJ3.call hbA
  have AJ4 := XAt.new w3 J js jc jf je
  clear p0 p1 p2 pz a0 a1 a2 az c0 c1 c2 cz BB3 hbA AB3 KB3 KJ3
  generalize w3.alloc (.cells #[.bool J.none, .slice js J.vars.length jc, .slice jf J.flds.length je] 58) = w4 at *
  generalize w3.heap.size = bJ at *
  refine (HWD.out w4 (L0.below BB4).2.2.2.1 (L0.below BB4).2.2.2.2.1 (L0.below BB4).2.2.2.2.2).mono ?_
  rintro e w5 ⟨⟨zs, zc, zf, ze, rfl, ON, c1Z, c2Z⟩, hb5⟩
  have KZ5 := ON.at
  clear ON
  have BB5 := BB4.trans (hb5.mono BB4.size)
  have AB5 := AB4.call hb5
  have KB5 := KB4.call hb5
  have AJ5 := AJ4.call hb5
  have KJ5 := KJ4.call hb5
  clear BB4 hb5 AB4 KB4 AJ4 KJ4
  obtain ⟨⟨⟨p0, p1, p2⟩, pz⟩, ⟨⟨a0, a1, a2⟩, az, -⟩, ⟨⟨c0, c1, c2⟩, cz, -⟩, -⟩ := id (L0.below BB5)
  go_wp2_with (go_at_call 25; fail)
  have hbA : Below w5.heap.size w5 (w5.alloc (.cells #[.bool Z.none, .slice zs Z.vars.length zc, .slice zf Z.flds.length ze] 58)) := by go_grown
  have BB6 := BB5.trans (hbA.mono BB5.size)
  have AB6 := AB5.call hbA
  have KB6 := KB5.call hbA
  have AJ6 := AJ5.call hbA
  have KJ6 := KJ5.call hbA
  have KZ6 := KZ5.call hbA
  have AZ6 := XAt.new w5 Z zs zc zf ze
  clear p0 p1 p2 pz a0 a1 a2 az c0 c1 c2 cz BB5 hbA AB5 KB5 AJ5 KJ5 KZ5
  generalize w5.alloc (.cells #[.bool Z.none, .slice zs Z.vars.length zc, .slice zf Z.flds.length ze] 58) = w6 at *
  generalize w5.heap.size = bZ at *
  refine (HWI.out w6 (L0.below BB6).2.2.2.1 (L0.below BB6).2.2.2.2.1 (L0.below BB6).2.2.2.2.2).mono ?_
  rintro e w7 ⟨rfl, hb7⟩
  have BB7 := BB6.trans (hb7.mono BB6.size)
  have AB7 := AB6.call hb7
  have KB7 := KB6.call hb7
  have AJ7 := AJ6.call hb7
  have KJ7 := KJ6.call hb7
  have AZ7 := AZ6.call hb7
  have KZ7 := KZ6.call hb7
  clear BB6 hb7 AB6 KB6 AJ6 KJ6 AZ6 KZ6
  go_upto_region 5 with fail
  go_cut [15, 16, 17] (fun t15 t16 t17 wc => t15 = .int .i64 u ∧ t16 = .int .i64 v ∧ t17 = .int .i64 wv ∧ Below WW.heap.size WW wc ∧ XAt wc bB Pb bs bc bf be ∧ PicAt wc Pb bs bf ∧ XAt wc bJ J js jc jf je ∧ PicAt wc J js jf ∧ XAt wc bZ Z zs zc zf ze ∧ PicAt wc Z zs zf)
  case first =>
    rename_i J1 K1 hJ1 hK1
    have B8 := BB7.drew
    refine wp_region_held_drew (S := (fun wx => (wx.cell? ⟨w.heap.size, 0, none⟩ = some (.int .i64 V) ∧ wx.cell? ⟨w.heap.size, 1, none⟩ = some (.int .i64 F) ∧ wx.cell? ⟨w.heap.size, 2, none⟩ = some (.slice s c.length cap)) ∧ (wx.cell? ⟨w.heap.size + 1, 0, none⟩ = some (.bool x.none) ∧ wx.cell? ⟨w.heap.size + 1, 1, none⟩ = some (.slice vs1 x.vars.length vc1) ∧ wx.cell? ⟨w.heap.size + 1, 2, none⟩ = some (.slice fs1 x.flds.length fc1)) ∧ (wx.cell? ⟨w.heap.size + 1 + 1, 0, none⟩ = some (.bool y.none) ∧ wx.cell? ⟨w.heap.size + 1 + 1, 1, none⟩ = some (.slice vs2 y.vars.length vc2) ∧ wx.cell? ⟨w.heap.size + 1 + 1, 2, none⟩ = some (.slice fs2 y.flds.length fc2)))) (by kernel_rfl) ⟨(L0.below B8).1.1, (L0.below B8).2.1.1, (L0.below B8).2.2.1.1⟩ (fun hHeld => ?_)
    have KEEP8 := And.intro AB7 (And.intro KB7 (And.intro AJ7 (And.intro KJ7 (And.intro AZ7 KZ7))))
    have HKP : XAt w7.drew bB Pb bs bc bf be ∧ PicAt w7.drew Pb bs bf ∧ XAt w7.drew bJ J js jc jf je ∧ PicAt w7.drew J js jf ∧ XAt w7.drew bZ Z zs zc zf ze ∧ PicAt w7.drew Z zs zf := KEEP8
    obtain ⟨AB8, KB8, AJ8, KJ8, AZ8, KZ8⟩ := HKP
    clear BB7 AB7 KB7 AJ7 KJ7 AZ7 KZ7 KEEP8
    generalize w7.drew = w8 at *
    refine tkH 0 ?_ ?_ ?_
    rotate_left
    · exact rn
    (try simp only [Act.put, List.getElem_toArray, List.getElem_cons_zero, List.getElem_cons_succ, List.setIfInBounds_toArray, List.set_cons_zero, List.set_cons_succ])
    refine tkH 2 ?_ ?_ ?_
    rotate_left
    · exact rn
    (try simp only [Act.put, List.getElem_toArray, List.getElem_cons_zero, List.getElem_cons_succ, List.setIfInBounds_toArray, List.set_cons_zero, List.set_cons_succ])
    refine tkH 3 ?_ ?_ ?_
    rotate_left
    · exact rn
    (try simp only [Act.put, List.getElem_toArray, List.getElem_cons_zero, List.getElem_cons_succ, List.setIfInBounds_toArray, List.set_cons_zero, List.set_cons_succ])
    refine tkH 6 ?_ ?_ ?_
    rotate_left
    · exact rn
    (try simp only [Act.put, List.getElem_toArray, List.getElem_cons_zero, List.getElem_cons_succ, List.setIfInBounds_toArray, List.set_cons_zero, List.set_cons_succ])
    refine tkH 7 ?_ ?_ ?_
    rotate_left
    · exact rn
    (try simp only [Act.put, List.getElem_toArray, List.getElem_cons_zero, List.getElem_cons_succ, List.setIfInBounds_toArray, List.set_cons_zero, List.set_cons_succ])
    refine tkH 8 ?_ ?_ ?_
    rotate_left
    · exact rn
    (try simp only [Act.put, List.getElem_toArray, List.getElem_cons_zero, List.getElem_cons_succ, List.setIfInBounds_toArray, List.set_cons_zero, List.set_cons_succ])
    refine wpAnyH_ready (rs := [1, 4, 9]) (by kernel_rfl) (by simp) ?_
    refine AllReadyH.cons rfl (fun K hK => ?_) (AllReadyH.cons rfl (fun K hK => ?_) (AllReadyH.cons rfl (fun K hK => ?_) AllReadyH.nil))
    · go_simp
      refine (HCP.out w8 (L0.below B8).2.2.2.1).mono ?_
      rintro e w9 ⟨rfl, hb9⟩
      have AB9 := AB8.call hb9
      have KB9 := KB8.call hb9
      have AJ9 := AJ8.call hb9
      have KJ9 := KJ8.call hb9
      have AZ9 := AZ8.call hb9
      have KZ9 := KZ8.call hb9
      have B9 := B8.trans (hb9.mono (B8.size))
      refine hK.out _ _ (⟨(L0.below B9).1.1, (L0.below B9).2.1.1, (L0.below B9).2.2.1.1⟩) (fun hHeld9 => ?_)
      clear hK K hb9 AB8 KB8 AJ8 KJ8 AZ8 KZ8 B8
      (try simp only [Act.put, List.getElem_toArray, List.getElem_cons_zero, List.getElem_cons_succ, List.setIfInBounds_toArray, List.set_cons_zero, List.set_cons_succ])
      refine wpAnyH_ready (rs := [4, 9]) (by kernel_rfl) (by simp) ?_
      refine AllReadyH.cons rfl (fun K hK => ?_) (AllReadyH.cons rfl (fun K hK => ?_) AllReadyH.nil)
      · go_simp
        have hb10 : Below w9.heap.size w9 (w9.alloc (.cells #[.bool x.none, .slice vs1 x.vars.length vc1, .slice fs1 x.flds.length fc1] 58)) := by go_grown
        have AB10 := AB9.call hb10
        have KB10 := KB9.call hb10
        have AJ10 := AJ9.call hb10
        have KJ10 := KJ9.call hb10
        have AZ10 := AZ9.call hb10
        have KZ10 := KZ9.call hb10
        have B10 := B9.trans (hb10.mono (B9.size))
        have D10 := XsAt.new1 w9 x vs1 vc1 fs1 fc1 (L0.below B9).2.2.2.2.1 h1 h2
        clear B9
        refine hK.out _ _ (⟨(L0.below B10).1.1, (L0.below B10).2.1.1, (L0.below B10).2.2.1.1⟩) (fun hHeld10 => ?_)
        clear hK K hb10 AB9 KB9 AJ9 KJ9 AZ9 KZ9
        (try simp only [Act.put, List.getElem_toArray, List.getElem_cons_zero, List.getElem_cons_succ, List.setIfInBounds_toArray, List.set_cons_zero, List.set_cons_succ])
        generalize w9.alloc (.cells #[.bool x.none, .slice vs1 x.vars.length vc1, .slice fs1 x.flds.length fc1] 58) = w10 at *
        generalize w9.heap.size = db at *
        refine wpAnyH_ready (rs := [5, 9]) (by kernel_rfl) (by simp) ?_
        refine AllReadyH.cons rfl (fun K hK => ?_) (AllReadyH.cons rfl (fun K hK => ?_) AllReadyH.nil)
        · go_simp
          refine (HC1.out w10 _ (L0.below B10).2.2.2.1 D10).mono ?_
          rintro e w11 ⟨rfl, hb11⟩
          have AB11 := AB10.call hb11
          have KB11 := KB10.call hb11
          have AJ11 := AJ10.call hb11
          have KJ11 := KJ10.call hb11
          have AZ11 := AZ10.call hb11
          have KZ11 := KZ10.call hb11
          have D11 := D10.call hb11
          have B11 := B10.trans (hb11.mono (B10.size))
          refine hK.out _ _ (⟨(L0.below B11).1.1, (L0.below B11).2.1.1, (L0.below B11).2.2.1.1⟩) (fun hHeld11 => ?_)
          clear hK K hb11 AB10 KB10 AJ10 KJ10 AZ10 KZ10 D10 B10
          (try simp only [Act.put, List.getElem_toArray, List.getElem_cons_zero, List.getElem_cons_succ, List.setIfInBounds_toArray, List.set_cons_zero, List.set_cons_succ])
          refine wpAnyH_ready (rs := [9]) (by kernel_rfl) (by simp) ?_
          refine AllReadyH.cons rfl (fun K hK => ?_) AllReadyH.nil
          go_simp
          have hb12 : Below w11.heap.size w11 (w11.alloc (.cells #[.bool x.none, .slice vs1 x.vars.length vc1, .slice fs1 x.flds.length fc1, .bool y.none, .slice vs2 y.vars.length vc2, .slice fs2 y.flds.length fc2] 58)) := by go_grown
          have AB12 := AB11.call hb12
          have KB12 := KB11.call hb12
          have AJ12 := AJ11.call hb12
          have KJ12 := KJ11.call hb12
          have AZ12 := AZ11.call hb12
          have KZ12 := KZ11.call hb12
          have B12 := B11.trans (hb12.mono (B11.size))
          have E12 := XsAt.new2 w11 x vs1 vc1 fs1 fc1 y vs2 vc2 fs2 fc2 (L0.below B11).2.2.2.2.1 h1 h2 (L0.below B11).2.2.2.2.2 h3 h4
          clear B11
          refine hK.out _ _ (⟨(L0.below B12).1.1, (L0.below B12).2.1.1, (L0.below B12).2.2.1.1⟩) (fun hHeld12 => ?_)
          clear hK K hb12 AB11 KB11 AJ11 KJ11 AZ11 KZ11
          (try simp only [Act.put, List.getElem_toArray, List.getElem_cons_zero, List.getElem_cons_succ, List.setIfInBounds_toArray, List.set_cons_zero, List.set_cons_succ])
          generalize w11.alloc (.cells #[.bool x.none, .slice vs1 x.vars.length vc1, .slice fs1 x.flds.length fc1, .bool y.none, .slice vs2 y.vars.length vc2, .slice fs2 y.flds.length fc2] 58) = w12 at *
          generalize w11.heap.size = eb at *
          refine wpAnyH_ready (rs := [10]) (by kernel_rfl) (by simp) ?_
          refine AllReadyH.cons rfl (fun K hK => ?_) AllReadyH.nil
          go_simp
          refine (HC2.out w12 _ (L0.below B12).2.2.2.1 E12).mono ?_
          rintro e w13 ⟨rfl, hb13⟩
          have AB13 := AB12.call hb13
          have KB13 := KB12.call hb13
          have AJ13 := AJ12.call hb13
          have KJ13 := KJ12.call hb13
          have AZ13 := AZ12.call hb13
          have KZ13 := KZ12.call hb13
          have E13 := E12.call hb13
          have B13 := B12.trans (hb13.mono (B12.size))
          refine hK.out _ _ (⟨(L0.below B13).1.1, (L0.below B13).2.1.1, (L0.below B13).2.2.1.1⟩) (fun hHeld13 => ?_)
          clear hK K hb13 AB12 KB12 AJ12 KJ12 AZ12 KZ12 E12 B12
          (try simp only [Act.put, List.getElem_toArray, List.getElem_cons_zero, List.getElem_cons_succ, List.setIfInBounds_toArray, List.set_cons_zero, List.set_cons_succ])
          refine tkH 11 ?_ ?_ ?_
          rotate_left
          · exact rn
          (try simp only [Act.put, List.getElem_toArray, List.getElem_cons_zero, List.getElem_cons_succ, List.setIfInBounds_toArray, List.set_cons_zero, List.set_cons_succ])
          refine tkH 12 ?_ ?_ ?_
          rotate_left
          · exact rn
          (try simp only [Act.put, List.getElem_toArray, List.getElem_cons_zero, List.getElem_cons_succ, List.setIfInBounds_toArray, List.set_cons_zero, List.set_cons_succ])
          refine tkH 13 ?_ ?_ ?_
          rotate_left
          · exact rn
          (try simp only [Act.put, List.getElem_toArray, List.getElem_cons_zero, List.getElem_cons_succ, List.setIfInBounds_toArray, List.set_cons_zero, List.set_cons_succ])
          refine wpAnyH_done (by kernel_rfl) ?_ _
          first | refine hK1 _ _ (Met.intro (hJ1 _ _ ?_)) | refine Met.intro (hJ1 _ _ ?_) | refine hJ1 _ _ ?_
          (repeat apply Exists.intro)
          refine ⟨?_, rfl⟩
          exact ⟨rfl, rfl, rfl, B13, AB13, KB13, AJ13, KJ13, AZ13, KZ13⟩
        · go_simp
          have hb11 : Below w10.heap.size w10 (w10.alloc (.cells #[.bool x.none, .slice vs1 x.vars.length vc1, .slice fs1 x.flds.length fc1, .bool y.none, .slice vs2 y.vars.length vc2, .slice fs2 y.flds.length fc2] 58)) := by go_grown
          have AB11 := AB10.call hb11
          have KB11 := KB10.call hb11
          have AJ11 := AJ10.call hb11
          have KJ11 := KJ10.call hb11
          have AZ11 := AZ10.call hb11
          have KZ11 := KZ10.call hb11
          have D11 := D10.call hb11
          have B11 := B10.trans (hb11.mono (B10.size))
          have E11 := XsAt.new2 w10 x vs1 vc1 fs1 fc1 y vs2 vc2 fs2 fc2 (L0.below B10).2.2.2.2.1 h1 h2 (L0.below B10).2.2.2.2.2 h3 h4
          clear B10
          refine hK.out _ _ (⟨(L0.below B11).1.1, (L0.below B11).2.1.1, (L0.below B11).2.2.1.1⟩) (fun hHeld11 => ?_)
          clear hK K hb11 AB10 KB10 AJ10 KJ10 AZ10 KZ10 D10
          (try simp only [Act.put, List.getElem_toArray, List.getElem_cons_zero, List.getElem_cons_succ, List.setIfInBounds_toArray, List.set_cons_zero, List.set_cons_succ])
          generalize w10.alloc (.cells #[.bool x.none, .slice vs1 x.vars.length vc1, .slice fs1 x.flds.length fc1, .bool y.none, .slice vs2 y.vars.length vc2, .slice fs2 y.flds.length fc2] 58) = w11 at *
          generalize w10.heap.size = eb at *
          refine wpAnyH_ready (rs := [5]) (by kernel_rfl) (by simp) ?_
          refine AllReadyH.cons rfl (fun K hK => ?_) AllReadyH.nil
          go_simp
          refine (HC1.out w11 _ (L0.below B11).2.2.2.1 D11).mono ?_
          rintro e w12 ⟨rfl, hb12⟩
          have AB12 := AB11.call hb12
          have KB12 := KB11.call hb12
          have AJ12 := AJ11.call hb12
          have KJ12 := KJ11.call hb12
          have AZ12 := AZ11.call hb12
          have KZ12 := KZ11.call hb12
          have D12 := D11.call hb12
          have E12 := E11.call hb12
          have B12 := B11.trans (hb12.mono (B11.size))
          refine hK.out _ _ (⟨(L0.below B12).1.1, (L0.below B12).2.1.1, (L0.below B12).2.2.1.1⟩) (fun hHeld12 => ?_)
          clear hK K hb12 AB11 KB11 AJ11 KJ11 AZ11 KZ11 D11 E11 B11
          (try simp only [Act.put, List.getElem_toArray, List.getElem_cons_zero, List.getElem_cons_succ, List.setIfInBounds_toArray, List.set_cons_zero, List.set_cons_succ])
          refine wpAnyH_ready (rs := [10]) (by kernel_rfl) (by simp) ?_
          refine AllReadyH.cons rfl (fun K hK => ?_) AllReadyH.nil
          go_simp
          refine (HC2.out w12 _ (L0.below B12).2.2.2.1 E12).mono ?_
          rintro e w13 ⟨rfl, hb13⟩
          have AB13 := AB12.call hb13
          have KB13 := KB12.call hb13
          have AJ13 := AJ12.call hb13
          have KJ13 := KJ12.call hb13
          have AZ13 := AZ12.call hb13
          have KZ13 := KZ12.call hb13
          have E13 := E12.call hb13
          have B13 := B12.trans (hb13.mono (B12.size))
          refine hK.out _ _ (⟨(L0.below B13).1.1, (L0.below B13).2.1.1, (L0.below B13).2.2.1.1⟩) (fun hHeld13 => ?_)
          clear hK K hb13 AB12 KB12 AJ12 KJ12 AZ12 KZ12 E12 B12
          (try simp only [Act.put, List.getElem_toArray, List.getElem_cons_zero, List.getElem_cons_succ, List.setIfInBounds_toArray, List.set_cons_zero, List.set_cons_succ])
          refine tkH 11 ?_ ?_ ?_
          rotate_left
          · exact rn
          (try simp only [Act.put, List.getElem_toArray, List.getElem_cons_zero, List.getElem_cons_succ, List.setIfInBounds_toArray, List.set_cons_zero, List.set_cons_succ])
          refine tkH 12 ?_ ?_ ?_
          rotate_left
          · exact rn
          (try simp only [Act.put, List.getElem_toArray, List.getElem_cons_zero, List.getElem_cons_succ, List.setIfInBounds_toArray, List.set_cons_zero, List.set_cons_succ])
          refine tkH 13 ?_ ?_ ?_
          rotate_left
          · exact rn
          (try simp only [Act.put, List.getElem_toArray, List.getElem_cons_zero, List.getElem_cons_succ, List.setIfInBounds_toArray, List.set_cons_zero, List.set_cons_succ])
          refine wpAnyH_done (by kernel_rfl) ?_ _
          first | refine hK1 _ _ (Met.intro (hJ1 _ _ ?_)) | refine Met.intro (hJ1 _ _ ?_) | refine hJ1 _ _ ?_
          (repeat apply Exists.intro)
          refine ⟨?_, rfl⟩
          exact ⟨rfl, rfl, rfl, B13, AB13, KB13, AJ13, KJ13, AZ13, KZ13⟩
      · go_simp
        have hb10 : Below w9.heap.size w9 (w9.alloc (.cells #[.bool x.none, .slice vs1 x.vars.length vc1, .slice fs1 x.flds.length fc1, .bool y.none, .slice vs2 y.vars.length vc2, .slice fs2 y.flds.length fc2] 58)) := by go_grown
        have AB10 := AB9.call hb10
        have KB10 := KB9.call hb10
        have AJ10 := AJ9.call hb10
        have KJ10 := KJ9.call hb10
        have AZ10 := AZ9.call hb10
        have KZ10 := KZ9.call hb10
        have B10 := B9.trans (hb10.mono (B9.size))
        have E10 := XsAt.new2 w9 x vs1 vc1 fs1 fc1 y vs2 vc2 fs2 fc2 (L0.below B9).2.2.2.2.1 h1 h2 (L0.below B9).2.2.2.2.2 h3 h4
        clear B9
        refine hK.out _ _ (⟨(L0.below B10).1.1, (L0.below B10).2.1.1, (L0.below B10).2.2.1.1⟩) (fun hHeld10 => ?_)
        clear hK K hb10 AB9 KB9 AJ9 KJ9 AZ9 KZ9
        (try simp only [Act.put, List.getElem_toArray, List.getElem_cons_zero, List.getElem_cons_succ, List.setIfInBounds_toArray, List.set_cons_zero, List.set_cons_succ])
        generalize w9.alloc (.cells #[.bool x.none, .slice vs1 x.vars.length vc1, .slice fs1 x.flds.length fc1, .bool y.none, .slice vs2 y.vars.length vc2, .slice fs2 y.flds.length fc2] 58) = w10 at *
        generalize w9.heap.size = eb at *
        refine wpAnyH_ready (rs := [4]) (by kernel_rfl) (by simp) ?_
        refine AllReadyH.cons rfl (fun K hK => ?_) AllReadyH.nil
        go_simp
        have hb11 : Below w10.heap.size w10 (w10.alloc (.cells #[.bool x.none, .slice vs1 x.vars.length vc1, .slice fs1 x.flds.length fc1] 58)) := by go_grown
        have AB11 := AB10.call hb11
        have KB11 := KB10.call hb11
        have AJ11 := AJ10.call hb11
        have KJ11 := KJ10.call hb11
        have AZ11 := AZ10.call hb11
        have KZ11 := KZ10.call hb11
        have E11 := E10.call hb11
        have B11 := B10.trans (hb11.mono (B10.size))
        have D11 := XsAt.new1 w10 x vs1 vc1 fs1 fc1 (L0.below B10).2.2.2.2.1 h1 h2
        clear B10
        refine hK.out _ _ (⟨(L0.below B11).1.1, (L0.below B11).2.1.1, (L0.below B11).2.2.1.1⟩) (fun hHeld11 => ?_)
        clear hK K hb11 AB10 KB10 AJ10 KJ10 AZ10 KZ10 E10
        (try simp only [Act.put, List.getElem_toArray, List.getElem_cons_zero, List.getElem_cons_succ, List.setIfInBounds_toArray, List.set_cons_zero, List.set_cons_succ])
        generalize w10.alloc (.cells #[.bool x.none, .slice vs1 x.vars.length vc1, .slice fs1 x.flds.length fc1] 58) = w11 at *
        generalize w10.heap.size = db at *
        refine wpAnyH_ready (rs := [5]) (by kernel_rfl) (by simp) ?_
        refine AllReadyH.cons rfl (fun K hK => ?_) AllReadyH.nil
        go_simp
        refine (HC1.out w11 _ (L0.below B11).2.2.2.1 D11).mono ?_
        rintro e w12 ⟨rfl, hb12⟩
        have AB12 := AB11.call hb12
        have KB12 := KB11.call hb12
        have AJ12 := AJ11.call hb12
        have KJ12 := KJ11.call hb12
        have AZ12 := AZ11.call hb12
        have KZ12 := KZ11.call hb12
        have D12 := D11.call hb12
        have E12 := E11.call hb12
        have B12 := B11.trans (hb12.mono (B11.size))
        refine hK.out _ _ (⟨(L0.below B12).1.1, (L0.below B12).2.1.1, (L0.below B12).2.2.1.1⟩) (fun hHeld12 => ?_)
        clear hK K hb12 AB11 KB11 AJ11 KJ11 AZ11 KZ11 D11 E11 B11
        (try simp only [Act.put, List.getElem_toArray, List.getElem_cons_zero, List.getElem_cons_succ, List.setIfInBounds_toArray, List.set_cons_zero, List.set_cons_succ])
        refine wpAnyH_ready (rs := [10]) (by kernel_rfl) (by simp) ?_
        refine AllReadyH.cons rfl (fun K hK => ?_) AllReadyH.nil
        go_simp
        refine (HC2.out w12 _ (L0.below B12).2.2.2.1 E12).mono ?_
        rintro e w13 ⟨rfl, hb13⟩
        have AB13 := AB12.call hb13
        have KB13 := KB12.call hb13
        have AJ13 := AJ12.call hb13
        have KJ13 := KJ12.call hb13
        have AZ13 := AZ12.call hb13
        have KZ13 := KZ12.call hb13
        have E13 := E12.call hb13
        have B13 := B12.trans (hb13.mono (B12.size))
        refine hK.out _ _ (⟨(L0.below B13).1.1, (L0.below B13).2.1.1, (L0.below B13).2.2.1.1⟩) (fun hHeld13 => ?_)
        clear hK K hb13 AB12 KB12 AJ12 KJ12 AZ12 KZ12 E12 B12
        (try simp only [Act.put, List.getElem_toArray, List.getElem_cons_zero, List.getElem_cons_succ, List.setIfInBounds_toArray, List.set_cons_zero, List.set_cons_succ])
        refine tkH 11 ?_ ?_ ?_
        rotate_left
        · exact rn
        (try simp only [Act.put, List.getElem_toArray, List.getElem_cons_zero, List.getElem_cons_succ, List.setIfInBounds_toArray, List.set_cons_zero, List.set_cons_succ])
        refine tkH 12 ?_ ?_ ?_
        rotate_left
        · exact rn
        (try simp only [Act.put, List.getElem_toArray, List.getElem_cons_zero, List.getElem_cons_succ, List.setIfInBounds_toArray, List.set_cons_zero, List.set_cons_succ])
        refine tkH 13 ?_ ?_ ?_
        rotate_left
        · exact rn
        (try simp only [Act.put, List.getElem_toArray, List.getElem_cons_zero, List.getElem_cons_succ, List.setIfInBounds_toArray, List.set_cons_zero, List.set_cons_succ])
        refine wpAnyH_done (by kernel_rfl) ?_ _
        first | refine hK1 _ _ (Met.intro (hJ1 _ _ ?_)) | refine Met.intro (hJ1 _ _ ?_) | refine hJ1 _ _ ?_
        (repeat apply Exists.intro)
        refine ⟨?_, rfl⟩
        exact ⟨rfl, rfl, rfl, B13, AB13, KB13, AJ13, KJ13, AZ13, KZ13⟩
    · go_simp
      have hb9 : Below w8.heap.size w8 (w8.alloc (.cells #[.bool x.none, .slice vs1 x.vars.length vc1, .slice fs1 x.flds.length fc1] 58)) := by go_grown
      have AB9 := AB8.call hb9
      have KB9 := KB8.call hb9
      have AJ9 := AJ8.call hb9
      have KJ9 := KJ8.call hb9
      have AZ9 := AZ8.call hb9
      have KZ9 := KZ8.call hb9
      have B9 := B8.trans (hb9.mono (B8.size))
      have D9 := XsAt.new1 w8 x vs1 vc1 fs1 fc1 (L0.below B8).2.2.2.2.1 h1 h2
      clear B8
      refine hK.out _ _ (⟨(L0.below B9).1.1, (L0.below B9).2.1.1, (L0.below B9).2.2.1.1⟩) (fun hHeld9 => ?_)
      clear hK K hb9 AB8 KB8 AJ8 KJ8 AZ8 KZ8
      (try simp only [Act.put, List.getElem_toArray, List.getElem_cons_zero, List.getElem_cons_succ, List.setIfInBounds_toArray, List.set_cons_zero, List.set_cons_succ])
      generalize w8.alloc (.cells #[.bool x.none, .slice vs1 x.vars.length vc1, .slice fs1 x.flds.length fc1] 58) = w9 at *
      generalize w8.heap.size = db at *
      refine wpAnyH_ready (rs := [1, 9]) (by kernel_rfl) (by simp) ?_
      refine AllReadyH.cons rfl (fun K hK => ?_) (AllReadyH.cons rfl (fun K hK => ?_) AllReadyH.nil)
      · go_simp
        refine (HCP.out w9 (L0.below B9).2.2.2.1).mono ?_
        rintro e w10 ⟨rfl, hb10⟩
        have AB10 := AB9.call hb10
        have KB10 := KB9.call hb10
        have AJ10 := AJ9.call hb10
        have KJ10 := KJ9.call hb10
        have AZ10 := AZ9.call hb10
        have KZ10 := KZ9.call hb10
        have D10 := D9.call hb10
        have B10 := B9.trans (hb10.mono (B9.size))
        refine hK.out _ _ (⟨(L0.below B10).1.1, (L0.below B10).2.1.1, (L0.below B10).2.2.1.1⟩) (fun hHeld10 => ?_)
        clear hK K hb10 AB9 KB9 AJ9 KJ9 AZ9 KZ9 D9 B9
        (try simp only [Act.put, List.getElem_toArray, List.getElem_cons_zero, List.getElem_cons_succ, List.setIfInBounds_toArray, List.set_cons_zero, List.set_cons_succ])
        refine wpAnyH_ready (rs := [5, 9]) (by kernel_rfl) (by simp) ?_
        refine AllReadyH.cons rfl (fun K hK => ?_) (AllReadyH.cons rfl (fun K hK => ?_) AllReadyH.nil)
        · go_simp
          refine (HC1.out w10 _ (L0.below B10).2.2.2.1 D10).mono ?_
          rintro e w11 ⟨rfl, hb11⟩
          have AB11 := AB10.call hb11
          have KB11 := KB10.call hb11
          have AJ11 := AJ10.call hb11
          have KJ11 := KJ10.call hb11
          have AZ11 := AZ10.call hb11
          have KZ11 := KZ10.call hb11
          have D11 := D10.call hb11
          have B11 := B10.trans (hb11.mono (B10.size))
          refine hK.out _ _ (⟨(L0.below B11).1.1, (L0.below B11).2.1.1, (L0.below B11).2.2.1.1⟩) (fun hHeld11 => ?_)
          clear hK K hb11 AB10 KB10 AJ10 KJ10 AZ10 KZ10 D10 B10
          (try simp only [Act.put, List.getElem_toArray, List.getElem_cons_zero, List.getElem_cons_succ, List.setIfInBounds_toArray, List.set_cons_zero, List.set_cons_succ])
          refine wpAnyH_ready (rs := [9]) (by kernel_rfl) (by simp) ?_
          refine AllReadyH.cons rfl (fun K hK => ?_) AllReadyH.nil
          go_simp
          have hb12 : Below w11.heap.size w11 (w11.alloc (.cells #[.bool x.none, .slice vs1 x.vars.length vc1, .slice fs1 x.flds.length fc1, .bool y.none, .slice vs2 y.vars.length vc2, .slice fs2 y.flds.length fc2] 58)) := by go_grown
          have AB12 := AB11.call hb12
          have KB12 := KB11.call hb12
          have AJ12 := AJ11.call hb12
          have KJ12 := KJ11.call hb12
          have AZ12 := AZ11.call hb12
          have KZ12 := KZ11.call hb12
          have B12 := B11.trans (hb12.mono (B11.size))
          have E12 := XsAt.new2 w11 x vs1 vc1 fs1 fc1 y vs2 vc2 fs2 fc2 (L0.below B11).2.2.2.2.1 h1 h2 (L0.below B11).2.2.2.2.2 h3 h4
          clear B11
          refine hK.out _ _ (⟨(L0.below B12).1.1, (L0.below B12).2.1.1, (L0.below B12).2.2.1.1⟩) (fun hHeld12 => ?_)
          clear hK K hb12 AB11 KB11 AJ11 KJ11 AZ11 KZ11
          (try simp only [Act.put, List.getElem_toArray, List.getElem_cons_zero, List.getElem_cons_succ, List.setIfInBounds_toArray, List.set_cons_zero, List.set_cons_succ])
          generalize w11.alloc (.cells #[.bool x.none, .slice vs1 x.vars.length vc1, .slice fs1 x.flds.length fc1, .bool y.none, .slice vs2 y.vars.length vc2, .slice fs2 y.flds.length fc2] 58) = w12 at *
          generalize w11.heap.size = eb at *
          refine wpAnyH_ready (rs := [10]) (by kernel_rfl) (by simp) ?_
          refine AllReadyH.cons rfl (fun K hK => ?_) AllReadyH.nil
          go_simp
          refine (HC2.out w12 _ (L0.below B12).2.2.2.1 E12).mono ?_
          rintro e w13 ⟨rfl, hb13⟩
          have AB13 := AB12.call hb13
          have KB13 := KB12.call hb13
          have AJ13 := AJ12.call hb13
          have KJ13 := KJ12.call hb13
          have AZ13 := AZ12.call hb13
          have KZ13 := KZ12.call hb13
          have E13 := E12.call hb13
          have B13 := B12.trans (hb13.mono (B12.size))
          refine hK.out _ _ (⟨(L0.below B13).1.1, (L0.below B13).2.1.1, (L0.below B13).2.2.1.1⟩) (fun hHeld13 => ?_)
          clear hK K hb13 AB12 KB12 AJ12 KJ12 AZ12 KZ12 E12 B12
          (try simp only [Act.put, List.getElem_toArray, List.getElem_cons_zero, List.getElem_cons_succ, List.setIfInBounds_toArray, List.set_cons_zero, List.set_cons_succ])
          refine tkH 11 ?_ ?_ ?_
          rotate_left
          · exact rn
          (try simp only [Act.put, List.getElem_toArray, List.getElem_cons_zero, List.getElem_cons_succ, List.setIfInBounds_toArray, List.set_cons_zero, List.set_cons_succ])
          refine tkH 12 ?_ ?_ ?_
          rotate_left
          · exact rn
          (try simp only [Act.put, List.getElem_toArray, List.getElem_cons_zero, List.getElem_cons_succ, List.setIfInBounds_toArray, List.set_cons_zero, List.set_cons_succ])
          refine tkH 13 ?_ ?_ ?_
          rotate_left
          · exact rn
          (try simp only [Act.put, List.getElem_toArray, List.getElem_cons_zero, List.getElem_cons_succ, List.setIfInBounds_toArray, List.set_cons_zero, List.set_cons_succ])
          refine wpAnyH_done (by kernel_rfl) ?_ _
          first | refine hK1 _ _ (Met.intro (hJ1 _ _ ?_)) | refine Met.intro (hJ1 _ _ ?_) | refine hJ1 _ _ ?_
          (repeat apply Exists.intro)
          refine ⟨?_, rfl⟩
          exact ⟨rfl, rfl, rfl, B13, AB13, KB13, AJ13, KJ13, AZ13, KZ13⟩
        · go_simp
          have hb11 : Below w10.heap.size w10 (w10.alloc (.cells #[.bool x.none, .slice vs1 x.vars.length vc1, .slice fs1 x.flds.length fc1, .bool y.none, .slice vs2 y.vars.length vc2, .slice fs2 y.flds.length fc2] 58)) := by go_grown
          have AB11 := AB10.call hb11
          have KB11 := KB10.call hb11
          have AJ11 := AJ10.call hb11
          have KJ11 := KJ10.call hb11
          have AZ11 := AZ10.call hb11
          have KZ11 := KZ10.call hb11
          have D11 := D10.call hb11
          have B11 := B10.trans (hb11.mono (B10.size))
          have E11 := XsAt.new2 w10 x vs1 vc1 fs1 fc1 y vs2 vc2 fs2 fc2 (L0.below B10).2.2.2.2.1 h1 h2 (L0.below B10).2.2.2.2.2 h3 h4
          clear B10
          refine hK.out _ _ (⟨(L0.below B11).1.1, (L0.below B11).2.1.1, (L0.below B11).2.2.1.1⟩) (fun hHeld11 => ?_)
          clear hK K hb11 AB10 KB10 AJ10 KJ10 AZ10 KZ10 D10
          (try simp only [Act.put, List.getElem_toArray, List.getElem_cons_zero, List.getElem_cons_succ, List.setIfInBounds_toArray, List.set_cons_zero, List.set_cons_succ])
          generalize w10.alloc (.cells #[.bool x.none, .slice vs1 x.vars.length vc1, .slice fs1 x.flds.length fc1, .bool y.none, .slice vs2 y.vars.length vc2, .slice fs2 y.flds.length fc2] 58) = w11 at *
          generalize w10.heap.size = eb at *
          refine wpAnyH_ready (rs := [5]) (by kernel_rfl) (by simp) ?_
          refine AllReadyH.cons rfl (fun K hK => ?_) AllReadyH.nil
          go_simp
          refine (HC1.out w11 _ (L0.below B11).2.2.2.1 D11).mono ?_
          rintro e w12 ⟨rfl, hb12⟩
          have AB12 := AB11.call hb12
          have KB12 := KB11.call hb12
          have AJ12 := AJ11.call hb12
          have KJ12 := KJ11.call hb12
          have AZ12 := AZ11.call hb12
          have KZ12 := KZ11.call hb12
          have D12 := D11.call hb12
          have E12 := E11.call hb12
          have B12 := B11.trans (hb12.mono (B11.size))
          refine hK.out _ _ (⟨(L0.below B12).1.1, (L0.below B12).2.1.1, (L0.below B12).2.2.1.1⟩) (fun hHeld12 => ?_)
          clear hK K hb12 AB11 KB11 AJ11 KJ11 AZ11 KZ11 D11 E11 B11
          (try simp only [Act.put, List.getElem_toArray, List.getElem_cons_zero, List.getElem_cons_succ, List.setIfInBounds_toArray, List.set_cons_zero, List.set_cons_succ])
          refine wpAnyH_ready (rs := [10]) (by kernel_rfl) (by simp) ?_
          refine AllReadyH.cons rfl (fun K hK => ?_) AllReadyH.nil
          go_simp
          refine (HC2.out w12 _ (L0.below B12).2.2.2.1 E12).mono ?_
          rintro e w13 ⟨rfl, hb13⟩
          have AB13 := AB12.call hb13
          have KB13 := KB12.call hb13
          have AJ13 := AJ12.call hb13
          have KJ13 := KJ12.call hb13
          have AZ13 := AZ12.call hb13
          have KZ13 := KZ12.call hb13
          have E13 := E12.call hb13
          have B13 := B12.trans (hb13.mono (B12.size))
          refine hK.out _ _ (⟨(L0.below B13).1.1, (L0.below B13).2.1.1, (L0.below B13).2.2.1.1⟩) (fun hHeld13 => ?_)
          clear hK K hb13 AB12 KB12 AJ12 KJ12 AZ12 KZ12 E12 B12
          (try simp only [Act.put, List.getElem_toArray, List.getElem_cons_zero, List.getElem_cons_succ, List.setIfInBounds_toArray, List.set_cons_zero, List.set_cons_succ])
          refine tkH 11 ?_ ?_ ?_
          rotate_left
          · exact rn
          (try simp only [Act.put, List.getElem_toArray, List.getElem_cons_zero, List.getElem_cons_succ, List.setIfInBounds_toArray, List.set_cons_zero, List.set_cons_succ])
          refine tkH 12 ?_ ?_ ?_
          rotate_left
          · exact rn
          (try simp only [Act.put, List.getElem_toArray, List.getElem_cons_zero, List.getElem_cons_succ, List.setIfInBounds_toArray, List.set_cons_zero, List.set_cons_succ])
          refine tkH 13 ?_ ?_ ?_
          rotate_left
          · exact rn
          (try simp only [Act.put, List.getElem_toArray, List.getElem_cons_zero, List.getElem_cons_succ, List.setIfInBounds_toArray, List.set_cons_zero, List.set_cons_succ])
          refine wpAnyH_done (by kernel_rfl) ?_ _
          first | refine hK1 _ _ (Met.intro (hJ1 _ _ ?_)) | refine Met.intro (hJ1 _ _ ?_) | refine hJ1 _ _ ?_
          (repeat apply Exists.intro)
          refine ⟨?_, rfl⟩
          exact ⟨rfl, rfl, rfl, B13, AB13, KB13, AJ13, KJ13, AZ13, KZ13⟩
      · go_simp
        have hb10 : Below w9.heap.size w9 (w9.alloc (.cells #[.bool x.none, .slice vs1 x.vars.length vc1, .slice fs1 x.flds.length fc1, .bool y.none, .slice vs2 y.vars.length vc2, .slice fs2 y.flds.length fc2] 58)) := by go_grown
        have AB10 := AB9.call hb10
        have KB10 := KB9.call hb10
        have AJ10 := AJ9.call hb10
        have KJ10 := KJ9.call hb10
        have AZ10 := AZ9.call hb10
        have KZ10 := KZ9.call hb10
        have D10 := D9.call hb10
        have B10 := B9.trans (hb10.mono (B9.size))
        have E10 := XsAt.new2 w9 x vs1 vc1 fs1 fc1 y vs2 vc2 fs2 fc2 (L0.below B9).2.2.2.2.1 h1 h2 (L0.below B9).2.2.2.2.2 h3 h4
        clear B9
        refine hK.out _ _ (⟨(L0.below B10).1.1, (L0.below B10).2.1.1, (L0.below B10).2.2.1.1⟩) (fun hHeld10 => ?_)
        clear hK K hb10 AB9 KB9 AJ9 KJ9 AZ9 KZ9 D9
        (try simp only [Act.put, List.getElem_toArray, List.getElem_cons_zero, List.getElem_cons_succ, List.setIfInBounds_toArray, List.set_cons_zero, List.set_cons_succ])
        generalize w9.alloc (.cells #[.bool x.none, .slice vs1 x.vars.length vc1, .slice fs1 x.flds.length fc1, .bool y.none, .slice vs2 y.vars.length vc2, .slice fs2 y.flds.length fc2] 58) = w10 at *
        generalize w9.heap.size = eb at *
        refine wpAnyH_ready (rs := [1]) (by kernel_rfl) (by simp) ?_
        refine AllReadyH.cons rfl (fun K hK => ?_) AllReadyH.nil
        go_simp
        refine (HCP.out w10 (L0.below B10).2.2.2.1).mono ?_
        rintro e w11 ⟨rfl, hb11⟩
        have AB11 := AB10.call hb11
        have KB11 := KB10.call hb11
        have AJ11 := AJ10.call hb11
        have KJ11 := KJ10.call hb11
        have AZ11 := AZ10.call hb11
        have KZ11 := KZ10.call hb11
        have D11 := D10.call hb11
        have E11 := E10.call hb11
        have B11 := B10.trans (hb11.mono (B10.size))
        refine hK.out _ _ (⟨(L0.below B11).1.1, (L0.below B11).2.1.1, (L0.below B11).2.2.1.1⟩) (fun hHeld11 => ?_)
        clear hK K hb11 AB10 KB10 AJ10 KJ10 AZ10 KZ10 D10 E10 B10
        (try simp only [Act.put, List.getElem_toArray, List.getElem_cons_zero, List.getElem_cons_succ, List.setIfInBounds_toArray, List.set_cons_zero, List.set_cons_succ])
        refine wpAnyH_ready (rs := [5]) (by kernel_rfl) (by simp) ?_
        refine AllReadyH.cons rfl (fun K hK => ?_) AllReadyH.nil
        go_simp
        refine (HC1.out w11 _ (L0.below B11).2.2.2.1 D11).mono ?_
        rintro e w12 ⟨rfl, hb12⟩
        have AB12 := AB11.call hb12
        have KB12 := KB11.call hb12
        have AJ12 := AJ11.call hb12
        have KJ12 := KJ11.call hb12
        have AZ12 := AZ11.call hb12
        have KZ12 := KZ11.call hb12
        have D12 := D11.call hb12
        have E12 := E11.call hb12
        have B12 := B11.trans (hb12.mono (B11.size))
        refine hK.out _ _ (⟨(L0.below B12).1.1, (L0.below B12).2.1.1, (L0.below B12).2.2.1.1⟩) (fun hHeld12 => ?_)
        clear hK K hb12 AB11 KB11 AJ11 KJ11 AZ11 KZ11 D11 E11 B11
        (try simp only [Act.put, List.getElem_toArray, List.getElem_cons_zero, List.getElem_cons_succ, List.setIfInBounds_toArray, List.set_cons_zero, List.set_cons_succ])
        refine wpAnyH_ready (rs := [10]) (by kernel_rfl) (by simp) ?_
        refine AllReadyH.cons rfl (fun K hK => ?_) AllReadyH.nil
        go_simp
        refine (HC2.out w12 _ (L0.below B12).2.2.2.1 E12).mono ?_
        rintro e w13 ⟨rfl, hb13⟩
        have AB13 := AB12.call hb13
        have KB13 := KB12.call hb13
        have AJ13 := AJ12.call hb13
        have KJ13 := KJ12.call hb13
        have AZ13 := AZ12.call hb13
        have KZ13 := KZ12.call hb13
        have E13 := E12.call hb13
        have B13 := B12.trans (hb13.mono (B12.size))
        refine hK.out _ _ (⟨(L0.below B13).1.1, (L0.below B13).2.1.1, (L0.below B13).2.2.1.1⟩) (fun hHeld13 => ?_)
        clear hK K hb13 AB12 KB12 AJ12 KJ12 AZ12 KZ12 E12 B12
        (try simp only [Act.put, List.getElem_toArray, List.getElem_cons_zero, List.getElem_cons_succ, List.setIfInBounds_toArray, List.set_cons_zero, List.set_cons_succ])
        refine tkH 11 ?_ ?_ ?_
        rotate_left
        · exact rn
        (try simp only [Act.put, List.getElem_toArray, List.getElem_cons_zero, List.getElem_cons_succ, List.setIfInBounds_toArray, List.set_cons_zero, List.set_cons_succ])
        refine tkH 12 ?_ ?_ ?_
        rotate_left
        · exact rn
        (try simp only [Act.put, List.getElem_toArray, List.getElem_cons_zero, List.getElem_cons_succ, List.setIfInBounds_toArray, List.set_cons_zero, List.set_cons_succ])
        refine tkH 13 ?_ ?_ ?_
        rotate_left
        · exact rn
        (try simp only [Act.put, List.getElem_toArray, List.getElem_cons_zero, List.getElem_cons_succ, List.setIfInBounds_toArray, List.set_cons_zero, List.set_cons_succ])
        refine wpAnyH_done (by kernel_rfl) ?_ _
        first | refine hK1 _ _ (Met.intro (hJ1 _ _ ?_)) | refine Met.intro (hJ1 _ _ ?_) | refine hJ1 _ _ ?_
        (repeat apply Exists.intro)
        refine ⟨?_, rfl⟩
        exact ⟨rfl, rfl, rfl, B13, AB13, KB13, AJ13, KJ13, AZ13, KZ13⟩
    · go_simp
      have hb9 : Below w8.heap.size w8 (w8.alloc (.cells #[.bool x.none, .slice vs1 x.vars.length vc1, .slice fs1 x.flds.length fc1, .bool y.none, .slice vs2 y.vars.length vc2, .slice fs2 y.flds.length fc2] 58)) := by go_grown
      have AB9 := AB8.call hb9
      have KB9 := KB8.call hb9
      have AJ9 := AJ8.call hb9
      have KJ9 := KJ8.call hb9
      have AZ9 := AZ8.call hb9
      have KZ9 := KZ8.call hb9
      have B9 := B8.trans (hb9.mono (B8.size))
      have E9 := XsAt.new2 w8 x vs1 vc1 fs1 fc1 y vs2 vc2 fs2 fc2 (L0.below B8).2.2.2.2.1 h1 h2 (L0.below B8).2.2.2.2.2 h3 h4
      clear B8
      refine hK.out _ _ (⟨(L0.below B9).1.1, (L0.below B9).2.1.1, (L0.below B9).2.2.1.1⟩) (fun hHeld9 => ?_)
      clear hK K hb9 AB8 KB8 AJ8 KJ8 AZ8 KZ8
      (try simp only [Act.put, List.getElem_toArray, List.getElem_cons_zero, List.getElem_cons_succ, List.setIfInBounds_toArray, List.set_cons_zero, List.set_cons_succ])
      generalize w8.alloc (.cells #[.bool x.none, .slice vs1 x.vars.length vc1, .slice fs1 x.flds.length fc1, .bool y.none, .slice vs2 y.vars.length vc2, .slice fs2 y.flds.length fc2] 58) = w9 at *
      generalize w8.heap.size = eb at *
      refine wpAnyH_ready (rs := [1, 4]) (by kernel_rfl) (by simp) ?_
      refine AllReadyH.cons rfl (fun K hK => ?_) (AllReadyH.cons rfl (fun K hK => ?_) AllReadyH.nil)
      · go_simp
        refine (HCP.out w9 (L0.below B9).2.2.2.1).mono ?_
        rintro e w10 ⟨rfl, hb10⟩
        have AB10 := AB9.call hb10
        have KB10 := KB9.call hb10
        have AJ10 := AJ9.call hb10
        have KJ10 := KJ9.call hb10
        have AZ10 := AZ9.call hb10
        have KZ10 := KZ9.call hb10
        have E10 := E9.call hb10
        have B10 := B9.trans (hb10.mono (B9.size))
        refine hK.out _ _ (⟨(L0.below B10).1.1, (L0.below B10).2.1.1, (L0.below B10).2.2.1.1⟩) (fun hHeld10 => ?_)
        clear hK K hb10 AB9 KB9 AJ9 KJ9 AZ9 KZ9 E9 B9
        (try simp only [Act.put, List.getElem_toArray, List.getElem_cons_zero, List.getElem_cons_succ, List.setIfInBounds_toArray, List.set_cons_zero, List.set_cons_succ])
        refine wpAnyH_ready (rs := [4]) (by kernel_rfl) (by simp) ?_
        refine AllReadyH.cons rfl (fun K hK => ?_) AllReadyH.nil
        go_simp
        have hb11 : Below w10.heap.size w10 (w10.alloc (.cells #[.bool x.none, .slice vs1 x.vars.length vc1, .slice fs1 x.flds.length fc1] 58)) := by go_grown
        have AB11 := AB10.call hb11
        have KB11 := KB10.call hb11
        have AJ11 := AJ10.call hb11
        have KJ11 := KJ10.call hb11
        have AZ11 := AZ10.call hb11
        have KZ11 := KZ10.call hb11
        have E11 := E10.call hb11
        have B11 := B10.trans (hb11.mono (B10.size))
        have D11 := XsAt.new1 w10 x vs1 vc1 fs1 fc1 (L0.below B10).2.2.2.2.1 h1 h2
        clear B10
        refine hK.out _ _ (⟨(L0.below B11).1.1, (L0.below B11).2.1.1, (L0.below B11).2.2.1.1⟩) (fun hHeld11 => ?_)
        clear hK K hb11 AB10 KB10 AJ10 KJ10 AZ10 KZ10 E10
        (try simp only [Act.put, List.getElem_toArray, List.getElem_cons_zero, List.getElem_cons_succ, List.setIfInBounds_toArray, List.set_cons_zero, List.set_cons_succ])
        generalize w10.alloc (.cells #[.bool x.none, .slice vs1 x.vars.length vc1, .slice fs1 x.flds.length fc1] 58) = w11 at *
        generalize w10.heap.size = db at *
        refine wpAnyH_ready (rs := [5]) (by kernel_rfl) (by simp) ?_
        refine AllReadyH.cons rfl (fun K hK => ?_) AllReadyH.nil
        go_simp
        refine (HC1.out w11 _ (L0.below B11).2.2.2.1 D11).mono ?_
        rintro e w12 ⟨rfl, hb12⟩
        have AB12 := AB11.call hb12
        have KB12 := KB11.call hb12
        have AJ12 := AJ11.call hb12
        have KJ12 := KJ11.call hb12
        have AZ12 := AZ11.call hb12
        have KZ12 := KZ11.call hb12
        have D12 := D11.call hb12
        have E12 := E11.call hb12
        have B12 := B11.trans (hb12.mono (B11.size))
        refine hK.out _ _ (⟨(L0.below B12).1.1, (L0.below B12).2.1.1, (L0.below B12).2.2.1.1⟩) (fun hHeld12 => ?_)
        clear hK K hb12 AB11 KB11 AJ11 KJ11 AZ11 KZ11 D11 E11 B11
        (try simp only [Act.put, List.getElem_toArray, List.getElem_cons_zero, List.getElem_cons_succ, List.setIfInBounds_toArray, List.set_cons_zero, List.set_cons_succ])
        refine wpAnyH_ready (rs := [10]) (by kernel_rfl) (by simp) ?_
        refine AllReadyH.cons rfl (fun K hK => ?_) AllReadyH.nil
        go_simp
        refine (HC2.out w12 _ (L0.below B12).2.2.2.1 E12).mono ?_
        rintro e w13 ⟨rfl, hb13⟩
        have AB13 := AB12.call hb13
        have KB13 := KB12.call hb13
        have AJ13 := AJ12.call hb13
        have KJ13 := KJ12.call hb13
        have AZ13 := AZ12.call hb13
        have KZ13 := KZ12.call hb13
        have E13 := E12.call hb13
        have B13 := B12.trans (hb13.mono (B12.size))
        refine hK.out _ _ (⟨(L0.below B13).1.1, (L0.below B13).2.1.1, (L0.below B13).2.2.1.1⟩) (fun hHeld13 => ?_)
        clear hK K hb13 AB12 KB12 AJ12 KJ12 AZ12 KZ12 E12 B12
        (try simp only [Act.put, List.getElem_toArray, List.getElem_cons_zero, List.getElem_cons_succ, List.setIfInBounds_toArray, List.set_cons_zero, List.set_cons_succ])
        refine tkH 11 ?_ ?_ ?_
        rotate_left
        · exact rn
        (try simp only [Act.put, List.getElem_toArray, List.getElem_cons_zero, List.getElem_cons_succ, List.setIfInBounds_toArray, List.set_cons_zero, List.set_cons_succ])
        refine tkH 12 ?_ ?_ ?_
        rotate_left
        · exact rn
        (try simp only [Act.put, List.getElem_toArray, List.getElem_cons_zero, List.getElem_cons_succ, List.setIfInBounds_toArray, List.set_cons_zero, List.set_cons_succ])
        refine tkH 13 ?_ ?_ ?_
        rotate_left
        · exact rn
        (try simp only [Act.put, List.getElem_toArray, List.getElem_cons_zero, List.getElem_cons_succ, List.setIfInBounds_toArray, List.set_cons_zero, List.set_cons_succ])
        refine wpAnyH_done (by kernel_rfl) ?_ _
        first | refine hK1 _ _ (Met.intro (hJ1 _ _ ?_)) | refine Met.intro (hJ1 _ _ ?_) | refine hJ1 _ _ ?_
        (repeat apply Exists.intro)
        refine ⟨?_, rfl⟩
        exact ⟨rfl, rfl, rfl, B13, AB13, KB13, AJ13, KJ13, AZ13, KZ13⟩
      · go_simp
        have hb10 : Below w9.heap.size w9 (w9.alloc (.cells #[.bool x.none, .slice vs1 x.vars.length vc1, .slice fs1 x.flds.length fc1] 58)) := by go_grown
        have AB10 := AB9.call hb10
        have KB10 := KB9.call hb10
        have AJ10 := AJ9.call hb10
        have KJ10 := KJ9.call hb10
        have AZ10 := AZ9.call hb10
        have KZ10 := KZ9.call hb10
        have E10 := E9.call hb10
        have B10 := B9.trans (hb10.mono (B9.size))
        have D10 := XsAt.new1 w9 x vs1 vc1 fs1 fc1 (L0.below B9).2.2.2.2.1 h1 h2
        clear B9
        refine hK.out _ _ (⟨(L0.below B10).1.1, (L0.below B10).2.1.1, (L0.below B10).2.2.1.1⟩) (fun hHeld10 => ?_)
        clear hK K hb10 AB9 KB9 AJ9 KJ9 AZ9 KZ9 E9
        (try simp only [Act.put, List.getElem_toArray, List.getElem_cons_zero, List.getElem_cons_succ, List.setIfInBounds_toArray, List.set_cons_zero, List.set_cons_succ])
        generalize w9.alloc (.cells #[.bool x.none, .slice vs1 x.vars.length vc1, .slice fs1 x.flds.length fc1] 58) = w10 at *
        generalize w9.heap.size = db at *
        refine wpAnyH_ready (rs := [1]) (by kernel_rfl) (by simp) ?_
        refine AllReadyH.cons rfl (fun K hK => ?_) AllReadyH.nil
        go_simp
        refine (HCP.out w10 (L0.below B10).2.2.2.1).mono ?_
        rintro e w11 ⟨rfl, hb11⟩
        have AB11 := AB10.call hb11
        have KB11 := KB10.call hb11
        have AJ11 := AJ10.call hb11
        have KJ11 := KJ10.call hb11
        have AZ11 := AZ10.call hb11
        have KZ11 := KZ10.call hb11
        have D11 := D10.call hb11
        have E11 := E10.call hb11
        have B11 := B10.trans (hb11.mono (B10.size))
        refine hK.out _ _ (⟨(L0.below B11).1.1, (L0.below B11).2.1.1, (L0.below B11).2.2.1.1⟩) (fun hHeld11 => ?_)
        clear hK K hb11 AB10 KB10 AJ10 KJ10 AZ10 KZ10 D10 E10 B10
        (try simp only [Act.put, List.getElem_toArray, List.getElem_cons_zero, List.getElem_cons_succ, List.setIfInBounds_toArray, List.set_cons_zero, List.set_cons_succ])
        refine wpAnyH_ready (rs := [5]) (by kernel_rfl) (by simp) ?_
        refine AllReadyH.cons rfl (fun K hK => ?_) AllReadyH.nil
        go_simp
        refine (HC1.out w11 _ (L0.below B11).2.2.2.1 D11).mono ?_
        rintro e w12 ⟨rfl, hb12⟩
        have AB12 := AB11.call hb12
        have KB12 := KB11.call hb12
        have AJ12 := AJ11.call hb12
        have KJ12 := KJ11.call hb12
        have AZ12 := AZ11.call hb12
        have KZ12 := KZ11.call hb12
        have D12 := D11.call hb12
        have E12 := E11.call hb12
        have B12 := B11.trans (hb12.mono (B11.size))
        refine hK.out _ _ (⟨(L0.below B12).1.1, (L0.below B12).2.1.1, (L0.below B12).2.2.1.1⟩) (fun hHeld12 => ?_)
        clear hK K hb12 AB11 KB11 AJ11 KJ11 AZ11 KZ11 D11 E11 B11
        (try simp only [Act.put, List.getElem_toArray, List.getElem_cons_zero, List.getElem_cons_succ, List.setIfInBounds_toArray, List.set_cons_zero, List.set_cons_succ])
        refine wpAnyH_ready (rs := [10]) (by kernel_rfl) (by simp) ?_
        refine AllReadyH.cons rfl (fun K hK => ?_) AllReadyH.nil
        go_simp
        refine (HC2.out w12 _ (L0.below B12).2.2.2.1 E12).mono ?_
        rintro e w13 ⟨rfl, hb13⟩
        have AB13 := AB12.call hb13
        have KB13 := KB12.call hb13
        have AJ13 := AJ12.call hb13
        have KJ13 := KJ12.call hb13
        have AZ13 := AZ12.call hb13
        have KZ13 := KZ12.call hb13
        have E13 := E12.call hb13
        have B13 := B12.trans (hb13.mono (B12.size))
        refine hK.out _ _ (⟨(L0.below B13).1.1, (L0.below B13).2.1.1, (L0.below B13).2.2.1.1⟩) (fun hHeld13 => ?_)
        clear hK K hb13 AB12 KB12 AJ12 KJ12 AZ12 KZ12 E12 B12
        (try simp only [Act.put, List.getElem_toArray, List.getElem_cons_zero, List.getElem_cons_succ, List.setIfInBounds_toArray, List.set_cons_zero, List.set_cons_succ])
        refine tkH 11 ?_ ?_ ?_
        rotate_left
        · exact rn
        (try simp only [Act.put, List.getElem_toArray, List.getElem_cons_zero, List.getElem_cons_succ, List.setIfInBounds_toArray, List.set_cons_zero, List.set_cons_succ])
        refine tkH 12 ?_ ?_ ?_
        rotate_left
        · exact rn
        (try simp only [Act.put, List.getElem_toArray, List.getElem_cons_zero, List.getElem_cons_succ, List.setIfInBounds_toArray, List.set_cons_zero, List.set_cons_succ])
        refine tkH 13 ?_ ?_ ?_
        rotate_left
        · exact rn
        (try simp only [Act.put, List.getElem_toArray, List.getElem_cons_zero, List.getElem_cons_succ, List.setIfInBounds_toArray, List.set_cons_zero, List.set_cons_succ])
        refine wpAnyH_done (by kernel_rfl) ?_ _
        first | refine hK1 _ _ (Met.intro (hJ1 _ _ ?_)) | refine Met.intro (hJ1 _ _ ?_) | refine hJ1 _ _ ?_
        (repeat apply Exists.intro)
        refine ⟨?_, rfl⟩
        exact ⟨rfl, rfl, rfl, B13, AB13, KB13, AJ13, KJ13, AZ13, KZ13⟩
  obtain ⟨rfl, rfl, rfl, BBq, ABq, KBq, AJq, KJq, AZq, KZq⟩ := hcut
  clear BB7 AB7 KB7 AJ7 KJ7 AZ7 KZ7
  generalize wc = wQ at *
  clear wc
  have BQ : Below wQ.heap.size wQ (((wQ.alloc (.cells #[.bool false, .slice none 0 0, .slice none 0 0] 58)).alloc (.cells #[.bool false, .slice none 0 0, .slice none 0 0] 58)).alloc (.cells #[.bool false, .slice none 0 0, .slice none 0 0] 58)) := by go_grown
  have Q0 := (X3.new wQ 58 (.bool false) (.slice none 0 0) (.slice none 0 0)).call (w' := (((wQ.alloc (.cells #[.bool false, .slice none 0 0, .slice none 0 0] 58)).alloc (.cells #[.bool false, .slice none 0 0, .slice none 0 0] 58)).alloc (.cells #[.bool false, .slice none 0 0, .slice none 0 0] 58))) (by go_grown)
  have Q1 := (X3.new (wQ.alloc (.cells #[.bool false, .slice none 0 0, .slice none 0 0] 58)) 58 (.bool false) (.slice none 0 0) (.slice none 0 0)).call (w' := (((wQ.alloc (.cells #[.bool false, .slice none 0 0, .slice none 0 0] 58)).alloc (.cells #[.bool false, .slice none 0 0, .slice none 0 0] 58)).alloc (.cells #[.bool false, .slice none 0 0, .slice none 0 0] 58))) (by go_grown)
  have Q2 := X3.new ((wQ.alloc (.cells #[.bool false, .slice none 0 0, .slice none 0 0] 58)).alloc (.cells #[.bool false, .slice none 0 0, .slice none 0 0] 58)) 58 (.bool false) (.slice none 0 0) (.slice none 0 0)
  rw [World.size_alloc] at Q1
  rw [World.size_alloc, World.size_alloc] at Q2
  have zq : wQ.heap.size + 1 + 1 + 1 ≤ (((wQ.alloc (.cells #[.bool false, .slice none 0 0, .slice none 0 0] 58)).alloc (.cells #[.bool false, .slice none 0 0, .slice none 0 0] 58)).alloc (.cells #[.bool false, .slice none 0 0, .slice none 0 0] 58)).heap.size := by simp
  go_upto_if 60 with fail
  generalize (((wQ.alloc (.cells #[.bool false, .slice none 0 0, .slice none 0 0] 58)).alloc (.cells #[.bool false, .slice none 0 0, .slice none 0 0] 58)).alloc (.cells #[.bool false, .slice none 0 0, .slice none 0 0] 58)) = wR at *
  have zW : w.heap.size + 1 + 1 + 1 ≤ wQ.heap.size := Nat.le_trans (by rw [HN3.out]; exact Nat.le_refl _) BBq.size
  have LQ2 : ∀ {wx : World}, Below wQ.heap.size wQ wx → Below w.heap.size w wx := fun hb => B0.trans ((BBq.trans (hb.mono BBq.size)).mono B0.size)
  have LQ : ∀ {wx : World}, Below wQ.heap.size wQ wx → LawX wx w.heap.size V F s c cap x vs1 vc1 fs1 fc1 y vs2 vc2 fs2 fc2 := fun hb => L0.below (BBq.trans (hb.mono BBq.size))
  obtain ⟨q, hq⟩ : ∃ q, q = wQ.heap.size := ⟨_, rfl⟩
  rw [← hq] at BQ Q0 Q1 Q2 zq zW LQ LQ2 ⊢
  have HQQ := hideH hq
  clear hq
  go_cut [] (fun wy => ∃ cs cc cf ce, X3 wy q (.bool Pb.none) (.slice cs Pb.vars.length cc) (.slice cf Pb.flds.length ce) ∧ PicOn (fun b => q + 1 + 1 + 1 ≤ b) wy Pb cs cf ∧ X3 wy (q + 1) (.bool false) (.slice none 0 0) (.slice none 0 0) ∧ X3 wy (q + 1 + 1) (.bool false) (.slice none 0 0) (.slice none 0 0) ∧ Below q wQ wy ∧ q + 1 + 1 + 1 ≤ wy.heap.size)
  case first =>
    by_cases e1 : u = 0
    · subst e1
      have HF := hideH (HFO.out rfl)
      obtain ⟨⟨⟨p0, p1, p2⟩, pz⟩, -⟩ := id (LQ BQ)
      go_wp2_with (go_at_call 28; fail)
      refine (HF.out wR).mono ?_
      rintro e w1 ⟨⟨cs, cc, cf, ce, rfl, ON⟩, hb1⟩
      have B1 := BQ.trans (hb1.mono (Nat.le_trans (Nat.le_of_eq HQQ.out) BQ.size))
      have Q01 := Q0.call hb1
      have Q11 := Q1.call hb1
      have Q21 := Q2.call hb1
      have z1 : q + 1 + 1 + 1 ≤ w1.heap.size := Nat.le_trans zq hb1.size
      have ON1 : PicOn (fun b => q + 1 + 1 + 1 ≤ b) w1 Pb cs cf := ON.mono fun b h _ => by omega
      clear p0 p1 p2 pz ON hb1 Q0 Q1 Q2 BQ zq
      obtain ⟨⟨d0, d1, d2⟩, dz, df⟩ := id Q01
      have f0 := df 0
      have f1 := df 1
      have f2 := df 2
      clear df
      go_wp2_with fail
      go_meet
      have hch : ∀ b, b ≠ q → (((w1.setCell ⟨q, 0, none⟩ (.bool Pb.none)).setCell ⟨q, 1, none⟩ (.slice cs Pb.vars.length cc)).setCell ⟨q, 2, none⟩ (.slice cf Pb.flds.length ce)).heap[b]? = w1.heap[b]? := fun b hb => by rw [Below.heap_setCell _ _ _ _ hb, Below.heap_setCell _ _ _ _ hb, Below.heap_setCell _ _ _ _ hb]
      have hcz : w1.heap.size ≤ (((w1.setCell ⟨q, 0, none⟩ (.bool Pb.none)).setCell ⟨q, 1, none⟩ (.slice cs Pb.vars.length cc)).setCell ⟨q, 2, none⟩ (.slice cf Pb.flds.length ce)).heap.size := by simp [World.setCell]
      exact ⟨cs, cc, cf, ce, ((Q01.put0 _).put1 _).put2 _, (ON1.same (fun b h _ => hch b (by omega)) hcz).mono fun b h _ => h.1, Q11.same (hch _ (by omega)) hcz, Q21.same (hch _ (by omega)) hcz, ((B1.setCell (by simp only; omega) _).setCell (by simp only; omega) _).setCell (by simp only; omega) _, Nat.le_trans z1 hcz⟩
    · have e1b : (u == 0) = false := by simpa using e1
      obtain rfl := HZ1.out e1
      go_wp2_with fail
      go_meet
      exact ⟨none, 0, none, 0, Q0, fun w2 _ _ => ⟨fun i hi => absurd hi (by simp [zeroPic]), fun i hi => absurd hi (by simp [zeroPic])⟩, Q1, Q2, BQ, zq⟩
  obtain ⟨cs, cc, cf, ce, U0, O0, U1, U2, BR, zr⟩ := hcut
  clear Q0 Q1 Q2 BQ zq
  generalize wc = wS at *
  clear wc
  go_upto_if 64 with fail
  go_cut [21] (fun t21 wy => t21 = .bool isIn ∧ ∃ cs cc cf ce us uc gs gc ts tc hs hc, X3 wy q (.bool Pb.none) (.slice cs Pb.vars.length cc) (.slice cf Pb.flds.length ce) ∧ PicAt wy Pb cs cf ∧ X3 wy (q + 1) (.bool J.none) (.slice us J.vars.length uc) (.slice gs J.flds.length gc) ∧ PicAt wy J us gs ∧ X3 wy (q + 1 + 1) (.bool Z.none) (.slice ts Z.vars.length tc) (.slice hs Z.flds.length hc) ∧ PicAt wy Z ts hs ∧ Below q wQ wy)
  case first =>
    rename_i J1 K1 hJ1 hK1
    by_cases e1 : wv = 0
    · subst e1
      have HJ0 := hideH (HJR.out rfl)
      have HZ0 := hideH (HWR.out rfl)
      have HI0 := hideH (HIN.out rfl)
      go_wp2_with fail
      have B1 := BR.drew
      have U1' : X3 wS.drew q _ _ _ := U0
      have V1' : X3 wS.drew (q + 1) (.bool false) (.slice none 0 0) (.slice none 0 0) := U1
      have T1' : X3 wS.drew (q + 1 + 1) (.bool false) (.slice none 0 0) (.slice none 0 0) := U2
      have O1' : PicOn (fun b => q + 1 + 1 + 1 ≤ b) wS.drew Pb cs cf := O0
      have zs1 : q + 1 + 1 + 1 ≤ wS.drew.heap.size := zr
      refine wp_region_held_drew (S := (fun wx => (wx.cell? ⟨w.heap.size, 0, none⟩ = some (.int .i64 V) ∧ wx.cell? ⟨w.heap.size, 1, none⟩ = some (.int .i64 F) ∧ wx.cell? ⟨w.heap.size, 2, none⟩ = some (.slice s c.length cap)) ∧ (wx.cell? ⟨w.heap.size + 1, 0, none⟩ = some (.bool x.none) ∧ wx.cell? ⟨w.heap.size + 1, 1, none⟩ = some (.slice vs1 x.vars.length vc1) ∧ wx.cell? ⟨w.heap.size + 1, 2, none⟩ = some (.slice fs1 x.flds.length fc1)) ∧ (wx.cell? ⟨w.heap.size + 1 + 1, 0, none⟩ = some (.bool y.none) ∧ wx.cell? ⟨w.heap.size + 1 + 1, 1, none⟩ = some (.slice vs2 y.vars.length vc2) ∧ wx.cell? ⟨w.heap.size + 1 + 1, 2, none⟩ = some (.slice fs2 y.flds.length fc2)))) (by kernel_rfl) ⟨(LQ B1).1.1, (LQ B1).2.1.1, (LQ B1).2.2.1.1⟩ (fun hHeld => ?_)
      clear BR U0 U1 U2 O0 zr
      generalize wS.drew = w1 at *
      have U1 := U1'
      have V1 := V1'
      have T1 := T1'
      have O1 := O1'
      clear U1' V1' T1' O1'
      refine tkH 0 ?_ ?_ ?_
      rotate_left
      · exact rn
      (try simp only [Act.put, List.getElem_toArray, List.getElem_cons_zero, List.getElem_cons_succ, List.setIfInBounds_toArray, List.set_cons_zero, List.set_cons_succ])
      refine tkH 1 ?_ ?_ ?_
      rotate_left
      · exact rn
      (try simp only [Act.put, List.getElem_toArray, List.getElem_cons_zero, List.getElem_cons_succ, List.setIfInBounds_toArray, List.set_cons_zero, List.set_cons_succ])
      refine tkH 3 ?_ ?_ ?_
      rotate_left
      · exact rn
      (try simp only [Act.put, List.getElem_toArray, List.getElem_cons_zero, List.getElem_cons_succ, List.setIfInBounds_toArray, List.set_cons_zero, List.set_cons_succ])
      refine tkH 4 ?_ ?_ ?_
      rotate_left
      · exact rn
      (try simp only [Act.put, List.getElem_toArray, List.getElem_cons_zero, List.getElem_cons_succ, List.setIfInBounds_toArray, List.set_cons_zero, List.set_cons_succ])
      refine tkH 6 ?_ ?_ ?_
      rotate_left
      · exact rn
      (try simp only [Act.put, List.getElem_toArray, List.getElem_cons_zero, List.getElem_cons_succ, List.setIfInBounds_toArray, List.set_cons_zero, List.set_cons_succ])
      refine tkH 7 ?_ ?_ ?_
      rotate_left
      · exact rn
      (try simp only [Act.put, List.getElem_toArray, List.getElem_cons_zero, List.getElem_cons_succ, List.setIfInBounds_toArray, List.set_cons_zero, List.set_cons_succ])
      refine wpAnyH_ready (rs := [2]) (by kernel_rfl) (by simp) ?_
      refine AllReadyH.cons rfl (fun K hK => ?_) AllReadyH.nil
      go_simp
      have zi := zs1
      refine (HJ0.out (fun b => b < w.heap.size) w1 (HPX.out w1 (LQ2 B1)) (HPY.out w1 (LQ2 B1))).mono ?_
      rintro e w2 ⟨⟨us, uc, gs, gc, rfl, ON⟩, hb2⟩
      have U2 := U1.call hb2
      have O2 := O1.call hb2
      have V2 := V1.call hb2
      have T2 := T1.call hb2
      have B2 := B1.trans (hb2.mono (Nat.le_trans (Nat.le_of_eq HQQ.out) B1.size))
      have OJ2 : PicOn (fun b => b < w.heap.size ∨ q + 1 + 1 + 1 ≤ b) w2 J us gs := ON.mono fun b h _ => by omega
      have zs2 : q + 1 + 1 + 1 ≤ w2.heap.size := by have := hb2.size; omega
      clear ON zi
      refine hK.out _ _ (⟨(LQ B2).1.1, (LQ B2).2.1.1, (LQ B2).2.2.1.1⟩) (fun hHeld2 => ?_)
      clear hK K hb2 U1 O1 V1 T1 B1
      (try simp only [Act.put, List.getElem_toArray, List.getElem_cons_zero, List.getElem_cons_succ, List.setIfInBounds_toArray, List.set_cons_zero, List.set_cons_succ])
      refine wpAnyH_ready (rs := [5]) (by kernel_rfl) (by simp) ?_
      refine AllReadyH.cons rfl (fun K hK => ?_) AllReadyH.nil
      go_simp
      have zi := zs2
      refine (HZ0.out (fun b => b < w.heap.size) w2 (HPX.out w2 (LQ2 B2)) (HPY.out w2 (LQ2 B2))).mono ?_
      rintro e w3 ⟨⟨ts, tc, hs, hc, rfl, ON⟩, hb3⟩
      have U3 := U2.call hb3
      have O3 := O2.call hb3
      have V3 := V2.call hb3
      have T3 := T2.call hb3
      have OJ3 := OJ2.call hb3
      have B3 := B2.trans (hb3.mono (Nat.le_trans (Nat.le_of_eq HQQ.out) B2.size))
      have OZ3 : PicOn (fun b => b < w.heap.size ∨ q + 1 + 1 + 1 ≤ b) w3 Z ts hs := ON.mono fun b h _ => by omega
      clear ON zi
      refine hK.out _ _ (⟨(LQ B3).1.1, (LQ B3).2.1.1, (LQ B3).2.2.1.1⟩) (fun hHeld3 => ?_)
      clear hK K hb3 U2 O2 V2 T2 OJ2 B2
      (try simp only [Act.put, List.getElem_toArray, List.getElem_cons_zero, List.getElem_cons_succ, List.setIfInBounds_toArray, List.set_cons_zero, List.set_cons_succ])
      refine wpAnyH_ready (rs := [8]) (by kernel_rfl) (by simp) ?_
      refine AllReadyH.cons rfl (fun K hK => ?_) AllReadyH.nil
      go_simp
      refine (HI0.out w3 (LQ B3).2.2.2.2.1 (LQ B3).2.2.2.2.2).mono ?_
      rintro e w4 ⟨rfl, hb4⟩
      have U4 := U3.call hb4
      have O4 := O3.call hb4
      have V4 := V3.call hb4
      have T4 := T3.call hb4
      have OJ4 := OJ3.call hb4
      have OZ4 := OZ3.call hb4
      have B4 := B3.trans (hb4.mono (Nat.le_trans (Nat.le_of_eq HQQ.out) B3.size))
      refine hK.out _ _ (⟨(LQ B4).1.1, (LQ B4).2.1.1, (LQ B4).2.2.1.1⟩) (fun hHeld4 => ?_)
      clear hK K hb4 U3 O3 V3 T3 OJ3 OZ3 B3
      (try simp only [Act.put, List.getElem_toArray, List.getElem_cons_zero, List.getElem_cons_succ, List.setIfInBounds_toArray, List.set_cons_zero, List.set_cons_succ])
      refine wpAnyH_ready (rs := [9]) (by kernel_rfl) (by simp) ?_
      refine AllReadyH.cons rfl (fun K hK => ?_) AllReadyH.nil
      obtain ⟨⟨d0, d1, d2⟩, dz, df⟩ := id V4
      have g0 := df 0
      have g1 := df 1
      have g2 := df 2
      clear df
      go_simp
      have hch : ∀ b, b ≠ q + 1 → (((w4.setCell ⟨q + 1, 0, none⟩ (.bool J.none)).setCell ⟨q + 1, 1, none⟩ (.slice us J.vars.length uc)).setCell ⟨q + 1, 2, none⟩ (.slice gs J.flds.length gc)).heap[b]? = w4.heap[b]? := fun b hb => by rw [Below.heap_setCell _ _ _ _ hb, Below.heap_setCell _ _ _ _ hb, Below.heap_setCell _ _ _ _ hb]
      have hcz : w4.heap.size ≤ (((w4.setCell ⟨q + 1, 0, none⟩ (.bool J.none)).setCell ⟨q + 1, 1, none⟩ (.slice us J.vars.length uc)).setCell ⟨q + 1, 2, none⟩ (.slice gs J.flds.length gc)).heap.size := by simp [World.setCell]
      have V5 : X3 (((w4.setCell ⟨q + 1, 0, none⟩ (.bool J.none)).setCell ⟨q + 1, 1, none⟩ (.slice us J.vars.length uc)).setCell ⟨q + 1, 2, none⟩ (.slice gs J.flds.length gc)) (q + 1) (.bool J.none) (.slice us J.vars.length uc) (.slice gs J.flds.length gc) := ((V4.put0 _).put1 _).put2 _
      have B5 : Below q wQ (((w4.setCell ⟨q + 1, 0, none⟩ (.bool J.none)).setCell ⟨q + 1, 1, none⟩ (.slice us J.vars.length uc)).setCell ⟨q + 1, 2, none⟩ (.slice gs J.flds.length gc)) := ((B4.setCell (by simp only; omega) _).setCell (by simp only; omega) _).setCell (by simp only; omega) _
      have U5 : X3 (((w4.setCell ⟨q + 1, 0, none⟩ (.bool J.none)).setCell ⟨q + 1, 1, none⟩ (.slice us J.vars.length uc)).setCell ⟨q + 1, 2, none⟩ (.slice gs J.flds.length gc)) (q) _ _ _ := U4.same (hch _ (by omega)) hcz
      have T5 : X3 (((w4.setCell ⟨q + 1, 0, none⟩ (.bool J.none)).setCell ⟨q + 1, 1, none⟩ (.slice us J.vars.length uc)).setCell ⟨q + 1, 2, none⟩ (.slice gs J.flds.length gc)) (q + 1 + 1) _ _ _ := T4.same (hch _ (by omega)) hcz
      have O5 := (O4.same (fun b h _ => hch b (by omega)) hcz).mono (S' := fun b => q + 1 + 1 + 1 ≤ b) fun b h _ => h.1
      have OJ5 := (OJ4.same (fun b h _ => hch b (by omega)) hcz).mono (S' := fun b => b < w.heap.size ∨ q + 1 + 1 + 1 ≤ b) fun b h _ => h.1
      have OZ5 := (OZ4.same (fun b h _ => hch b (by omega)) hcz).mono (S' := fun b => b < w.heap.size ∨ q + 1 + 1 + 1 ≤ b) fun b h _ => h.1
      refine hK.out _ _ (⟨(LQ B5).1.1, (LQ B5).2.1.1, (LQ B5).2.2.1.1⟩) (fun hHeld5 => ?_)
      clear hK K hch hcz d0 d1 d2 dz g0 g1 g2 U4 V4 T4 O4 OJ4 OZ4 B4
      (try simp only [Act.put, List.getElem_toArray, List.getElem_cons_zero, List.getElem_cons_succ, List.setIfInBounds_toArray, List.set_cons_zero, List.set_cons_succ])
      generalize (((w4.setCell ⟨q + 1, 0, none⟩ (.bool J.none)).setCell ⟨q + 1, 1, none⟩ (.slice us J.vars.length uc)).setCell ⟨q + 1, 2, none⟩ (.slice gs J.flds.length gc)) = w5 at *
      refine wpAnyH_ready (rs := [10]) (by kernel_rfl) (by simp) ?_
      refine AllReadyH.cons rfl (fun K hK => ?_) AllReadyH.nil
      obtain ⟨⟨d0, d1, d2⟩, dz, df⟩ := id T5
      have g0 := df 0
      have g1 := df 1
      have g2 := df 2
      clear df
      go_simp
      have hch : ∀ b, b ≠ q + 1 + 1 → (((w5.setCell ⟨q + 1 + 1, 0, none⟩ (.bool Z.none)).setCell ⟨q + 1 + 1, 1, none⟩ (.slice ts Z.vars.length tc)).setCell ⟨q + 1 + 1, 2, none⟩ (.slice hs Z.flds.length hc)).heap[b]? = w5.heap[b]? := fun b hb => by rw [Below.heap_setCell _ _ _ _ hb, Below.heap_setCell _ _ _ _ hb, Below.heap_setCell _ _ _ _ hb]
      have hcz : w5.heap.size ≤ (((w5.setCell ⟨q + 1 + 1, 0, none⟩ (.bool Z.none)).setCell ⟨q + 1 + 1, 1, none⟩ (.slice ts Z.vars.length tc)).setCell ⟨q + 1 + 1, 2, none⟩ (.slice hs Z.flds.length hc)).heap.size := by simp [World.setCell]
      have T6 : X3 (((w5.setCell ⟨q + 1 + 1, 0, none⟩ (.bool Z.none)).setCell ⟨q + 1 + 1, 1, none⟩ (.slice ts Z.vars.length tc)).setCell ⟨q + 1 + 1, 2, none⟩ (.slice hs Z.flds.length hc)) (q + 1 + 1) (.bool Z.none) (.slice ts Z.vars.length tc) (.slice hs Z.flds.length hc) := ((T5.put0 _).put1 _).put2 _
      have B6 : Below q wQ (((w5.setCell ⟨q + 1 + 1, 0, none⟩ (.bool Z.none)).setCell ⟨q + 1 + 1, 1, none⟩ (.slice ts Z.vars.length tc)).setCell ⟨q + 1 + 1, 2, none⟩ (.slice hs Z.flds.length hc)) := ((B5.setCell (by simp only; omega) _).setCell (by simp only; omega) _).setCell (by simp only; omega) _
      have U6 : X3 (((w5.setCell ⟨q + 1 + 1, 0, none⟩ (.bool Z.none)).setCell ⟨q + 1 + 1, 1, none⟩ (.slice ts Z.vars.length tc)).setCell ⟨q + 1 + 1, 2, none⟩ (.slice hs Z.flds.length hc)) (q) _ _ _ := U5.same (hch _ (by omega)) hcz
      have V6 : X3 (((w5.setCell ⟨q + 1 + 1, 0, none⟩ (.bool Z.none)).setCell ⟨q + 1 + 1, 1, none⟩ (.slice ts Z.vars.length tc)).setCell ⟨q + 1 + 1, 2, none⟩ (.slice hs Z.flds.length hc)) (q + 1) _ _ _ := V5.same (hch _ (by omega)) hcz
      have O6 := (O5.same (fun b h _ => hch b (by omega)) hcz).mono (S' := fun b => q + 1 + 1 + 1 ≤ b) fun b h _ => h.1
      have OJ6 := (OJ5.same (fun b h _ => hch b (by omega)) hcz).mono (S' := fun b => b < w.heap.size ∨ q + 1 + 1 + 1 ≤ b) fun b h _ => h.1
      have OZ6 := (OZ5.same (fun b h _ => hch b (by omega)) hcz).mono (S' := fun b => b < w.heap.size ∨ q + 1 + 1 + 1 ≤ b) fun b h _ => h.1
      refine hK.out _ _ (⟨(LQ B6).1.1, (LQ B6).2.1.1, (LQ B6).2.2.1.1⟩) (fun hHeld6 => ?_)
      clear hK K hch hcz d0 d1 d2 dz g0 g1 g2 U5 V5 T5 O5 OJ5 OZ5 B5
      (try simp only [Act.put, List.getElem_toArray, List.getElem_cons_zero, List.getElem_cons_succ, List.setIfInBounds_toArray, List.set_cons_zero, List.set_cons_succ])
      generalize (((w5.setCell ⟨q + 1 + 1, 0, none⟩ (.bool Z.none)).setCell ⟨q + 1 + 1, 1, none⟩ (.slice ts Z.vars.length tc)).setCell ⟨q + 1 + 1, 2, none⟩ (.slice hs Z.flds.length hc)) = w6 at *
      refine tkH 11 ?_ ?_ ?_
      rotate_left
      · exact rn
      (try simp only [Act.put, List.getElem_toArray, List.getElem_cons_zero, List.getElem_cons_succ, List.setIfInBounds_toArray, List.set_cons_zero, List.set_cons_succ])
      refine wpAnyH_done (by kernel_rfl) ?_ _
      first | refine hK1 _ _ (Met.intro (hJ1 _ _ ?_)) | refine Met.intro (hJ1 _ _ ?_) | refine hJ1 _ _ ?_
      (repeat apply Exists.intro)
      refine ⟨?_, rfl⟩
      exact ⟨rfl, cs, cc, cf, ce, us, uc, gs, gc, ts, tc, hs, hc, U6, O6.at, V6, OJ6.at, T6, OZ6.at, B6⟩
    · have e1b : (wv == 0) = false := by simpa using e1
      obtain ⟨rfl, rfl, rfl⟩ := HZ2.out e1
      go_wp2_with fail
      first | refine hK1 _ _ (Met.intro (hJ1 _ _ ?_)) | refine Met.intro (hJ1 _ _ ?_) | refine hJ1 _ _ ?_
      (repeat apply Exists.intro)
      refine ⟨?_, rfl⟩
      exact ⟨rfl, cs, cc, cf, ce, none, 0, none, 0, none, 0, none, 0, U0, O0.at, U1, ⟨fun i hi => absurd hi (by simp [zeroPic]), fun i hi => absurd hi (by simp [zeroPic])⟩, U2, ⟨fun i hi => absurd hi (by simp [zeroPic]), fun i hi => absurd hi (by simp [zeroPic])⟩, BR⟩
  obtain ⟨rfl, cs', cc', cf', ce', us, uc, gs, gc, ts, tc, hs, hc, M0, N0, M1, N1, M2, N2, BM⟩ := hcut
  clear U0 O0 U1 U2 BR zr
  generalize wc = wM at *
  clear wc
  rw [HQQ.out] at BM
  have ABm := ABq.call BM
  have KBm := KBq.call BM
  have AJm := AJq.call BM
  have KJm := KJq.call BM
  have AZm := AZq.call BM
  have KZm := KZq.call BM
  have BBm := BBq.trans (BM.mono BBq.size)
  clear ABq KBq AJq KJq AZq KZq BBq BM
  go_wp2_with (go_at_call 31; fail)
  refine (HBE.out wM).mono ?_
  rintro e w20 ⟨rfl, hb20⟩
  have ABm' := ABm.call hb20
  have KBm' := KBm.call hb20
  have AJm' := AJm.call hb20
  have KJm' := KJm.call hb20
  have AZm' := AZm.call hb20
  have KZm' := KZm.call hb20
  have M0' := M0.call hb20
  have N0' := N0.call hb20
  have M1' := M1.call hb20
  have N1' := N1.call hb20
  have M2' := M2.call hb20
  have N2' := N2.call hb20
  have BBn := BBm.trans (hb20.mono BBm.size)
  clear ABm KBm AJm KJm AZm KZm M0 N0 M1 N1 M2 N2 BBm hb20
  have ABm := ABm'
  have KBm := KBm'
  have AJm := AJm'
  have KJm := KJm'
  have AZm := AZm'
  have KZm := KZm'
  have M0 := M0'
  have N0 := N0'
  have M1 := M1'
  have N1 := N1'
  have M2 := M2'
  have N2 := N2'
  have BBm := BBn
  clear ABm' KBm' AJm' KJm' AZm' KZm' M0' N0' M1' N1' M2' N2' BBn
  obtain ⟨⟨⟨p0, p1, p2⟩, pz⟩, ⟨⟨a0, a1, a2⟩, az, -⟩, -⟩ := id (L0.below BBm)
  go_wp2_with (go_at_call 32; fail)
  refine (HCK.out w20 (L0.below BBm).2.2.2.1 (L0.below BBm).2.2.2.2.1).mono ?_
  rintro e w21 ⟨rfl, hb21⟩
  have ABm' := ABm.call hb21
  have KBm' := KBm.call hb21
  have AJm' := AJm.call hb21
  have KJm' := KJm.call hb21
  have AZm' := AZm.call hb21
  have KZm' := KZm.call hb21
  have M0' := M0.call hb21
  have N0' := N0.call hb21
  have M1' := M1.call hb21
  have N1' := N1.call hb21
  have M2' := M2.call hb21
  have N2' := N2.call hb21
  have BBn := BBm.trans (hb21.mono BBm.size)
  clear ABm KBm AJm KJm AZm KZm M0 N0 M1 N1 M2 N2 BBm hb21
  have ABm := ABm'
  have KBm := KBm'
  have AJm := AJm'
  have KJm := KJm'
  have AZm := AZm'
  have KZm := KZm'
  have M0 := M0'
  have N0 := N0'
  have M1 := M1'
  have N1 := N1'
  have M2 := M2'
  have N2 := N2'
  have BBm := BBn
  clear ABm' KBm' AJm' KJm' AZm' KZm' M0' N0' M1' N1' M2' N2' BBn
  clear p0 p1 p2 pz a0 a1 a2 az
  obtain ⟨⟨r0, r1, r2⟩, rz, -⟩ := id ABm
  obtain ⟨⟨x0, x1, x2⟩, xz, -⟩ := id M0
  go_wp2_with (go_at_call 33; fail)
  refine (pictureIs_U Pb bs bc bf be u cs' cc' cf' ce' w21 KBm N0 (lenPic_of c1B c2B) HZ1.out).mono ?_
  rintro e w22 ⟨rfl, hb22⟩
  have ABm' := ABm.call hb22
  have KBm' := KBm.call hb22
  have AJm' := AJm.call hb22
  have KJm' := KJm.call hb22
  have AZm' := AZm.call hb22
  have KZm' := KZm.call hb22
  have M0' := M0.call hb22
  have N0' := N0.call hb22
  have M1' := M1.call hb22
  have N1' := N1.call hb22
  have M2' := M2.call hb22
  have N2' := N2.call hb22
  have BBn := BBm.trans (hb22.mono BBm.size)
  clear ABm KBm AJm KJm AZm KZm M0 N0 M1 N1 M2 N2 BBm hb22
  have ABm := ABm'
  have KBm := KBm'
  have AJm := AJm'
  have KJm := KJm'
  have AZm := AZm'
  have KZm := KZm'
  have M0 := M0'
  have N0 := N0'
  have M1 := M1'
  have N1 := N1'
  have M2 := M2'
  have N2 := N2'
  have BBm := BBn
  clear ABm' KBm' AJm' KJm' AZm' KZm' M0' N0' M1' N1' M2' N2' BBn
  clear r0 r1 r2 rz x0 x1 x2 xz
  obtain ⟨⟨r0, r1, r2⟩, rz, -⟩ := id AJm
  obtain ⟨⟨x0, x1, x2⟩, xz, -⟩ := id M1
  go_wp2_with (go_at_call 33; fail)
  refine (pictureIs_U J js jc jf je wv us uc gs gc w22 KJm N1 (lenPic_of c1J c2J) (fun e => (HZ2.out e).1)).mono ?_
  rintro e w23 ⟨rfl, hb23⟩
  have ABm' := ABm.call hb23
  have KBm' := KBm.call hb23
  have AJm' := AJm.call hb23
  have KJm' := KJm.call hb23
  have AZm' := AZm.call hb23
  have KZm' := KZm.call hb23
  have M0' := M0.call hb23
  have N0' := N0.call hb23
  have M1' := M1.call hb23
  have N1' := N1.call hb23
  have M2' := M2.call hb23
  have N2' := N2.call hb23
  have BBn := BBm.trans (hb23.mono BBm.size)
  clear ABm KBm AJm KJm AZm KZm M0 N0 M1 N1 M2 N2 BBm hb23
  have ABm := ABm'
  have KBm := KBm'
  have AJm := AJm'
  have KJm := KJm'
  have AZm := AZm'
  have KZm := KZm'
  have M0 := M0'
  have N0 := N0'
  have M1 := M1'
  have N1 := N1'
  have M2 := M2'
  have N2 := N2'
  have BBm := BBn
  clear ABm' KBm' AJm' KJm' AZm' KZm' M0' N0' M1' N1' M2' N2' BBn
  clear r0 r1 r2 rz x0 x1 x2 xz
  obtain ⟨⟨r0, r1, r2⟩, rz, -⟩ := id AZm
  obtain ⟨⟨x0, x1, x2⟩, xz, -⟩ := id M2
  go_wp2_with (go_at_call 33; fail)
  refine (pictureIs_U Z zs zc zf ze wv ts tc hs hc w23 KZm N2 (lenPic_of c1Z c2Z) (fun e => (HZ2.out e).2.1)).mono ?_
  rintro e w24 ⟨rfl, hb24⟩
  have ABm' := ABm.call hb24
  have KBm' := KBm.call hb24
  have AJm' := AJm.call hb24
  have KJm' := KJm.call hb24
  have AZm' := AZm.call hb24
  have KZm' := KZm.call hb24
  have M0' := M0.call hb24
  have N0' := N0.call hb24
  have M1' := M1.call hb24
  have N1' := N1.call hb24
  have M2' := M2.call hb24
  have N2' := N2.call hb24
  have BBn := BBm.trans (hb24.mono BBm.size)
  clear ABm KBm AJm KJm AZm KZm M0 N0 M1 N1 M2 N2 BBm hb24
  have ABm := ABm'
  have KBm := KBm'
  have AJm := AJm'
  have KJm := KJm'
  have AZm := AZm'
  have KZm := KZm'
  have M0 := M0'
  have N0 := N0'
  have M1 := M1'
  have N1 := N1'
  have M2 := M2'
  have N2 := N2'
  have BBm := BBn
  clear ABm' KBm' AJm' KJm' AZm' KZm' M0' N0' M1' N1' M2' N2' BBn
  clear r0 r1 r2 rz x0 x1 x2 xz
  go_wp2
  go_ret
  exact ⟨rfl, B0.trans (BBm.mono B0.size)⟩
end Go.Proofs.YtmapdpcfanecdaaGreat
