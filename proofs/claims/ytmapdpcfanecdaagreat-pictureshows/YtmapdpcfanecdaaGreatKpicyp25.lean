/- Walks over package guess: two guesses that are put together: join. -/
import Derived.Test.YtmapdpcfanecdaaGreatKpicyp24
namespace Go.Proofs.YtmapdpcfanecdaaGreat
set_option linter.unusedVariables false
set_option linter.unusedSimpArgs false
open Go.RowKit

set_option maxHeartbeats 4000000 in
set_option maxRecDepth 10000 in
theorem togetherG_join (V F : Int) (s : Option Addr) (c : List Ins) (cap : Nat) (g : Gs) (ss : Option Addr) (gc : Nat) (h : Gs) (st : Option Addr) (hc : Nat) (w : World)
    (hcd : CodeAt w s c) (hs : IntsAt w ss g.s) (h1 : g.s.length ≤ gc) (h2 : gc ≤ maxLen) (ht : IntsAt w st h.s) (h3 : h.s.length ≤ hc) (h4 : hc ≤ maxLen) (hck : ckAllG V F c [g, h] = 0) (hlen : ([g, h].flatMap Gs.s).length ≤ 1000000) :
    Calls Tryz.prog 37 #[pv V F s c cap, gv g ss gc, gv h st hc, .func (.func 38) #[] #[]] w fun e w' => ∃ v, e = .returned (.tuple #[.agg #[.bool (g.n || h.n), .bool (joinSp g.sp h.sp).n, .int .i64 (joinSp g.sp h.sp).lo, .int .i64 (joinSp g.sp h.sp).hi, .bool (g.t || h.t), .bool (g.f || h.f), v], .int .i64 0]) ∧ w'.ownsRow w.heap.size 3 1 v (sitesOf [g, h]).length ((sitesOf [g, h]).map (.int .i64)) ∧ Below w.heap.size w w' := by
  obtain ⟨P0, G0, H0, R0, F0⟩ := togW_at w V F s c cap g ss gc h st hc
  have B0 := togW_below w V F s c cap g ss gc h st hc
  have C0 : CodeAt (togW w V F s c cap g ss gc h st hc) s c := hcd.below B0 (Nat.le_refl _)
  have I0 : IntsAt (togW w V F s c cap g ss gc h st hc) ss g.s := hs.below B0 (Nat.le_refl _)
  have J0 : IntsAt (togW w V F s c cap g ss gc h st hc) st h.s := ht.below B0 (Nat.le_refl _)
  have L0 := GsAt.new2 (togW w V F s c cap g ss gc h st hc) g ss gc h st hc I0 h1 h2 J0 h3 h4
  simp only [World.size_alloc] at L0
  have hJ0 := fun w => joinF_any g.sp h.sp w
  rw [ckAllG_spans hck, show ∀ r, spIf 0 r = r from fun r => rfl] at hJ0
  have hJ := hideH hJ0
  have HK := hideH hck
  clear hck hJ0
  generalize joinSp g.sp h.sp = J at hJ ⊢
  go_enter Tryz.func37, Tryz.ntmps37
  go_wp2_with (go_at_call 40; fail)
  refine (checkAllG_any V F s c cap _ [g, h] 2 _ (C0.alloc _) L0 (by simp)).mono ?_
  rintro e w1 ⟨rfl, hb1⟩
  rw [HK.out]
  have G1 := (G0.alloc _).call hb1
  have H1 := (H0.alloc _).call hb1
  have R1 := (R0.alloc _).call hb1
  have I1 := (I0.alloc _).call hb1
  have J1 := (J0.alloc _).call hb1
  have F1 : Fr7 w1 (w.heap.size + 1 + 1 + 1) := (F0.alloc _).call hb1
  have B1 : Below w.heap.size w w1 := (B0.alloc B0.size _).trans (hb1.mono (by simp; omega))
  clear hb1 G0 H0 R0 I0 J0 F0 B0 C0 P0 L0 hcd hs ht HK
  obtain ⟨⟨g0, g1, g2, g3, g4, g5, g6⟩, gz⟩ := id G1
  obtain ⟨⟨k0, k1, k2, k3, k4, k5, k6⟩, kz⟩ := id H1
  simp only [Nat.zero_add] at g0 g1 g2 g3 g4 g5 g6 k0 k1 k2 k3 k4 k5 k6
  go_wp2_with (go_at_call 38; fail)
  refine (hJ.out _).mono ?_
  rintro e w2 ⟨rfl, hb2⟩
  have G2 := G1.call hb2
  have H2 := H1.call hb2
  have R2 := R1.call hb2
  have I2 := I1.call hb2
  have J2 := J1.call hb2
  have F2 := F1.call hb2
  have B2 := B1.trans (hb2.mono B1.size)
  clear hb2 G1 H1 R1 I1 J1 F1 B1 g0 g1 g2 g3 g4 g5 g6 gz k0 k1 k2 k3 k4 k5 k6 kz hJ
  go_wp2
  have G3 := G2.alloc (.cells #[.bool J.n, .int .i64 J.lo, .int .i64 J.hi] 26)
  have H3 := H2.alloc (.cells #[.bool J.n, .int .i64 J.lo, .int .i64 J.hi] 26)
  have R3 := R2.alloc (.cells #[.bool J.n, .int .i64 J.lo, .int .i64 J.hi] 26)
  have I3 := I2.alloc (.cells #[.bool J.n, .int .i64 J.lo, .int .i64 J.hi] 26)
  have J3 := J2.alloc (.cells #[.bool J.n, .int .i64 J.lo, .int .i64 J.hi] 26)
  have F3 := F2.alloc (.cells #[.bool J.n, .int .i64 J.lo, .int .i64 J.hi] 26)
  have B3 := B2.alloc B2.size (.cells #[.bool J.n, .int .i64 J.lo, .int .i64 J.hi] 26)
  have S3 := SpAt.new w2 J
  have zj : w.heap.size + 1 + 1 + 1 < w2.heap.size := F2.2
  clear G2 H2 R2 I2 J2 F2 B2
  generalize w2.alloc (.cells #[.bool J.n, .int .i64 J.lo, .int .i64 J.hi] 26) = w3 at *
  generalize w2.heap.size = jb at *
  have KS : ∀ wx, GuAt wx (w.heap.size + 1) 0 g ss gc → GuAt wx (w.heap.size + 1 + 1) 0 h st hc → SpAt wx jb J → regS w jb g ss gc h st hc J wx := fun wx a b c => ⟨by simpa using a.1, by simpa using b.1, c.1⟩
  unfold regS at KS
  obtain ⟨n, sp, t, f, sl⟩ := g
  refine wp_region_held_drew (S := regS w jb ⟨n, sp, t, f, sl⟩ ss gc h st hc J) (by kernel_rfl) (KS _ G3.drew H3.drew S3.drew) (fun hHeld => ?_)
  unfold regS at hHeld ⊢
  refine wpAnyH_take (i := 0) (v := ?_) rfl (by kernel_rfl) (by kernel_rfl) (by kernel_rfl) (fun _ _ _ h => h) (Or.inl ⟨?_, ?_⟩) (by assumption) ?_
  rotate_left
  · rfl
  · (intro w hSw; (try dsimp only at hSw); first | (go_simp; done) | (go_simp; with_reducible rfl))
  (try simp only [Act.put, List.getElem_toArray, List.getElem_cons_zero, List.getElem_cons_succ, List.setIfInBounds_toArray, List.set_cons_zero, List.set_cons_succ])
  refine wpAnyH_take (i := 1) (v := ?_) rfl (by kernel_rfl) (by kernel_rfl) (by kernel_rfl) (fun _ _ _ h => h) (Or.inl ⟨?_, ?_⟩) (by assumption) ?_
  rotate_left
  · rfl
  · (intro w hSw; (try dsimp only at hSw); first | (go_simp; done) | (go_simp; with_reducible rfl))
  (try simp only [Act.put, List.getElem_toArray, List.getElem_cons_zero, List.getElem_cons_succ, List.setIfInBounds_toArray, List.set_cons_zero, List.set_cons_succ])
  refine wpAnyH_take (i := 2) (v := ?_) rfl (by kernel_rfl) (by kernel_rfl) (by kernel_rfl) (fun _ _ _ h => h) (Or.inl ⟨?_, ?_⟩) (by assumption) ?_
  rotate_left
  · rfl
  · (intro w hSw; (try dsimp only at hSw); first | (go_simp; done) | (go_simp; with_reducible rfl))
  (try simp only [Act.put, List.getElem_toArray, List.getElem_cons_zero, List.getElem_cons_succ, List.setIfInBounds_toArray, List.set_cons_zero, List.set_cons_succ])
  refine wpAnyH_take (i := 3) (v := if n = true then undef else .pointer (some ⟨w.heap.size + 1 + 1, 0, none⟩)) rfl (by kernel_rfl) (by kernel_rfl) (by kernel_rfl) (fun _ _ _ h => h) ?_ (by assumption) ?_
  · cases n
    · refine Or.inl ⟨?_, ?_⟩
      · rfl
      · (intro w hSw; (try dsimp only at hSw); first | (go_simp; done) | (go_simp; with_reducible rfl))
    · exact Or.inr ⟨rfl, rfl⟩
  (try simp only [Act.put, List.getElem_toArray, List.getElem_cons_zero, List.getElem_cons_succ, List.setIfInBounds_toArray, List.set_cons_zero, List.set_cons_succ])
  refine wpAnyH_take (i := 4) (v := if n = true then undef else .bool h.n) rfl (by kernel_rfl) (by kernel_rfl) (by kernel_rfl) (fun _ _ _ h => h) ?_ (by assumption) ?_
  · cases n
    · refine Or.inl ⟨?_, ?_⟩
      · rfl
      · (intro w hSw; (try dsimp only at hSw); first | (go_simp; done) | (go_simp; with_reducible rfl))
    · exact Or.inr ⟨rfl, rfl⟩
  (try simp only [Act.put, List.getElem_toArray, List.getElem_cons_zero, List.getElem_cons_succ, List.setIfInBounds_toArray, List.set_cons_zero, List.set_cons_succ])
  refine wpAnyH_take (i := 5) (v := .bool (n || h.n)) rfl (by kernel_rfl) (by kernel_rfl) (by kernel_rfl) (fun _ _ _ h => h) ?_ (by assumption) ?_
  · cases n
    · refine Or.inl ⟨?_, ?_⟩
      · rfl
      · (intro w hSw; (try dsimp only at hSw); first | (go_simp; done) | (go_simp; with_reducible rfl))
    · refine Or.inl ⟨?_, ?_⟩
      · rfl
      · (intro w hSw; (try dsimp only at hSw); first | (go_simp; done) | (go_simp; with_reducible rfl))
  (try simp only [Act.put, List.getElem_toArray, List.getElem_cons_zero, List.getElem_cons_succ, List.setIfInBounds_toArray, List.set_cons_zero, List.set_cons_succ])
  refine wpAnyH_take (i := 6) (v := ?_) rfl (by kernel_rfl) (by kernel_rfl) (by kernel_rfl) (fun _ _ _ h => h) (Or.inl ⟨?_, ?_⟩) (by assumption) ?_
  rotate_left
  · rfl
  · (intro w hSw; (try dsimp only at hSw); first | (go_simp; done) | (go_simp; with_reducible rfl))
  (try simp only [Act.put, List.getElem_toArray, List.getElem_cons_zero, List.getElem_cons_succ, List.setIfInBounds_toArray, List.set_cons_zero, List.set_cons_succ])
  refine wpAnyH_take (i := 7) (v := ?_) rfl (by kernel_rfl) (by kernel_rfl) (by kernel_rfl) (fun _ _ _ h => h) (Or.inl ⟨?_, ?_⟩) (by assumption) ?_
  rotate_left
  · rfl
  · (intro w hSw; (try dsimp only at hSw); first | (go_simp; done) | (go_simp; with_reducible rfl))
  (try simp only [Act.put, List.getElem_toArray, List.getElem_cons_zero, List.getElem_cons_succ, List.setIfInBounds_toArray, List.set_cons_zero, List.set_cons_succ])
  refine wpAnyH_take (i := 8) (v := ?_) rfl (by kernel_rfl) (by kernel_rfl) (by kernel_rfl) (fun _ _ _ h => h) (Or.inl ⟨?_, ?_⟩) (by assumption) ?_
  rotate_left
  · rfl
  · (intro w hSw; (try dsimp only at hSw); first | (go_simp; done) | (go_simp; with_reducible rfl))
  (try simp only [Act.put, List.getElem_toArray, List.getElem_cons_zero, List.getElem_cons_succ, List.setIfInBounds_toArray, List.set_cons_zero, List.set_cons_succ])
  refine wpAnyH_take (i := 9) (v := ?_) rfl (by kernel_rfl) (by kernel_rfl) (by kernel_rfl) (fun _ _ _ h => h) (Or.inl ⟨?_, ?_⟩) (by assumption) ?_
  rotate_left
  · rfl
  · (intro w hSw; (try dsimp only at hSw); first | (go_simp; done) | (go_simp; with_reducible rfl))
  (try simp only [Act.put, List.getElem_toArray, List.getElem_cons_zero, List.getElem_cons_succ, List.setIfInBounds_toArray, List.set_cons_zero, List.set_cons_succ])
  refine wpAnyH_take (i := 10) (v := if t = true then undef else .pointer (some ⟨w.heap.size + 1 + 1, 4, none⟩)) rfl (by kernel_rfl) (by kernel_rfl) (by kernel_rfl) (fun _ _ _ h => h) ?_ (by assumption) ?_
  · cases t
    · refine Or.inl ⟨?_, ?_⟩
      · rfl
      · (intro w hSw; (try dsimp only at hSw); first | (go_simp; done) | (go_simp; with_reducible rfl))
    · exact Or.inr ⟨rfl, rfl⟩
  (try simp only [Act.put, List.getElem_toArray, List.getElem_cons_zero, List.getElem_cons_succ, List.setIfInBounds_toArray, List.set_cons_zero, List.set_cons_succ])
  refine wpAnyH_take (i := 11) (v := if t = true then undef else .bool h.t) rfl (by kernel_rfl) (by kernel_rfl) (by kernel_rfl) (fun _ _ _ h => h) ?_ (by assumption) ?_
  · cases t
    · refine Or.inl ⟨?_, ?_⟩
      · rfl
      · (intro w hSw; (try dsimp only at hSw); first | (go_simp; done) | (go_simp; with_reducible rfl))
    · exact Or.inr ⟨rfl, rfl⟩
  (try simp only [Act.put, List.getElem_toArray, List.getElem_cons_zero, List.getElem_cons_succ, List.setIfInBounds_toArray, List.set_cons_zero, List.set_cons_succ])
  refine wpAnyH_take (i := 12) (v := .bool (t || h.t)) rfl (by kernel_rfl) (by kernel_rfl) (by kernel_rfl) (fun _ _ _ h => h) ?_ (by assumption) ?_
  · cases t
    · refine Or.inl ⟨?_, ?_⟩
      · rfl
      · (intro w hSw; (try dsimp only at hSw); first | (go_simp; done) | (go_simp; with_reducible rfl))
    · refine Or.inl ⟨?_, ?_⟩
      · rfl
      · (intro w hSw; (try dsimp only at hSw); first | (go_simp; done) | (go_simp; with_reducible rfl))
  (try simp only [Act.put, List.getElem_toArray, List.getElem_cons_zero, List.getElem_cons_succ, List.setIfInBounds_toArray, List.set_cons_zero, List.set_cons_succ])
  refine wpAnyH_take (i := 13) (v := ?_) rfl (by kernel_rfl) (by kernel_rfl) (by kernel_rfl) (fun _ _ _ h => h) (Or.inl ⟨?_, ?_⟩) (by assumption) ?_
  rotate_left
  · rfl
  · (intro w hSw; (try dsimp only at hSw); first | (go_simp; done) | (go_simp; with_reducible rfl))
  (try simp only [Act.put, List.getElem_toArray, List.getElem_cons_zero, List.getElem_cons_succ, List.setIfInBounds_toArray, List.set_cons_zero, List.set_cons_succ])
  refine wpAnyH_take (i := 14) (v := ?_) rfl (by kernel_rfl) (by kernel_rfl) (by kernel_rfl) (fun _ _ _ h => h) (Or.inl ⟨?_, ?_⟩) (by assumption) ?_
  rotate_left
  · rfl
  · (intro w hSw; (try dsimp only at hSw); first | (go_simp; done) | (go_simp; with_reducible rfl))
  (try simp only [Act.put, List.getElem_toArray, List.getElem_cons_zero, List.getElem_cons_succ, List.setIfInBounds_toArray, List.set_cons_zero, List.set_cons_succ])
  refine wpAnyH_take (i := 15) (v := ?_) rfl (by kernel_rfl) (by kernel_rfl) (by kernel_rfl) (fun _ _ _ h => h) (Or.inl ⟨?_, ?_⟩) (by assumption) ?_
  rotate_left
  · rfl
  · (intro w hSw; (try dsimp only at hSw); first | (go_simp; done) | (go_simp; with_reducible rfl))
  (try simp only [Act.put, List.getElem_toArray, List.getElem_cons_zero, List.getElem_cons_succ, List.setIfInBounds_toArray, List.set_cons_zero, List.set_cons_succ])
  refine wpAnyH_take (i := 16) (v := if f = true then undef else .pointer (some ⟨w.heap.size + 1 + 1, 5, none⟩)) rfl (by kernel_rfl) (by kernel_rfl) (by kernel_rfl) (fun _ _ _ h => h) ?_ (by assumption) ?_
  · cases f
    · refine Or.inl ⟨?_, ?_⟩
      · rfl
      · (intro w hSw; (try dsimp only at hSw); first | (go_simp; done) | (go_simp; with_reducible rfl))
    · exact Or.inr ⟨rfl, rfl⟩
  (try simp only [Act.put, List.getElem_toArray, List.getElem_cons_zero, List.getElem_cons_succ, List.setIfInBounds_toArray, List.set_cons_zero, List.set_cons_succ])
  refine wpAnyH_take (i := 17) (v := if f = true then undef else .bool h.f) rfl (by kernel_rfl) (by kernel_rfl) (by kernel_rfl) (fun _ _ _ h => h) ?_ (by assumption) ?_
  · cases f
    · refine Or.inl ⟨?_, ?_⟩
      · rfl
      · (intro w hSw; (try dsimp only at hSw); first | (go_simp; done) | (go_simp; with_reducible rfl))
    · exact Or.inr ⟨rfl, rfl⟩
  (try simp only [Act.put, List.getElem_toArray, List.getElem_cons_zero, List.getElem_cons_succ, List.setIfInBounds_toArray, List.set_cons_zero, List.set_cons_succ])
  refine wpAnyH_take (i := 18) (v := .bool (f || h.f)) rfl (by kernel_rfl) (by kernel_rfl) (by kernel_rfl) (fun _ _ _ h => h) ?_ (by assumption) ?_
  · cases f
    · refine Or.inl ⟨?_, ?_⟩
      · rfl
      · (intro w hSw; (try dsimp only at hSw); first | (go_simp; done) | (go_simp; with_reducible rfl))
    · refine Or.inl ⟨?_, ?_⟩
      · rfl
      · (intro w hSw; (try dsimp only at hSw); first | (go_simp; done) | (go_simp; with_reducible rfl))
  (try simp only [Act.put, List.getElem_toArray, List.getElem_cons_zero, List.getElem_cons_succ, List.setIfInBounds_toArray, List.set_cons_zero, List.set_cons_succ])
  refine wpAnyH_take (i := 19) (v := ?_) rfl (by kernel_rfl) (by kernel_rfl) (by kernel_rfl) (fun _ _ _ h => h) (Or.inl ⟨?_, ?_⟩) (by assumption) ?_
  rotate_left
  · rfl
  · (intro w hSw; (try dsimp only at hSw); first | (go_simp; done) | (go_simp; with_reducible rfl))
  (try simp only [Act.put, List.getElem_toArray, List.getElem_cons_zero, List.getElem_cons_succ, List.setIfInBounds_toArray, List.set_cons_zero, List.set_cons_succ])
  refine wpAnyH_take (i := 20) (v := ?_) rfl (by kernel_rfl) (by kernel_rfl) (by kernel_rfl) (fun _ _ _ h => h) (Or.inl ⟨?_, ?_⟩) (by assumption) ?_
  rotate_left
  · rfl
  · (intro w hSw; (try dsimp only at hSw); first | (go_simp; done) | (go_simp; with_reducible rfl))
  (try simp only [Act.put, List.getElem_toArray, List.getElem_cons_zero, List.getElem_cons_succ, List.setIfInBounds_toArray, List.set_cons_zero, List.set_cons_succ])
  have L3 := (GsAt.new2 w3 ⟨n, sp, t, f, sl⟩ ss gc h st hc I3 h1 h2 J3 h3 h4).drew
  have G4 := G3.alloc (.cells #[.bool n, .bool sp.n, .int .i64 sp.lo, .int .i64 sp.hi, .bool t, .bool f, .slice ss sl.length gc, .bool h.n, .bool h.sp.n, .int .i64 h.sp.lo, .int .i64 h.sp.hi, .bool h.t, .bool h.f, .slice st h.s.length hc] 29)
  have H4 := H3.alloc (.cells #[.bool n, .bool sp.n, .int .i64 sp.lo, .int .i64 sp.hi, .bool t, .bool f, .slice ss sl.length gc, .bool h.n, .bool h.sp.n, .int .i64 h.sp.lo, .int .i64 h.sp.hi, .bool h.t, .bool h.f, .slice st h.s.length hc] 29)
  have R4 := R3.alloc (.cells #[.bool n, .bool sp.n, .int .i64 sp.lo, .int .i64 sp.hi, .bool t, .bool f, .slice ss sl.length gc, .bool h.n, .bool h.sp.n, .int .i64 h.sp.lo, .int .i64 h.sp.hi, .bool h.t, .bool h.f, .slice st h.s.length hc] 29)
  have F4 := F3.alloc (.cells #[.bool n, .bool sp.n, .int .i64 sp.lo, .int .i64 sp.hi, .bool t, .bool f, .slice ss sl.length gc, .bool h.n, .bool h.sp.n, .int .i64 h.sp.lo, .int .i64 h.sp.hi, .bool h.t, .bool h.f, .slice st h.s.length hc] 29)
  have S4 := S3.alloc (.cells #[.bool n, .bool sp.n, .int .i64 sp.lo, .int .i64 sp.hi, .bool t, .bool f, .slice ss sl.length gc, .bool h.n, .bool h.sp.n, .int .i64 h.sp.lo, .int .i64 h.sp.hi, .bool h.t, .bool h.f, .slice st h.s.length hc] 29)
  have B4 := (B3.alloc B3.size (.cells #[.bool n, .bool sp.n, .int .i64 sp.lo, .int .i64 sp.hi, .bool t, .bool f, .slice ss sl.length gc, .bool h.n, .bool h.sp.n, .int .i64 h.sp.lo, .int .i64 h.sp.hi, .bool h.t, .bool h.f, .slice st h.s.length hc] 29)).drew
  refine wpAnyH_ready (rs := [21]) (by kernel_rfl) (by simp) ?_
  refine AllReadyH.cons rfl (fun K hK => ?_) AllReadyH.nil
  go_simp
  refine hK.out _ _ (KS _ G4.drew H4.drew S4.drew) (fun hHeld => ?_)
  clear hK K
  (try simp only [Act.put, List.getElem_toArray, List.getElem_cons_zero, List.getElem_cons_succ, List.setIfInBounds_toArray, List.set_cons_zero, List.set_cons_succ])
  refine wpAnyH_ready (rs := [22]) (by kernel_rfl) (by simp) ?_
  refine AllReadyH.cons rfl (fun K hK => ?_) AllReadyH.nil
  go_simp
  refine (allSites_any _ [⟨n, sp, t, f, sl⟩, h] 2 _ L3 (by simp) hlen).mono ?_
  rintro e w5 ⟨v, rfl, hown, hb5⟩
  have G5 := G4.drew.call hb5
  have H5 := H4.drew.call hb5
  have R5 := R4.drew.call hb5
  have F5 := F4.drew.call hb5
  have S5 := S4.drew.call hb5
  have B5 : Below w.heap.size w w5 := B4.trans (hb5.mono B4.size)
  have z5 : w.heap.size + 1 + 1 + 1 < w3.heap.size := F3.2
  simp only [World.size_drew, World.size_alloc] at hown
  have O5 := hown
  clear hb5 G4 H4 R4 F4 S4 B4 L3 G3 H3 R3 F3 S3 B3 I3 J3
  obtain ⟨vs, vc, rfl, -, -, -, hvb⟩ := IntsAt.own hown
  refine hK.out _ _ (KS _ G5 H5 S5) (fun hHeld => ?_)
  clear hK K hown
  (try simp only [Act.put, List.getElem_toArray, List.getElem_cons_zero, List.getElem_cons_succ, List.setIfInBounds_toArray, List.set_cons_zero, List.set_cons_succ])
  refine wpAnyH_take (i := 23) (v := ?_) rfl (by kernel_rfl) (by kernel_rfl) (by kernel_rfl) (fun _ _ _ h => h) (Or.inl ⟨?_, ?_⟩) (by assumption) ?_
  rotate_left
  · rfl
  · (intro w hSw; (try dsimp only at hSw); first | (go_simp; done) | (go_simp; with_reducible rfl))
  (try simp only [Act.put, List.getElem_toArray, List.getElem_cons_zero, List.getElem_cons_succ, List.setIfInBounds_toArray, List.set_cons_zero, List.set_cons_succ])
  obtain ⟨⟨r0, r1, r2, r3, r4, r5, r6⟩, rz⟩ := id R5
  simp only [Nat.zero_add, zeroG] at r0 r1 r2 r3 r4 r5 r6
  have fz := F5.1
  refine wpAnyH_ready (rs := [24]) (by kernel_rfl) (by simp) ?_
  refine AllReadyH.cons rfl (fun K hK => ?_) AllReadyH.nil
  go_simp
  refine hK.out _ _ (KS _ (G5.put7 (by omega)) (H5.put7 (by omega)) (S5.put7 (by omega))) (fun hHeld => ?_)
  clear hK K
  (try simp only [Act.put, List.getElem_toArray, List.getElem_cons_zero, List.getElem_cons_succ, List.setIfInBounds_toArray, List.set_cons_zero, List.set_cons_succ])
  refine wpAnyH_take (i := 25) (v := ?_) rfl (by kernel_rfl) (by kernel_rfl) (by kernel_rfl) (fun _ _ _ h => h) (Or.inl ⟨?_, ?_⟩) (by assumption) ?_
  rotate_left
  · rfl
  · (intro w hSw; (try dsimp only at hSw); first | (go_simp; done) | (go_simp; with_reducible rfl))
  (try simp only [Act.put, List.getElem_toArray, List.getElem_cons_zero, List.getElem_cons_succ, List.setIfInBounds_toArray, List.set_cons_zero, List.set_cons_succ])
  refine wpAnyH_done (by kernel_rfl) ?_ _
  generalize (if n = true then undef else (.pointer (some ⟨w.heap.size + 1 + 1, 0, none⟩) : Value)) = y0
  generalize (if n = true then undef else (.bool h.n : Value)) = y1
  generalize (if t = true then undef else (.pointer (some ⟨w.heap.size + 1 + 1, 4, none⟩) : Value)) = y2
  generalize (if t = true then undef else (.bool h.t : Value)) = y3
  generalize (if f = true then undef else (.pointer (some ⟨w.heap.size + 1 + 1, 5, none⟩) : Value)) = y4
  generalize (if f = true then undef else (.bool h.f : Value)) = y5
  go_wp2
  refine bodyPost_ret (v := .tuple #[.agg #[.bool (n || h.n), .bool J.n, .int .i64 J.lo, .int .i64 J.hi, .bool (t || h.t), .bool (f || h.f), .slice vs (sitesOf [⟨n, sp, t, f, sl⟩, h]).length vc], .int .i64 0]) (by simp [results, Tryz.results37, go_sem, r0, r1, r2, r3, r4, r5, r6]) rfl ⟨_, rfl, ?_, ?_⟩
  · exact ownsRow_base (ownsRow_put7 O5 (by omega)) (by omega)
  · exact below_put7 B5 (by omega)
end Go.Proofs.YtmapdpcfanecdaaGreat
