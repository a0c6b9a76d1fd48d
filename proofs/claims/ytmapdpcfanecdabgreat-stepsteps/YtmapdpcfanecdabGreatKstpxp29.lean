/- Walks over package guess: Do: less. -/
import Derived.Test.YtmapdpcfanecdabGreatKstpxp28
import Derived.Test.YtmapdpcfanecdabGreatKstpxp27
import Derived.Deep.AppendLies
import Derived.Test.YtmapdpcfanecdabGreatKstpxp17
import Derived.Test.YtmapdpcfanecdabGreatKstpxp01
set_option linter.unusedSimpArgs false
set_option linter.unusedVariables false
namespace Go.Proofs.YtmapdpcfanecdabGreat
section
set_option maxHeartbeats 2000000
set_option maxRecDepth 10000
open Go.RowKit

theorem ckAllG_one {V F : Int} {c : List Ins} {g : Gs} (hk : ckAllG V F c [g] = 0) : ckProg V F c = 0 ∧ ckGs c g = 0 := by
 unfold ckAllG at hk
 by_cases h0 : ckProg V F c = 0
 ·rw [if_pos h0] at hk
  have e : ckGss c [g] = if ckGs c g = 0 then 0 else ckGs c g := rfl
  rw [e] at hk
  by_cases hg : ckGs c g = 0
  ·exact ⟨h0, hg⟩
  ·rw [if_neg hg] at hk; exact absurd hk hg
 ·rw [if_neg h0] at hk; exact absurd hk h0
theorem ckGs_sp {c : List Ins} {g : Gs} (h : ckGs c g = 0) : ckSp g.sp = 0 := by
 unfold ckGs at h
 split at h
 ·assumption
 ·rename_i hn; exact Decidable.not_not.1 hn
theorem pgW_at (w : World) (V F : Int) (s : Option Addr) (c : List Ins) (cap : Nat) (g : Gs) (ss : Option Addr) (gc : Nat) : GuAt (pgW w V F s c cap g ss gc) (w.heap.size + 1) 0 g ss gc ∧ Below w.heap.size w (pgW w V F s c cap g ss gc) := by
 refine ⟨?_, by go_grown⟩
 have := GuAt.new (w.alloc (.cells #[.int .i64 V, .int .i64 F, .slice s c.length cap] 24)) g ss gc
 rw [World.size_alloc] at this
 exact this

theorem truthF_ok (V F : Int) (s : Option Addr) (c : List Ins) (cap : Nat) (g : Gs) (ss : Option Addr) (gc : Nat) (w : World) (hcd : CodeAt w s c) (hs : IntsAt w ss g.s) (h1 : g.s.length ≤ gc) (h2 : gc ≤ maxLen) (hck : ckAllG V F c [g] = 0) :
  Calls Tryz.prog 88 #[pv V F s c cap, gv g ss gc] w fun e w' => e = .returned (.tuple #[.bool (yesGs g), .bool (noGs g), .int .i64 0]) ∧ Below w.heap.size w w' := by
 obtain ⟨G0, B0⟩ := pgW_at w V F s c cap g ss gc
 have I0 : IntsAt (pgW w V F s c cap g ss gc) ss g.s := hs.below B0 (Nat.le_refl _)
 have L0 := GsAt.new1 (pgW w V F s c cap g ss gc) g ss gc I0 h1 h2
 simp only [World.size_alloc] at L0
 have HC := hideH (checkAllG_any V F s c cap (some ⟨w.heap.size + 1 + 1, 0, none⟩) [g] 1 _ ((hcd.below B0 (Nat.le_refl _)).alloc _) L0 (by simp))
 have HT := hideH (fun w => truthG_any g ss gc w (ckGs_sp (ckAllG_one hck).2))
 rw [hck] at HC
 generalize yesGs g = y at HT ⊢
 generalize noGs g = n at HT ⊢
 clear hck hcd hs I0 L0
 go_enter Tryz.func88, Tryz.ntmps88
 go_wp2_with (go_at_call 114; fail)
 refine HC.out.mono ?_
 rintro e w1 ⟨rfl, hb1⟩
 have G1 := (G0.alloc _).call hb1
 have B1 : Below w.heap.size w w1 := (B0.alloc B0.size _).trans (hb1.mono (by simp; omega))
 clear hb1 HC G0 B0
 obtain ⟨⟨g0, g1, g2, g3, g4, g5, g6⟩, gz⟩ := id G1
 simp only [Nat.zero_add] at g0 g1 g2 g3 g4 g5 g6
 go_wp2_with (go_at_call 115; fail)
 refine (HT.out _).mono ?_
 rintro e w2 ⟨rfl, hb2⟩
 go_wp2
 go_ret3
 exact ⟨rfl, B1.trans (hb2.mono B1.size)⟩
end
section
set_option maxRecDepth 100000
open Go.RowKit

theorem GuAt.grown {w w' : World} {vb : Option Nat} {b o : Nat} {g : Gs} {ss : Option Addr} {cap : Nat} (hg : w.grownBy w' vb) (h : GuAt w b o g ss cap) (hne : some b ≠ vb) : GuAt w' b o g ss cap := by
 obtain ⟨⟨h0, h1, h2, h3, h4, h5, h6⟩, hz⟩ := h
 have hk := hg.block b hz hne
 have c : ∀ j, w'.cell? ⟨b, j, none⟩ = w.cell? ⟨b, j, none⟩ := fun j => World.cell?_of_block (a := ⟨b, j, none⟩) hk
 exact ⟨⟨by rw [c]; exact h0, by rw [c]; exact h1, by rw [c]; exact h2, by rw [c]; exact h3, by rw [c]; exact h4, by rw [c]; exact h5, by rw [c]; exact h6⟩, Nat.lt_of_lt_of_le hz hg.size⟩
theorem Fr7.grown {w w' : World} {vb : Option Nat} {b : Nat} (hg : w.grownBy w' vb) (h : Fr7 w b) (hne : some b ≠ vb) : Fr7 w' b := by
 have hk := hg.block b h.2 hne
 exact ⟨fun j => by rw [World.frozen?_of_block (a := ⟨b, j, none⟩) hk]; exact h.1 j, Nat.lt_of_lt_of_le h.2 hg.size⟩
theorem GuAt.setFar {w : World} {b b' o j : Nat} {g : Gs} {ss : Option Addr} {cap : Nat} {v : Value} (h : GuAt w b o g ss cap) (hne : b ≠ b') : GuAt (w.setCell ⟨b', j, none⟩ v) b o g ss cap := by
 obtain ⟨⟨h0, h1, h2, h3, h4, h5, h6⟩, hz⟩ := h
 have c : ∀ i, (w.setCell ⟨b', j, none⟩ v).cell? ⟨b, i, none⟩ = w.cell? ⟨b, i, none⟩ := fun i => World.cell?_setCell_far _ ⟨b', j, none⟩ ⟨b, i, none⟩ _ (fun e => hne e.symm)
 exact ⟨⟨by rw [c]; exact h0, by rw [c]; exact h1, by rw [c]; exact h2, by rw [c]; exact h3, by rw [c]; exact h4, by rw [c]; exact h5, by rw [c]; exact h6⟩, by simpa using hz⟩
theorem GuAt.setS {w : World} {b : Nat} {g : Gs} {ss ss' : Option Addr} {cap cap' : Nat} {s' : List Int} (h : GuAt w b 0 g ss cap) : GuAt (w.setCell ⟨b, 6, none⟩ (.slice ss' s'.length cap')) b 0 ⟨g.n, g.sp, g.t, g.f, s'⟩ ss' cap' := by
 obtain ⟨⟨h0, h1, h2, h3, h4, h5, h6⟩, hz⟩ := h
 simp only [Nat.zero_add] at h0 h1 h2 h3 h4 h5 h6
 refine ⟨?_, by simpa using hz⟩
 simp [go_sem, h0, h1, h2, h3, h4, h5, h6]
theorem Fr7.set {w : World} {b b' j : Nat} {v : Value} (h : Fr7 w b) : Fr7 (w.setCell ⟨b', j, none⟩ v) b := ⟨fun i => by simp [go_sem, h.1 i], by simpa using h.2⟩
theorem ownsRow_setFar {w : World} {B n b j z : Nat} {e : TypeId} {v u : Value} {xs : List Value} (h : w.ownsRow B e z v n xs) (hb : b < B) : (w.setCell ⟨b, j, none⟩ u).ownsRow B e z v n xs :=
 ⟨h.1, h.2.imp id fun ⟨g, cap, cur, r1, r2, r3, r4⟩ => ⟨g, cap, cur, r1, r2, by rw [Below.heap_setCell _ _ _ _ (by show g ≠ b; omega)]; exact r3, r4⟩⟩

/-- The sites below k that one of both has. -/
def siteTo (a b : List Int) (k : Nat) : List Int := ((List.range k).map fun n : Nat => (n : Int)).filter fun x => a.contains x || b.contains x
theorem siteTo_succ (a b : List Int) (k : Nat) : siteTo a b (k + 1) = siteTo a b k ++ (if (a.contains (k : Int) || b.contains (k : Int)) = true then [(k : Int)] else []) := by
 unfold siteTo
 rw [List.range_succ, List.map_append, List.filter_append]
 congr 1
 by_cases h : (a.contains (k : Int) || b.contains (k : Int)) = true
 ·simp only [List.map_cons, List.map_nil, List.filter_cons, h, if_true, List.filter_nil]
 ·simp only [List.map_cons, List.map_nil, List.filter_cons, h, if_false, List.filter_nil, Bool.false_eq_true]
theorem siteTo_len (a b : List Int) (k : Nat) : (siteTo a b k).length ≤ k := by
 unfold siteTo
 exact Nat.le_trans (List.length_filter_le _ _) (by simp)
/-- What the region reads. -/
def regP (w : World) (g : Gs) (ss : Option Addr) (gc : Nat) (h : Gs) (st : Option Addr) (hc : Nat) (w' : World) : Prop :=
 (w'.cell? ⟨w.heap.size, 0, none⟩ = some (.bool g.n) ∧ w'.cell? ⟨w.heap.size, 1, none⟩ = some (.bool g.sp.n) ∧ w'.cell? ⟨w.heap.size, 2, none⟩ = some (.int .i64 g.sp.lo) ∧ w'.cell? ⟨w.heap.size, 3, none⟩ = some (.int .i64 g.sp.hi) ∧ w'.cell? ⟨w.heap.size, 4, none⟩ = some (.bool g.t) ∧ w'.cell? ⟨w.heap.size, 5, none⟩ = some (.bool g.f) ∧ w'.cell? ⟨w.heap.size, 6, none⟩ = some (.slice ss g.s.length gc)) ∧
 (w'.cell? ⟨w.heap.size + 1, 0, none⟩ = some (.bool h.n) ∧ w'.cell? ⟨w.heap.size + 1, 1, none⟩ = some (.bool h.sp.n) ∧ w'.cell? ⟨w.heap.size + 1, 2, none⟩ = some (.int .i64 h.sp.lo) ∧ w'.cell? ⟨w.heap.size + 1, 3, none⟩ = some (.int .i64 h.sp.hi) ∧ w'.cell? ⟨w.heap.size + 1, 4, none⟩ = some (.bool h.t) ∧ w'.cell? ⟨w.heap.size + 1, 5, none⟩ = some (.bool h.f) ∧ w'.cell? ⟨w.heap.size + 1, 6, none⟩ = some (.slice st h.s.length hc))
theorem prf_2e4561 {p : Prop} (h : p := by
 have hln := HL.out k
 go_wp2_with (at_builtin; refine wpList_append_own _ rfl _ _ 59 rfl W.heap.size 3 ti (.int .i64 0) 1 8 Tryz.underlying59 hi hz0 hz1 hz2 rfl (by decide) _ _ _ rfl (OR.alloc _) ⟨wr.heap.size, 0, none⟩ 1 1 [.int .i64 (k : Int)] rfl rfl (cell_one_new _ _ _) (fun x hx => by simp at hx; subst hx; rfl) (by unfold maxLen; omega) (by omega) (by simp; omega) ?_; intro v' w3 hown' hgrow3 hnil3; have hlow : ∀ b, b < W.heap.size → some b ≠ (Value.slice vs (siteTo sl h.s k).length vc).ownBlock := (fun b hb e => by have := ownsRow_lowG OR e.symm; omega); have O3 : w3.ownsRow W.heap.size 3 1 v' (siteTo sl h.s (k + 1)).length ((siteTo sl h.s (k + 1)).map (.int .i64)) := (by rw [HT.out, List.map_append, List.length_append]; exact hown'); obtain ⟨vs', vc', hv', -⟩ := IntsAt.own O3; subst hv'; have G3 := ((GR.alloc _).grown hgrow3 (hlow _ (by omega))); have H3 := ((HR.alloc _).grown hgrow3 (hlow _ (by omega))); have R3 := ((RR.alloc _).grown hgrow3 (hlow _ (by omega))); have F3 := ((FR.alloc _).grown hgrow3 (hlow _ (by omega))); have U3 := ((UR.alloc _).grown hgrow3 (hlow _ (by omega))); have X3 := ((XR.alloc _).grown hgrow3 (hlow _ (by omega))); have B3 := ((BR.alloc BR.size _).grown hgrow3 (by simp; have := BR.size; omega) (fun j hj => by have := ownsRow_lowG OR hj; omega)); have z3 := hgrow3.size; simp only [World.size_alloc] at z3; obtain ⟨⟨u0, u1, u2, u3, u4, u5, u6⟩, uz⟩ := id U3; simp only [Nat.zero_add] at u0 u1 u2 u3 u4 u5 u6; have fz3 := X3.1)
 go_roundw
 case rel => exact ⟨k + 1, vs', vc', by omega, by go_num, G3.setFar (by omega), H3.setFar (by omega), R3.setFar (by omega), F3.set, U3.setS, X3.set, ownsRow_setFar O3 (by omega), by simp; omega, B3.setCell (by show w.heap.size ≤ ob; omega) _⟩
 case measure => simp [intOf]; omega) : p := h
theorem prf_89a229 {p : Prop} (h : p := by
 go_wp2_with (go_at_call 59; fail)
 refine (hasR_any (k : Int) ss gc sl _ hgl IR).mono ?_
 rintro e w5 ⟨rfl, hw5⟩
 have hw6 := hw5.symm
 subst hw6
 have HD : Hid (sl.contains (k : Int) = sl.contains (k : Int)) := rfl
 generalize hd : sl.contains (k : Int) = d at *
 have HE := hideH hd
 clear hd HD hw5
 cases d with
 | true =>
  have HT : Hid (siteTo sl h.s (k + 1) = siteTo sl h.s k ++ [(k : Int)]) := by show _ = _; rw [HS.out k, if_pos]; simp only [HE.out, Bool.true_or]
  exact prf_2e4561
 | false =>
  go_wp2_with (go_at_call 59; fail)
  refine (hasR_any (k : Int) st hc h.s _ hlt' JR).mono ?_
  rintro e w5 ⟨rfl, hw5⟩
  have hw6 := hw5.symm
  subst hw6
  generalize hd2 : h.s.contains (k : Int) = d2 at *
  have HE2 := hideH hd2
  clear hd2 hw5
  cases d2 with
  | true =>
   have HT : Hid (siteTo sl h.s (k + 1) = siteTo sl h.s k ++ [(k : Int)]) := by show _ = _; rw [HS.out k, if_pos]; simp only [HE.out, HE2.out, Bool.false_or]
   exact prf_2e4561
  | false =>
   have HT : Hid (siteTo sl h.s (k + 1) = siteTo sl h.s k) := by show _ = _; rw [HS.out k, if_neg (by simp only [HE.out, HE2.out]; simp), List.append_nil]
   go_wp2
   go_roundw
   case rel => exact ⟨k + 1, vs, vc, by omega, by go_num, GR, HR, RR, FR, by rw [HT.out]; exact UR, XR, by rw [HT.out]; exact OR, zR, BR⟩
   case measure => simp [intOf]; omega) : p := h
theorem prf_4b75aa {p : Prop} (h : p := by
 have HS := hideH (siteTo_succ g.s h.s)
 have HL := hideH (siteTo_len g.s h.s)
 clear G0 H0 B0
 go_enter Tryz.func26, Tryz.ntmps26
 go_wp2
 generalize ((w.alloc (.cells #[.bool g.n, .bool g.sp.n, .int .i64 g.sp.lo, .int .i64 g.sp.hi, .bool g.t, .bool g.f, .slice ss g.s.length gc] 61)).alloc (.cells #[.bool h.n, .bool h.sp.n, .int .i64 h.sp.lo, .int .i64 h.sp.hi, .bool h.t, .bool h.f, .slice st h.s.length hc] 61)).alloc (.cells #[.bool false, .bool false, .int .i64 0, .int .i64 0, .bool false, .bool false, .slice none 0 0] 61) = w1 at *
 have KS : ∀ wx, GuAt wx w.heap.size 0 g ss gc → GuAt wx (w.heap.size + 1) 0 h st hc → regP w g ss gc h st hc wx := fun wx a b => ⟨by simpa using a.1, by simpa using b.1⟩
 unfold regP at KS
 obtain ⟨n, sp, t, f, sl⟩ := g
 refine wp_region_held_drew (S := regP w ⟨n, sp, t, f, sl⟩ ss gc h st hc) (by kernel_rfl) (KS _ G1.drew H1.drew) (fun hHeld => ?_)
 unfold regP at hHeld ⊢
 refine tH 0 ?_ ?_;refine sm ?_
 refine tH 1 ?_ ?_;refine sm ?_
 refine tH 2 ?_ ?_;refine sm ?_
 refine wpAnyH_take (i := 3) (v := if n = true then undef else .pointer (some ⟨w.heap.size + 1, 0, none⟩)) rfl (by kernel_rfl) (by kernel_rfl) (by kernel_rfl) (fun _ _ _ h => h) ?_ (by assumption) ?_
 ·cases n
  ·refine Or.inl ⟨?_, ?_⟩
   ·rfl
   ·(intro w hSw; (try dsimp only at hSw); first | (go_simp; done) | (go_simp; with_reducible rfl))
  ·exact Or.inr ⟨rfl, rfl⟩
 refine sm ?_
 refine wpAnyH_take (i := 4) (v := if n = true then undef else .bool h.n) rfl (by kernel_rfl) (by kernel_rfl) (by kernel_rfl) (fun _ _ _ h => h) ?_ (by assumption) ?_
 ·cases n
  ·refine Or.inl ⟨?_, ?_⟩
   ·rfl
   ·(intro w hSw; (try dsimp only at hSw); first | (go_simp; done) | (go_simp; with_reducible rfl))
  ·exact Or.inr ⟨rfl, rfl⟩
 refine sm ?_
 refine wpAnyH_take (i := 5) (v := .bool (n || h.n)) rfl (by kernel_rfl) (by kernel_rfl) (by kernel_rfl) (fun _ _ _ h => h) ?_ (by assumption) ?_
 ·cases n
  ·refine Or.inl ⟨?_, ?_⟩
   ·rfl
   ·(intro w hSw; (try dsimp only at hSw); first | (go_simp; done) | (go_simp; with_reducible rfl))
  ·refine Or.inl ⟨?_, ?_⟩
   ·rfl
   ·(intro w hSw; (try dsimp only at hSw); first | (go_simp; done) | (go_simp; with_reducible rfl))
 refine sm ?_
 refine tH 6 ?_ ?_;refine sm ?_
 refine tH 7 ?_ ?_;refine sm ?_
 refine tH 8 ?_ ?_;refine sm ?_
 refine tH 9 ?_ ?_;refine sm ?_
 refine tH 10 ?_ ?_;refine sm ?_
 refine tH 12 ?_ ?_;refine sm ?_
 refine tH 13 ?_ ?_;refine sm ?_
 refine tH 18 ?_ ?_;refine sm ?_
 refine tH 19 ?_ ?_;refine sm ?_
 refine wpAnyH_ready (rs := [11, 25]) (by kernel_rfl) (by simp) ?_
 refine AllReadyH.cons rfl (fun K hK => ?_) (AllReadyH.cons rfl (fun K hK => ?_) AllReadyH.nil)
 ·go_simp
  refine (HJ.out _).mono ?_
  rintro e w2 ⟨rfl, hb2⟩
  have G2 := G1.drew.call hb2
  have H2 := H1.drew.call hb2
  have R2 := R1.drew.call hb2
  have F2 := F1.drew.call hb2
  have B2 : Below w.heap.size w w2 := B1.drew.trans (hb2.mono B1.size)
  clear hb2 G1 H1 R1 F1 B1
  refine hK.out _ _ (KS _ G2 H2) (fun hHeld => ?_)
  clear hK K
  refine sm ?_
  refine tH 14 ?_ ?_;refine sm ?_
  refine wpAnyH_take (i := 15) (v := if t = true then undef else .pointer (some ⟨w.heap.size + 1, 4, none⟩)) rfl (by kernel_rfl) (by kernel_rfl) (by kernel_rfl) (fun _ _ _ h => h) ?_ (by assumption) ?_
  ·cases t
   ·refine Or.inl ⟨?_, ?_⟩
    ·rfl
    ·(intro w hSw; (try dsimp only at hSw); first | (go_simp; done) | (go_simp; with_reducible rfl))
   ·exact Or.inr ⟨rfl, rfl⟩
  refine sm ?_
  refine wpAnyH_take (i := 16) (v := if t = true then undef else .bool h.t) rfl (by kernel_rfl) (by kernel_rfl) (by kernel_rfl) (fun _ _ _ h => h) ?_ (by assumption) ?_
  ·cases t
   ·refine Or.inl ⟨?_, ?_⟩
    ·rfl
    ·(intro w hSw; (try dsimp only at hSw); first | (go_simp; done) | (go_simp; with_reducible rfl))
   ·exact Or.inr ⟨rfl, rfl⟩
  refine sm ?_
  refine wpAnyH_take (i := 17) (v := .bool (t || h.t)) rfl (by kernel_rfl) (by kernel_rfl) (by kernel_rfl) (fun _ _ _ h => h) ?_ (by assumption) ?_
  ·cases t
   ·refine Or.inl ⟨?_, ?_⟩
    ·rfl
    ·(intro w hSw; (try dsimp only at hSw); first | (go_simp; done) | (go_simp; with_reducible rfl))
   ·refine Or.inl ⟨?_, ?_⟩
    ·rfl
    ·(intro w hSw; (try dsimp only at hSw); first | (go_simp; done) | (go_simp; with_reducible rfl))
  refine sm ?_
  refine tH 20 ?_ ?_;refine sm ?_
  refine wpAnyH_take (i := 21) (v := if f = true then undef else .pointer (some ⟨w.heap.size + 1, 5, none⟩)) rfl (by kernel_rfl) (by kernel_rfl) (by kernel_rfl) (fun _ _ _ h => h) ?_ (by assumption) ?_
  ·cases f
   ·refine Or.inl ⟨?_, ?_⟩
    ·rfl
    ·(intro w hSw; (try dsimp only at hSw); first | (go_simp; done) | (go_simp; with_reducible rfl))
   ·exact Or.inr ⟨rfl, rfl⟩
  refine sm ?_
  refine wpAnyH_take (i := 22) (v := if f = true then undef else .bool h.f) rfl (by kernel_rfl) (by kernel_rfl) (by kernel_rfl) (fun _ _ _ h => h) ?_ (by assumption) ?_
  ·cases f
   ·refine Or.inl ⟨?_, ?_⟩
    ·rfl
    ·(intro w hSw; (try dsimp only at hSw); first | (go_simp; done) | (go_simp; with_reducible rfl))
   ·exact Or.inr ⟨rfl, rfl⟩
  refine sm ?_
  refine wpAnyH_take (i := 23) (v := .bool (f || h.f)) rfl (by kernel_rfl) (by kernel_rfl) (by kernel_rfl) (fun _ _ _ h => h) ?_ (by assumption) ?_
  ·cases f
   ·refine Or.inl ⟨?_, ?_⟩
    ·rfl
    ·(intro w hSw; (try dsimp only at hSw); first | (go_simp; done) | (go_simp; with_reducible rfl))
   ·refine Or.inl ⟨?_, ?_⟩
    ·rfl
    ·(intro w hSw; (try dsimp only at hSw); first | (go_simp; done) | (go_simp; with_reducible rfl))
  refine sm ?_
  refine tH 24 ?_ ?_;refine sm ?_
  refine wpAnyH_ready (rs := [25]) (by kernel_rfl) (by simp) ?_
  refine AllReadyH.cons rfl (fun K hK => ?_) AllReadyH.nil
  go_simp
  refine hK.out _ _ (KS _ (G2.alloc _) (H2.alloc _)) (fun hHeld => ?_)
  clear hK K
  refine sm ?_
  refine wpAnyH_ready (rs := [26]) (by kernel_rfl) (by simp) ?_
  refine AllReadyH.cons rfl (fun K hK => ?_) AllReadyH.nil
  go_simp
  refine hK.out _ _ (KS _ (G2.alloc _) (H2.alloc _)) (fun hHeld => ?_)
  clear hK K
  refine sm ?_
  have GW := G2.alloc (.cells #[.bool (n || h.n), .bool J.n, .int .i64 J.lo, .int .i64 J.hi, .bool (t || h.t), .bool (f || h.f), .slice none 0 0] 61)
  have HW := H2.alloc (.cells #[.bool (n || h.n), .bool J.n, .int .i64 J.lo, .int .i64 J.hi, .bool (t || h.t), .bool (f || h.f), .slice none 0 0] 61)
  have RW := R2.alloc (.cells #[.bool (n || h.n), .bool J.n, .int .i64 J.lo, .int .i64 J.hi, .bool (t || h.t), .bool (f || h.f), .slice none 0 0] 61)
  have FW := F2.alloc (.cells #[.bool (n || h.n), .bool J.n, .int .i64 J.lo, .int .i64 J.hi, .bool (t || h.t), .bool (f || h.f), .slice none 0 0] 61)
  have BW := B2.alloc B2.size (.cells #[.bool (n || h.n), .bool J.n, .int .i64 J.lo, .int .i64 J.hi, .bool (t || h.t), .bool (f || h.f), .slice none 0 0] 61)
  have UW : GuAt (w2.alloc (.cells #[.bool (n || h.n), .bool J.n, .int .i64 J.lo, .int .i64 J.hi, .bool (t || h.t), .bool (f || h.f), .slice none 0 0] 61)) w2.heap.size 0 ⟨n || h.n, J, t || h.t, f || h.f, siteTo sl h.s 0⟩ none 0 := GuAt.new w2 ⟨n || h.n, J, t || h.t, f || h.f, []⟩ none 0
  have XW : Fr7 (w2.alloc (.cells #[.bool (n || h.n), .bool J.n, .int .i64 J.lo, .int .i64 J.hi, .bool (t || h.t), .bool (f || h.f), .slice none 0 0] 61)) w2.heap.size := ⟨fun j => by simp [go_sem], by simp⟩
  have zo : w.heap.size + 1 + 1 < w2.heap.size := F2.2
  have zw := XW.2
  clear G2 H2 R2 F2 B2
  generalize w2.alloc (.cells #[.bool (n || h.n), .bool J.n, .int .i64 J.lo, .int .i64 J.hi, .bool (t || h.t), .bool (f || h.f), .slice none 0 0] 61) = W at *
  generalize w2.heap.size = ob at *
  refine wpAnyH_done (by kernel_rfl) ?_ _
  generalize (if n = true then undef else (.pointer (some ⟨w.heap.size + 1, 0, none⟩) : Value)) = y0
  generalize (if n = true then undef else (.bool h.n : Value)) = y1
  generalize (if t = true then undef else (.pointer (some ⟨w.heap.size + 1, 4, none⟩) : Value)) = y2
  generalize (if t = true then undef else (.bool h.t : Value)) = y3
  generalize (if f = true then undef else (.pointer (some ⟨w.heap.size + 1, 5, none⟩) : Value)) = y4
  generalize (if f = true then undef else (.bool h.f : Value)) = y5
  clear hHeld KS HJ
  go_wp2
  go_loopw [8] (fun i wr => ∃ (k : Nat) (vs : Option Addr) (vc : Nat), k ≤ 60 ∧ i = .int .i64 k ∧ GuAt wr w.heap.size 0 ⟨n, sp, t, f, sl⟩ ss gc ∧ GuAt wr (w.heap.size + 1) 0 h st hc ∧ GuAt wr (w.heap.size + 1 + 1) 0 zeroG none 0 ∧ Fr7 wr (w.heap.size + 1 + 1) ∧ GuAt wr ob 0 ⟨n || h.n, J, t || h.t, f || h.f, siteTo sl h.s k⟩ vs vc ∧ Fr7 wr ob ∧ wr.ownsRow W.heap.size 3 1 (.slice vs (siteTo sl h.s k).length vc) (siteTo sl h.s k).length ((siteTo sl h.s k).map (.int .i64)) ∧ W.heap.size ≤ wr.heap.size ∧ Below w.heap.size w wr) (fun i _ => 60 - (intOf i).toNat)
  case atStart => exact ⟨0, none, 0, by omega, rfl, GW, HW, RW, FW, UW, XW, ⟨by simp [siteTo], .inl ⟨rfl, by simp [siteTo]⟩⟩, Nat.le_refl _, BW⟩
  case round =>
   obtain ⟨k, vs, vc, hk, rfl, GR, HR, RR, FR, UR, XR, OR, zR, BR⟩ := hrel
   clear GW HW RW FW UW XW BW
   have IR := hs.below BR (Nat.le_refl _)
   have JR := ht.below BR (Nat.le_refl _)
   obtain ⟨⟨g0, g1, g2, g3, g4, g5, g6⟩, gz⟩ := id GR
   obtain ⟨⟨k0, k1, k2, k3, k4, k5, k6⟩, kz⟩ := id HR
   obtain ⟨⟨u0, u1, u2, u3, u4, u5, u6⟩, uz⟩ := id UR
   simp only [Nat.zero_add] at g0 g1 g2 g3 g4 g5 g6 k0 k1 k2 k3 k4 k5 k6 u0 u1 u2 u3 u4 u5 u6
   by_cases hlt : k < 60
   ·have n1 : (k : Int) < 60 := by omega
    exact prf_89a229
   ·have hk' : k = 60 := by omega
    subst hk'
    obtain ⟨⟨r0, r1, r2, r3, r4, r5, r6⟩, rz⟩ := id RR
    simp only [Nat.zero_add, zeroG] at r0 r1 r2 r3 r4 r5 r6
    have fz := FR.1
    go_wp2
    refine bodyPost_ret (v := .agg #[.bool (n || h.n), .bool J.n, .int .i64 J.lo, .int .i64 J.hi, .bool (t || h.t), .bool (f || h.f), .slice vs (siteTo sl h.s 60).length vc]) (by simp [results, Tryz.results26, go_sem, r0, r1, r2, r3, r4, r5, r6]) rfl ⟨_, rfl, ?_, ?_⟩
    ·exact ownsRow_base (ownsRow_put7 OR (by omega)) (by omega)
    ·exact below_put7 BR (by omega)
 ·go_simp
  have GA := (G1.alloc (.cells #[.bool false, .bool false, .int .i64 0, .int .i64 0, .bool false, .bool false, .slice none 0 0] 61)).drew
  have HA := (H1.alloc (.cells #[.bool false, .bool false, .int .i64 0, .int .i64 0, .bool false, .bool false, .slice none 0 0] 61)).drew
  have RA := (R1.alloc (.cells #[.bool false, .bool false, .int .i64 0, .int .i64 0, .bool false, .bool false, .slice none 0 0] 61)).drew
  have FA := (F1.alloc (.cells #[.bool false, .bool false, .int .i64 0, .int .i64 0, .bool false, .bool false, .slice none 0 0] 61)).drew
  have BA := (B1.alloc B1.size (.cells #[.bool false, .bool false, .int .i64 0, .int .i64 0, .bool false, .bool false, .slice none 0 0] 61)).drew
  have UA : GuAt (w1.alloc (.cells #[.bool false, .bool false, .int .i64 0, .int .i64 0, .bool false, .bool false, .slice none 0 0] 61)).drew w1.heap.size 0 zeroG none 0 := (GuAt.new w1 zeroG none 0).drew
  have XA : Fr7 (w1.alloc (.cells #[.bool false, .bool false, .int .i64 0, .int .i64 0, .bool false, .bool false, .slice none 0 0] 61)).drew w1.heap.size := Fr7.drew ⟨fun j => by simp [go_sem], by simp⟩
  have zo : w.heap.size + 1 + 1 < w1.heap.size := F1.2
  refine hK.out _ _ (KS _ GA HA) (fun hHeld => ?_)
  clear hK K G1 H1 R1 F1 B1
  refine sm ?_
  refine wpAnyH_ready (rs := [11]) (by kernel_rfl) (by simp) ?_
  refine AllReadyH.cons rfl (fun K hK => ?_) AllReadyH.nil
  go_simp
  refine (HJ.out _).mono ?_
  rintro e w2 ⟨rfl, hb2⟩
  have G2 := GA.call hb2
  have H2 := HA.call hb2
  have R2 := RA.call hb2
  have F2 := FA.call hb2
  have U2 := UA.call hb2
  have X2 := XA.call hb2
  have B2 : Below w.heap.size w w2 := BA.trans (hb2.mono BA.size)
  clear hb2 GA HA RA FA BA UA XA
  generalize w1.heap.size = ob at *
  refine hK.out _ _ (KS _ G2 H2) (fun hHeld => ?_)
  clear hK K
  refine sm ?_
  refine tH 14 ?_ ?_;refine sm ?_
  refine wpAnyH_take (i := 15) (v := if t = true then undef else .pointer (some ⟨w.heap.size + 1, 4, none⟩)) rfl (by kernel_rfl) (by kernel_rfl) (by kernel_rfl) (fun _ _ _ h => h) ?_ (by assumption) ?_
  ·cases t
   ·refine Or.inl ⟨?_, ?_⟩
    ·rfl
    ·(intro w hSw; (try dsimp only at hSw); first | (go_simp; done) | (go_simp; with_reducible rfl))
   ·exact Or.inr ⟨rfl, rfl⟩
  refine sm ?_
  refine wpAnyH_take (i := 16) (v := if t = true then undef else .bool h.t) rfl (by kernel_rfl) (by kernel_rfl) (by kernel_rfl) (fun _ _ _ h => h) ?_ (by assumption) ?_
  ·cases t
   ·refine Or.inl ⟨?_, ?_⟩
    ·rfl
    ·(intro w hSw; (try dsimp only at hSw); first | (go_simp; done) | (go_simp; with_reducible rfl))
   ·exact Or.inr ⟨rfl, rfl⟩
  refine sm ?_
  refine wpAnyH_take (i := 17) (v := .bool (t || h.t)) rfl (by kernel_rfl) (by kernel_rfl) (by kernel_rfl) (fun _ _ _ h => h) ?_ (by assumption) ?_
  ·cases t
   ·refine Or.inl ⟨?_, ?_⟩
    ·rfl
    ·(intro w hSw; (try dsimp only at hSw); first | (go_simp; done) | (go_simp; with_reducible rfl))
   ·refine Or.inl ⟨?_, ?_⟩
    ·rfl
    ·(intro w hSw; (try dsimp only at hSw); first | (go_simp; done) | (go_simp; with_reducible rfl))
  refine sm ?_
  refine tH 20 ?_ ?_;refine sm ?_
  refine wpAnyH_take (i := 21) (v := if f = true then undef else .pointer (some ⟨w.heap.size + 1, 5, none⟩)) rfl (by kernel_rfl) (by kernel_rfl) (by kernel_rfl) (fun _ _ _ h => h) ?_ (by assumption) ?_
  ·cases f
   ·refine Or.inl ⟨?_, ?_⟩
    ·rfl
    ·(intro w hSw; (try dsimp only at hSw); first | (go_simp; done) | (go_simp; with_reducible rfl))
   ·exact Or.inr ⟨rfl, rfl⟩
  refine sm ?_
  refine wpAnyH_take (i := 22) (v := if f = true then undef else .bool h.f) rfl (by kernel_rfl) (by kernel_rfl) (by kernel_rfl) (fun _ _ _ h => h) ?_ (by assumption) ?_
  ·cases f
   ·refine Or.inl ⟨?_, ?_⟩
    ·rfl
    ·(intro w hSw; (try dsimp only at hSw); first | (go_simp; done) | (go_simp; with_reducible rfl))
   ·exact Or.inr ⟨rfl, rfl⟩
  refine sm ?_
  refine wpAnyH_take (i := 23) (v := .bool (f || h.f)) rfl (by kernel_rfl) (by kernel_rfl) (by kernel_rfl) (fun _ _ _ h => h) ?_ (by assumption) ?_
  ·cases f
   ·refine Or.inl ⟨?_, ?_⟩
    ·rfl
    ·(intro w hSw; (try dsimp only at hSw); first | (go_simp; done) | (go_simp; with_reducible rfl))
   ·refine Or.inl ⟨?_, ?_⟩
    ·rfl
    ·(intro w hSw; (try dsimp only at hSw); first | (go_simp; done) | (go_simp; with_reducible rfl))
  refine sm ?_
  refine tH 24 ?_ ?_;refine sm ?_
  obtain ⟨⟨o0, o1, o2, o3, o4, o5, o6⟩, oz⟩ := id U2
  simp only [Nat.zero_add, zeroG] at o0 o1 o2 o3 o4 o5 o6
  have fzo := X2.1
  refine wpAnyH_ready (rs := [26]) (by kernel_rfl) (by simp) ?_
  refine AllReadyH.cons rfl (fun K hK => ?_) AllReadyH.nil
  go_simp
  have GW := GuAt.put7 (b := ob) (v0 := .bool (n || h.n)) (v1 := .bool J.n) (v2 := .int .i64 J.lo) (v3 := .int .i64 J.hi) (v4 := .bool (t || h.t)) (v5 := .bool (f || h.f)) (v6 := .slice none 0 0) G2 (by omega)
  have HW := GuAt.put7 (b := ob) (v0 := .bool (n || h.n)) (v1 := .bool J.n) (v2 := .int .i64 J.lo) (v3 := .int .i64 J.hi) (v4 := .bool (t || h.t)) (v5 := .bool (f || h.f)) (v6 := .slice none 0 0) H2 (by omega)
  have RW := GuAt.put7 (b := ob) (v0 := .bool (n || h.n)) (v1 := .bool J.n) (v2 := .int .i64 J.lo) (v3 := .int .i64 J.hi) (v4 := .bool (t || h.t)) (v5 := .bool (f || h.f)) (v6 := .slice none 0 0) R2 (by omega)
  have FW : Fr7 (put7 w2 ob (.bool (n || h.n)) (.bool J.n) (.int .i64 J.lo) (.int .i64 J.hi) (.bool (t || h.t)) (.bool (f || h.f)) (.slice none 0 0)) (w.heap.size + 1 + 1) := ((((((F2.set).set).set).set).set).set).set
  have XW : Fr7 (put7 w2 ob (.bool (n || h.n)) (.bool J.n) (.int .i64 J.lo) (.int .i64 J.hi) (.bool (t || h.t)) (.bool (f || h.f)) (.slice none 0 0)) ob := ((((((X2.set).set).set).set).set).set).set
  have UW : GuAt (put7 w2 ob (.bool (n || h.n)) (.bool J.n) (.int .i64 J.lo) (.int .i64 J.hi) (.bool (t || h.t)) (.bool (f || h.f)) (.slice none 0 0)) ob 0 ⟨n || h.n, J, t || h.t, f || h.f, siteTo sl h.s 0⟩ none 0 := ⟨by simp [go_sem, put7, o0, o1, o2, o3, o4, o5, o6, siteTo], by rw [size_put7]; exact oz⟩
  have BW : Below w.heap.size w (put7 w2 ob (.bool (n || h.n)) (.bool J.n) (.int .i64 J.lo) (.int .i64 J.hi) (.bool (t || h.t)) (.bool (f || h.f)) (.slice none 0 0)) := below_put7 B2 (by omega)
  refine hK.out _ _ (KS _ GW HW) (fun hHeld => ?_)
  have zw := XW.2
  clear hK K G2 H2 R2 F2 U2 X2 B2 o0 o1 o2 o3 o4 o5 o6 fzo oz
  refine sm ?_
  unfold put7 at GW HW RW FW XW UW BW zw
  generalize ((((((w2.setCell ⟨ob, 0, none⟩ (.bool (n || h.n))).setCell ⟨ob, 1, none⟩ (.bool J.n)).setCell ⟨ob, 2, none⟩ (.int .i64 J.lo)).setCell ⟨ob, 3, none⟩ (.int .i64 J.hi)).setCell ⟨ob, 4, none⟩ (.bool (t || h.t))).setCell ⟨ob, 5, none⟩ (.bool (f || h.f))).setCell ⟨ob, 6, none⟩ (.slice none 0 0) = W at *
  refine wpAnyH_done (by kernel_rfl) ?_ _
  generalize (if n = true then undef else (.pointer (some ⟨w.heap.size + 1, 0, none⟩) : Value)) = y0
  generalize (if n = true then undef else (.bool h.n : Value)) = y1
  generalize (if t = true then undef else (.pointer (some ⟨w.heap.size + 1, 4, none⟩) : Value)) = y2
  generalize (if t = true then undef else (.bool h.t : Value)) = y3
  generalize (if f = true then undef else (.pointer (some ⟨w.heap.size + 1, 5, none⟩) : Value)) = y4
  generalize (if f = true then undef else (.bool h.f : Value)) = y5
  clear hHeld KS HJ
  go_wp2
  go_loopw [8] (fun i wr => ∃ (k : Nat) (vs : Option Addr) (vc : Nat), k ≤ 60 ∧ i = .int .i64 k ∧ GuAt wr w.heap.size 0 ⟨n, sp, t, f, sl⟩ ss gc ∧ GuAt wr (w.heap.size + 1) 0 h st hc ∧ GuAt wr (w.heap.size + 1 + 1) 0 zeroG none 0 ∧ Fr7 wr (w.heap.size + 1 + 1) ∧ GuAt wr ob 0 ⟨n || h.n, J, t || h.t, f || h.f, siteTo sl h.s k⟩ vs vc ∧ Fr7 wr ob ∧ wr.ownsRow W.heap.size 3 1 (.slice vs (siteTo sl h.s k).length vc) (siteTo sl h.s k).length ((siteTo sl h.s k).map (.int .i64)) ∧ W.heap.size ≤ wr.heap.size ∧ Below w.heap.size w wr) (fun i _ => 60 - (intOf i).toNat)
  case atStart => exact ⟨0, none, 0, by omega, rfl, GW, HW, RW, FW, UW, XW, ⟨by simp [siteTo], .inl ⟨rfl, by simp [siteTo]⟩⟩, Nat.le_refl _, BW⟩
  case round =>
   obtain ⟨k, vs, vc, hk, rfl, GR, HR, RR, FR, UR, XR, OR, zR, BR⟩ := hrel
   clear GW HW RW FW UW XW BW
   have IR := hs.below BR (Nat.le_refl _)
   have JR := ht.below BR (Nat.le_refl _)
   obtain ⟨⟨g0, g1, g2, g3, g4, g5, g6⟩, gz⟩ := id GR
   obtain ⟨⟨k0, k1, k2, k3, k4, k5, k6⟩, kz⟩ := id HR
   obtain ⟨⟨u0, u1, u2, u3, u4, u5, u6⟩, uz⟩ := id UR
   simp only [Nat.zero_add] at g0 g1 g2 g3 g4 g5 g6 k0 k1 k2 k3 k4 k5 k6 u0 u1 u2 u3 u4 u5 u6
   by_cases hlt : k < 60
   ·have n1 : (k : Int) < 60 := by omega
    exact prf_89a229
   ·have hk' : k = 60 := by omega
    subst hk'
    obtain ⟨⟨r0, r1, r2, r3, r4, r5, r6⟩, rz⟩ := id RR
    simp only [Nat.zero_add, zeroG] at r0 r1 r2 r3 r4 r5 r6
    have fz := FR.1
    go_wp2
    refine bodyPost_ret (v := .agg #[.bool (n || h.n), .bool J.n, .int .i64 J.lo, .int .i64 J.hi, .bool (t || h.t), .bool (f || h.f), .slice vs (siteTo sl h.s 60).length vc]) (by simp [results, Tryz.results26, go_sem, r0, r1, r2, r3, r4, r5, r6]) rfl ⟨_, rfl, ?_, ?_⟩
    ·exact ownsRow_base (ownsRow_put7 OR (by omega)) (by omega)
    ·exact below_put7 BR (by omega)) : p := h
end
section

/-- A list that rises is known by what is in it. -/
theorem rising_ext : ∀ (a b : List Int), a.Pairwise (· < ·) → b.Pairwise (· < ·) → (∀ x, x ∈ a ↔ x ∈ b) → a = b
 | [], [], _, _, _ => rfl
 | [], y :: b, _, _, h => absurd ((h y).2 (by simp)) (by simp)
 | x :: a, [], _, _, h => absurd ((h x).1 (by simp)) (by simp)
 | x :: a, y :: b, ha, hb, h => by
  rw [List.pairwise_cons] at ha hb
  have exy : x = y := by
   have h1 := (h x).1 (by simp)
   have h2 := (h y).2 (by simp)
   rw [List.mem_cons] at h1 h2
   rcases h1 with e | h1
   ·exact e
   ·rcases h2 with e | h2
    ·exact e.symm
    ·have := ha.1 y h2
     have := hb.1 x h1
     omega
  subst exy
  rw [rising_ext a b ha.2 hb.2 fun z => ?_]
  constructor
  ·intro hz
   have := (h z).1 (by simp [hz])
   rw [List.mem_cons] at this
   rcases this with e | h1
   ·have := ha.1 z hz; omega
   ·exact h1
  ·intro hz
   have := (h z).2 (by simp [hz])
   rw [List.mem_cons] at this
   rcases this with e | h1
   ·have := hb.1 z hz; omega
   ·exact h1

theorem siteTo_mem (a b : List Int) (k : Nat) (x : Int) : x ∈ siteTo a b k ↔ (0 ≤ x ∧ x < k) ∧ (x ∈ a ∨ x ∈ b) := by
 unfold siteTo
 rw [List.mem_filter, List.mem_map]
 simp only [List.mem_range, Bool.or_eq_true, List.contains_iff_mem]
 constructor
 ·rintro ⟨⟨n, hn, rfl⟩, h⟩
  exact ⟨⟨by omega, by omega⟩, h⟩
 ·rintro ⟨⟨h0, h1⟩, h⟩
  exact ⟨⟨x.toNat, by omega, by omega⟩, h⟩

theorem siteTo_rises (a b : List Int) (k : Nat) : (siteTo a b k).Pairwise (· < ·) := by
 unfold siteTo
 refine List.Pairwise.filter _ ?_
 rw [List.pairwise_map]
 exact List.Pairwise.imp (fun h => by omega) List.pairwise_lt_range

open Go.Lib in
/-- What is compacted of a sorted list rises, and has the same in it. -/
theorem compact_sorted (l : List Int) (h : l.Pairwise (· ≤ ·)) : (compact l).Pairwise (· < ·) ∧ ∀ x, x ∈ compact l ↔ x ∈ l := by
 have get : ∀ j (hj : j < l.length), l.toArray[j]! = l[j] := fun j hj => by simp [hj]
 have mono : ∀ i j (hi : i < l.length) (hj : j < l.length), i ≤ j → l[i] ≤ l[j] := by
  intro i j hi hj hij
  by_cases e : i = j
  ·subst e; exact Int.le_refl _
  ·exact List.pairwise_iff_getElem.1 h i j hi hj (by omega)
 constructor
 ·unfold compact compactUpTo
  rw [List.pairwise_map]
  refine List.Pairwise.imp_of_mem ?_ (List.Pairwise.filter _ List.pairwise_lt_range)
  intro i j hi hj hij
  rw [List.mem_filter, List.mem_range] at hi hj
  rw [get i hi.1, get j hj.1]
  have hk := hj.2
  unfold keeps at hk
  rw [decide_eq_true_eq] at hk
  rcases hk with e | hne
  ·omega
  ·rw [get j hj.1, get (j - 1) (by omega)] at hne
   have h1 := mono i (j - 1) hi.1 (by omega) (by omega)
   have h2 := mono (j - 1) j (by omega) hj.1 (by omega)
   omega
 ·intro x
  unfold compact compactUpTo
  rw [List.mem_map]
  constructor
  ·rintro ⟨j, hj, rfl⟩
   rw [List.mem_filter, List.mem_range] at hj
   rw [get j hj.1]
   exact List.getElem_mem _
  ·intro hx
   obtain ⟨j, hj, rfl⟩ := List.getElem_of_mem hx
   -- the first place that holds it
   have ex : ∃ i, i ≤ j ∧ ∃ (hi : i < l.length), l[i] = l[j] ∧ keeps l.toArray i = true := by
    clear hx
    induction j with
    | zero => exact ⟨0, Nat.le_refl _, hj, rfl, by simp [keeps]⟩
    | succ j ih =>
     by_cases e : l[j + 1] = l[j]
     ·obtain ⟨i, hi, hil, h1, h2⟩ := ih (by omega)
      exact ⟨i, by omega, hil, by rw [h1, e], h2⟩
     ·refine ⟨j + 1, Nat.le_refl _, hj, rfl, ?_⟩
      unfold keeps
      rw [decide_eq_true_eq]
      right
      rw [get (j + 1) hj, get (j + 1 - 1) (by omega)]
      exact e
   obtain ⟨i, -, hil, h1, h2⟩ := ex
   refine ⟨i, ?_, by rw [get i hil, h1]⟩
   rw [List.mem_filter, List.mem_range]
   exact ⟨hil, h2⟩

theorem sitesOf_eq (g h : Gs) (hg : ∀ x ∈ g.s, 0 ≤ x ∧ x < 60) (hh : ∀ x ∈ h.s, 0 ≤ x ∧ x < 60) : sitesOf [g, h] = siteTo g.s h.s 60 := by
 have hs : (([g, h].flatMap Gs.s).mergeSort fun x y => decide (x ≤ y)).Pairwise (· ≤ ·) := by
  have := List.pairwise_mergeSort (le := fun x y : Int => decide (x ≤ y)) (by intro a b c; simp; omega) (by intro a b; simp; omega) ([g, h].flatMap Gs.s)
  exact this.imp fun h => by simpa using h
 obtain ⟨h1, h2⟩ := compact_sorted _ hs
 refine rising_ext _ _ h1 (siteTo_rises _ _ _) fun x => ?_
 rw [show sitesOf [g, h] = Go.Lib.compact (([g, h].flatMap Gs.s).mergeSort fun x y => decide (x ≤ y)) from rfl, h2, List.mem_mergeSort, siteTo_mem]
 simp only [List.flatMap_cons, List.flatMap_nil, List.append_nil, List.mem_append]
 constructor
 ·rintro (h | h)
  ·exact ⟨hg x h, .inl h⟩
  ·exact ⟨hh x h, .inr h⟩
 ·exact fun h => h.2

theorem isSite_60 {c : List Ins} (hl : c.length ≤ 60) {x : Int} (h : isSite c x = true) : 0 ≤ x ∧ x < 60 := by
 unfold isSite at h
 simp only [Bool.and_eq_true, decide_eq_true_eq] at h
 omega

/-- A right guess has sites of the program, that rise, so at most sixty. -/
theorem ckGs_sites {c : List Ins} {g : Gs} (hl : c.length ≤ 60) (h : ckGs c g = 0) : (∀ x ∈ g.s, 0 ≤ x ∧ x < 60) ∧ rising g.s = true := by
 unfold ckGs at h
 split at h
 ·contradiction
 ·split at h
  ·cases h
  ·split at h
   ·cases h
   ·rename_i h1 h2
    refine ⟨fun x hx => ?_, by simpa using h2⟩
    have : g.s.all (isSite c) = true := by simpa using h1
    exact isSite_60 hl (List.all_eq_true.1 this x hx)
theorem rising_len {l : List Int} (hr : rising l = true) (hb : ∀ x ∈ l, 0 ≤ x ∧ x < 60) : l.length ≤ 60 := by
 have key : ∀ k (h : k < l.length), (k : Int) ≤ l[k] := by
  intro k
  induction k with
  | zero => intro h; exact (hb _ (List.getElem_mem h)).1
  | succ k ih =>
   intro h
   have h1 := ih (by omega)
   have h2 := (rising_iff l).1 hr k h
   omega
 by_cases h0 : l.length = 0
 ·omega
 ·have h1 := key (l.length - 1) (by omega)
  have h2 := (hb _ (List.getElem_mem (show l.length - 1 < l.length by omega))).2
  omega
end
section
set_option maxHeartbeats 2000000
set_option maxRecDepth 10000
open Go.RowKit

theorem doG_err (V F : Int) (s : Option Addr) (c : List Ins) (cap : Nat) (g : Gs) (ss : Option Addr) (gc : Nat) (h : Gs) (st : Option Addr) (hc : Nat) (kind : Int) (w : World)
  (hcd : CodeAt w s c) (hs : IntsAt w ss g.s) (h1 : g.s.length ≤ gc) (h2 : gc ≤ maxLen) (ht : IntsAt w st h.s) (h3 : h.s.length ≤ hc) (h4 : hc ≤ maxLen) (hck : ckAllG V F c [g, h] ≠ 0) :
  Calls Tryz.prog 92 #[pv V F s c cap, .int .i64 kind, gv g ss gc, gv h st hc] w fun e w' => e = .returned (.tuple #[gv zeroG none 0, .bool false, .int .i64 (ckAllG V F c [g, h])]) ∧ Below w.heap.size w w' := by
 obtain ⟨P0, G0, H0, R0, F0⟩ := togW_at w V F s c cap g ss gc h st hc
 have B0 := togW_below w V F s c cap g ss gc h st hc
 have C0 : CodeAt (togW w V F s c cap g ss gc h st hc) s c := hcd.below B0 (Nat.le_refl _)
 have I0 : IntsAt (togW w V F s c cap g ss gc h st hc) ss g.s := hs.below B0 (Nat.le_refl _)
 have J0 : IntsAt (togW w V F s c cap g ss gc h st hc) st h.s := ht.below B0 (Nat.le_refl _)
 have L0 := GsAt.new2 (togW w V F s c cap g ss gc h st hc) g ss gc h st hc I0 h1 h2 J0 h3 h4
 simp only [World.size_alloc] at L0
 have HC := hideH (checkAllG_any V F s c cap (some ⟨w.heap.size + 1 + 1 + 1 + 1, 0, none⟩) [g, h] 2 _ (C0.alloc _) L0 (by simp))
 have hne : (ckAllG V F c [g, h] != 0) = true := by simpa using hck
 generalize ckAllG V F c [g, h] = ce at HC hne ⊢
 clear hck
 go_enter Tryz.func92, Tryz.ntmps92
 go_wp2_with (go_at_call 114; fail)
 refine HC.out.mono ?_
 rintro e w1 ⟨rfl, hb1⟩
 have G1 := (G0.alloc _).call hb1
 have H1 := (H0.alloc _).call hb1
 have R1 := (R0.alloc _).call hb1
 have I1 := (I0.alloc _).call hb1
 have J1 := (J0.alloc _).call hb1
 have F1 : Fr7 w1 (w.heap.size + 1 + 1 + 1) := (F0.alloc _).call hb1
 have B1 : Below w.heap.size w w1 := (B0.alloc B0.size _).trans (hb1.mono (by simp; omega))
 clear hb1 G0 H0 R0 I0 J0 F0 B0 C0 P0 L0 hcd hs ht HC
 obtain ⟨⟨g0, g1, g2, g3, g4, g5, g6⟩, gz⟩ := id G1
 obtain ⟨⟨k0, k1, k2, k3, k4, k5, k6⟩, kz⟩ := id H1
 simp only [Nat.zero_add] at g0 g1 g2 g3 g4 g5 g6 k0 k1 k2 k3 k4 k5 k6
 obtain ⟨⟨r0, r1, r2, r3, r4, r5, r6⟩, rz⟩ := id R1
 simp only [Nat.zero_add, zeroG] at r0 r1 r2 r3 r4 r5 r6
 have fz := F1.1
 go_wp2
 refine bodyPost_ret (v := .tuple #[gv zeroG none 0, .bool false, .int .i64 ce]) (by simp [results, Tryz.results92, go_sem, r0, r1, r2, r3, r4, r5, r6, zeroG]) rfl ⟨rfl, ?_⟩
 exact below_put7 B1 (by omega)

theorem doG_kind (V F : Int) (s : Option Addr) (c : List Ins) (cap : Nat) (g : Gs) (ss : Option Addr) (gc : Nat) (h : Gs) (st : Option Addr) (hc : Nat) (kind : Int) (w : World)
  (hcd : CodeAt w s c) (hs : IntsAt w ss g.s) (h1 : g.s.length ≤ gc) (h2 : gc ≤ maxLen) (ht : IntsAt w st h.s) (h3 : h.s.length ≤ hc) (h4 : hc ≤ maxLen) (hck : ckAllG V F c [g, h] = 0) (hk4 : (kind == 4) = false) (hk5 : (kind == 5) = false) (hk6 : (kind == 6) = false) (hk7 : (kind == 7) = false) (hk8 : (kind == 8) = false) (hk9 : (kind == 9) = false) (hk10 : (kind == 10) = false) :
  Calls Tryz.prog 92 #[pv V F s c cap, .int .i64 kind, gv g ss gc, gv h st hc] w fun e w' => e = .returned (.tuple #[gv zeroG none 0, .bool false, .int .i64 6]) ∧ Below w.heap.size w w' := by
 obtain ⟨P0, G0, H0, R0, F0⟩ := togW_at w V F s c cap g ss gc h st hc
 have B0 := togW_below w V F s c cap g ss gc h st hc
 have C0 : CodeAt (togW w V F s c cap g ss gc h st hc) s c := hcd.below B0 (Nat.le_refl _)
 have I0 : IntsAt (togW w V F s c cap g ss gc h st hc) ss g.s := hs.below B0 (Nat.le_refl _)
 have J0 : IntsAt (togW w V F s c cap g ss gc h st hc) st h.s := ht.below B0 (Nat.le_refl _)
 have L0 := GsAt.new2 (togW w V F s c cap g ss gc h st hc) g ss gc h st hc I0 h1 h2 J0 h3 h4
 simp only [World.size_alloc] at L0
 have HC := hideH (checkAllG_any V F s c cap (some ⟨w.heap.size + 1 + 1 + 1 + 1, 0, none⟩) [g, h] 2 _ (C0.alloc _) L0 (by simp))
 rw [hck] at HC
 go_enter Tryz.func92, Tryz.ntmps92
 go_wp2_with (go_at_call 114; fail)
 refine HC.out.mono ?_
 rintro e w1 ⟨rfl, hb1⟩
 have G1 := (G0.alloc _).call hb1
 have H1 := (H0.alloc _).call hb1
 have R1 := (R0.alloc _).call hb1
 have I1 := (I0.alloc _).call hb1
 have J1 := (J0.alloc _).call hb1
 have F1 : Fr7 w1 (w.heap.size + 1 + 1 + 1) := (F0.alloc _).call hb1
 have B1 : Below w.heap.size w w1 := (B0.alloc B0.size _).trans (hb1.mono (by simp; omega))
 clear hb1 G0 H0 R0 I0 J0 F0 B0 C0 P0 L0 hcd hs ht HC
 obtain ⟨⟨g0, g1, g2, g3, g4, g5, g6⟩, gz⟩ := id G1
 obtain ⟨⟨k0, k1, k2, k3, k4, k5, k6⟩, kz⟩ := id H1
 simp only [Nat.zero_add] at g0 g1 g2 g3 g4 g5 g6 k0 k1 k2 k3 k4 k5 k6
 obtain ⟨⟨r0, r1, r2, r3, r4, r5, r6⟩, rz⟩ := id R1
 simp only [Nat.zero_add, zeroG] at r0 r1 r2 r3 r4 r5 r6
 have fz := F1.1
 go_wp2
 refine bodyPost_ret (v := .tuple #[gv zeroG none 0, .bool false, .int .i64 6]) (by simp [results, Tryz.results92, go_sem, r0, r1, r2, r3, r4, r5, r6, zeroG]) rfl ⟨rfl, ?_⟩
 exact below_put7 B1 (by omega)

theorem doG_9 (V F : Int) (s : Option Addr) (c : List Ins) (cap : Nat) (g : Gs) (ss : Option Addr) (gc : Nat) (h : Gs) (st : Option Addr) (hc : Nat) (w : World)
  (hcd : CodeAt w s c) (hs : IntsAt w ss g.s) (h1 : g.s.length ≤ gc) (h2 : gc ≤ maxLen) (ht : IntsAt w st h.s) (h3 : h.s.length ≤ hc) (h4 : hc ≤ maxLen) (hck : ckAllG V F c [g, h] = 0) (y n : Bool) (hS : ∀ wx, Below w.heap.size w wx → Calls Tryz.prog 124 #[gv g ss gc, gv h st hc] wx fun e w' => e = .returned (.tuple #[.bool y, .bool n]) ∧ Below wx.heap.size wx w') :
  Calls Tryz.prog 92 #[pv V F s c cap, .int .i64 9, gv g ss gc, gv h st hc] w fun e w' => e = .returned (.tuple #[gv ⟨false, ⟨true, 0, 0⟩, y, n, []⟩ none 0, .bool false, .int .i64 0]) ∧ Below w.heap.size w w' := by
 obtain ⟨P0, G0, H0, R0, F0⟩ := togW_at w V F s c cap g ss gc h st hc
 have B0 := togW_below w V F s c cap g ss gc h st hc
 have C0 : CodeAt (togW w V F s c cap g ss gc h st hc) s c := hcd.below B0 (Nat.le_refl _)
 have I0 : IntsAt (togW w V F s c cap g ss gc h st hc) ss g.s := hs.below B0 (Nat.le_refl _)
 have J0 : IntsAt (togW w V F s c cap g ss gc h st hc) st h.s := ht.below B0 (Nat.le_refl _)
 have L0 := GsAt.new2 (togW w V F s c cap g ss gc h st hc) g ss gc h st hc I0 h1 h2 J0 h3 h4
 simp only [World.size_alloc] at L0
 have HC := hideH (checkAllG_any V F s c cap (some ⟨w.heap.size + 1 + 1 + 1 + 1, 0, none⟩) [g, h] 2 _ (C0.alloc _) L0 (by simp))
 rw [hck] at HC
 have HS := hideH hS
 clear hS
 go_enter Tryz.func92, Tryz.ntmps92
 go_wp2_with (go_at_call 114; fail)
 refine HC.out.mono ?_
 rintro e w1 ⟨rfl, hb1⟩
 have G1 := (G0.alloc _).call hb1
 have H1 := (H0.alloc _).call hb1
 have R1 := (R0.alloc _).call hb1
 have I1 := (I0.alloc _).call hb1
 have J1 := (J0.alloc _).call hb1
 have F1 : Fr7 w1 (w.heap.size + 1 + 1 + 1) := (F0.alloc _).call hb1
 have B1 : Below w.heap.size w w1 := (B0.alloc B0.size _).trans (hb1.mono (by simp; omega))
 clear hb1 G0 H0 R0 I0 J0 F0 B0 C0 P0 L0 hcd hs ht HC
 obtain ⟨⟨g0, g1, g2, g3, g4, g5, g6⟩, gz⟩ := id G1
 obtain ⟨⟨k0, k1, k2, k3, k4, k5, k6⟩, kz⟩ := id H1
 simp only [Nat.zero_add] at g0 g1 g2 g3 g4 g5 g6 k0 k1 k2 k3 k4 k5 k6
 go_wp2_with (go_at_call 124; fail)
 refine (HS.out _ B1).mono ?_
 rintro e w2 ⟨rfl, hb2⟩
 have R2 := R1.call hb2
 have F2 := F1.call hb2
 have B2 := B1.trans (hb2.mono B1.size)
 clear hb2
 go_wp2_with (go_at_call 122; fail)
 refine (truths_any _ _ _).mono ?_
 rintro e w3 ⟨rfl, hb3⟩
 have R3 := R2.call hb3
 have F3 := F2.call hb3
 have B3 := B2.trans (hb3.mono B2.size)
 clear hb3
 obtain ⟨⟨r0, r1, r2, r3, r4, r5, r6⟩, rz⟩ := id R3
 simp only [Nat.zero_add, zeroG] at r0 r1 r2 r3 r4 r5 r6
 have fz := F3.1
 go_wp2
 refine bodyPost_ret (v := .tuple #[gv ⟨false, ⟨true, 0, 0⟩, y, n, []⟩ none 0, .bool false, .int .i64 0]) (by simp [results, Tryz.results92, go_sem, r0, r1, r2, r3, r4, r5, r6]) rfl ⟨rfl, ?_⟩
 exact below_put7 B3 (by omega)

theorem doG_10 (V F : Int) (s : Option Addr) (c : List Ins) (cap : Nat) (g : Gs) (ss : Option Addr) (gc : Nat) (h : Gs) (st : Option Addr) (hc : Nat) (w : World)
  (hcd : CodeAt w s c) (hs : IntsAt w ss g.s) (h1 : g.s.length ≤ gc) (h2 : gc ≤ maxLen) (ht : IntsAt w st h.s) (h3 : h.s.length ≤ hc) (h4 : hc ≤ maxLen) (hck : ckAllG V F c [g, h] = 0) (hsp : ckSp g.sp = 0) :
  Calls Tryz.prog 92 #[pv V F s c cap, .int .i64 10, gv g ss gc, gv h st hc] w fun e w' => e = .returned (.tuple #[gv ⟨false, ⟨true, 0, 0⟩, noGs g, yesGs g, []⟩ none 0, .bool false, .int .i64 0]) ∧ Below w.heap.size w w' := by
 obtain ⟨P0, G0, H0, R0, F0⟩ := togW_at w V F s c cap g ss gc h st hc
 have B0 := togW_below w V F s c cap g ss gc h st hc
 have C0 : CodeAt (togW w V F s c cap g ss gc h st hc) s c := hcd.below B0 (Nat.le_refl _)
 have I0 : IntsAt (togW w V F s c cap g ss gc h st hc) ss g.s := hs.below B0 (Nat.le_refl _)
 have J0 : IntsAt (togW w V F s c cap g ss gc h st hc) st h.s := ht.below B0 (Nat.le_refl _)
 have L0 := GsAt.new2 (togW w V F s c cap g ss gc h st hc) g ss gc h st hc I0 h1 h2 J0 h3 h4
 simp only [World.size_alloc] at L0
 have HC := hideH (checkAllG_any V F s c cap (some ⟨w.heap.size + 1 + 1 + 1 + 1, 0, none⟩) [g, h] 2 _ (C0.alloc _) L0 (by simp))
 rw [hck] at HC
 have HS := hideH (fun w => truthG_any g ss gc w hsp)
 generalize yesGs g = y at HS ⊢
 generalize noGs g = n at HS ⊢
 clear hsp
 go_enter Tryz.func92, Tryz.ntmps92
 go_wp2_with (go_at_call 114; fail)
 refine HC.out.mono ?_
 rintro e w1 ⟨rfl, hb1⟩
 have G1 := (G0.alloc _).call hb1
 have H1 := (H0.alloc _).call hb1
 have R1 := (R0.alloc _).call hb1
 have I1 := (I0.alloc _).call hb1
 have J1 := (J0.alloc _).call hb1
 have F1 : Fr7 w1 (w.heap.size + 1 + 1 + 1) := (F0.alloc _).call hb1
 have B1 : Below w.heap.size w w1 := (B0.alloc B0.size _).trans (hb1.mono (by simp; omega))
 clear hb1 G0 H0 R0 I0 J0 F0 B0 C0 P0 L0 hcd hs ht HC
 obtain ⟨⟨g0, g1, g2, g3, g4, g5, g6⟩, gz⟩ := id G1
 obtain ⟨⟨k0, k1, k2, k3, k4, k5, k6⟩, kz⟩ := id H1
 simp only [Nat.zero_add] at g0 g1 g2 g3 g4 g5 g6 k0 k1 k2 k3 k4 k5 k6
 go_wp2_with (go_at_call 115; fail)
 refine (HS.out _).mono ?_
 rintro e w2 ⟨rfl, hb2⟩
 have R2 := R1.call hb2
 have F2 := F1.call hb2
 have B2 := B1.trans (hb2.mono B1.size)
 clear hb2
 go_wp2_with (go_at_call 122; fail)
 refine (truths_any _ _ _).mono ?_
 rintro e w3 ⟨rfl, hb3⟩
 have R3 := R2.call hb3
 have F3 := F2.call hb3
 have B3 := B2.trans (hb3.mono B2.size)
 clear hb3
 obtain ⟨⟨r0, r1, r2, r3, r4, r5, r6⟩, rz⟩ := id R3
 simp only [Nat.zero_add, zeroG] at r0 r1 r2 r3 r4 r5 r6
 have fz := F3.1
 go_wp2
 refine bodyPost_ret (v := .tuple #[gv ⟨false, ⟨true, 0, 0⟩, n, y, []⟩ none 0, .bool false, .int .i64 0]) (by simp [results, Tryz.results92, go_sem, r0, r1, r2, r3, r4, r5, r6]) rfl ⟨rfl, ?_⟩
 exact below_put7 B3 (by omega)
end
section
set_option maxHeartbeats 2000000
set_option maxRecDepth 10000
open Go.RowKit

theorem cloneI_any (ss : Option Addr) (cap : Nat) (l : List Int) (w : World) (hl : l.length ≤ 1000000) (hs : IntsAt w ss l) :
  Calls Tryz.prog 125 #[.slice ss l.length cap] w fun e w' => ∃ v, e = .returned v ∧ w'.ownsRow w.heap.size 3 1 v l.length (l.map (.int .i64)) ∧ Below w.heap.size w w' := by
 cases ss with
 | none =>
  have h0 : l = [] := by
   rcases hs with h | ⟨_, _, h, _⟩
   ·exact h
   ·cases h
  subst h0
  refine (Tryz.slices_Clone_int_nil _ _ _).mono ?_
  rintro e w' ⟨rfl, rfl⟩
  exact ⟨_, rfl, ⟨rfl, .inl ⟨rfl, rfl⟩⟩, Below.refl _ _⟩
 | some a =>
  by_cases h0 : l = []
  ·subst h0
   refine (Tryz.slices_Clone_int_zero a cap w).mono ?_
   rintro e w' ⟨v, rfl, ho, -, hb⟩
   exact ⟨_, rfl, ho, hb⟩
  ·obtain ⟨b, off, e, hb, hc⟩ := hs.get 0 (List.length_pos_iff.2 h0)
   cases e
   refine (Tryz.slices_Clone_int b off l.length cap l w (Nat.le_refl _) (by omega) (fun j hj => ?_)).mono ?_
   ·rw [hc j hj]
    simp [List.getD, List.getElem?_eq_getElem hj]
   ·rintro e w' ⟨v, rfl, ho, -, hb'⟩
    rw [List.take_length] at ho
    exact ⟨_, rfl, ho, hb'⟩

theorem doG_4 (V F : Int) (s : Option Addr) (c : List Ins) (cap : Nat) (g : Gs) (ss : Option Addr) (gc : Nat) (h : Gs) (st : Option Addr) (hc : Nat) (w : World)
  (hcd : CodeAt w s c) (hs : IntsAt w ss g.s) (h1 : g.s.length ≤ gc) (h2 : gc ≤ maxLen) (ht : IntsAt w st h.s) (h3 : h.s.length ≤ hc) (h4 : hc ≤ maxLen) (hck : ckAllG V F c [g, h] = 0) (hlen : g.s.length ≤ 1000000) :
  Calls Tryz.prog 92 #[pv V F s c cap, .int .i64 4, gv g ss gc, gv h st hc] w fun e w' => ∃ v, e = .returned (.tuple #[.agg #[.bool g.n, .bool g.sp.n, .int .i64 g.sp.lo, .int .i64 g.sp.hi, .bool g.t, .bool g.f, v], .bool false, .int .i64 0]) ∧ w'.ownsRow w.heap.size 3 1 v g.s.length (g.s.map (.int .i64)) ∧ Below w.heap.size w w' := by
 obtain ⟨P0, G0, H0, R0, F0⟩ := togW_at w V F s c cap g ss gc h st hc
 have B0 := togW_below w V F s c cap g ss gc h st hc
 have C0 : CodeAt (togW w V F s c cap g ss gc h st hc) s c := hcd.below B0 (Nat.le_refl _)
 have I0 : IntsAt (togW w V F s c cap g ss gc h st hc) ss g.s := hs.below B0 (Nat.le_refl _)
 have J0 : IntsAt (togW w V F s c cap g ss gc h st hc) st h.s := ht.below B0 (Nat.le_refl _)
 have L0 := GsAt.new2 (togW w V F s c cap g ss gc h st hc) g ss gc h st hc I0 h1 h2 J0 h3 h4
 simp only [World.size_alloc] at L0
 have HC := hideH (checkAllG_any V F s c cap (some ⟨w.heap.size + 1 + 1 + 1 + 1, 0, none⟩) [g, h] 2 _ (C0.alloc _) L0 (by simp))
 have FG : Fr7 (togW w V F s c cap g ss gc h st hc) (w.heap.size + 1) := ⟨fun j => by simp [go_sem], by simp⟩
 rw [hck] at HC
 go_enter Tryz.func92, Tryz.ntmps92
 go_wp2_with (go_at_call 114; fail)
 refine HC.out.mono ?_
 rintro e w1 ⟨rfl, hb1⟩
 have G1 := (G0.alloc _).call hb1
 have H1 := (H0.alloc _).call hb1
 have R1 := (R0.alloc _).call hb1
 have I1 := (I0.alloc _).call hb1
 have J1 := (J0.alloc _).call hb1
 have F1 : Fr7 w1 (w.heap.size + 1 + 1 + 1) := (F0.alloc _).call hb1
 have B1 : Below w.heap.size w w1 := (B0.alloc B0.size _).trans (hb1.mono (by simp; omega))
 have X1 : Fr7 w1 (w.heap.size + 1) := (FG.alloc _).call hb1
 clear hb1 FG G0 H0 R0 I0 J0 F0 B0 C0 P0 L0 hcd hs ht HC
 obtain ⟨⟨g0, g1, g2, g3, g4, g5, g6⟩, gz⟩ := id G1
 obtain ⟨⟨k0, k1, k2, k3, k4, k5, k6⟩, kz⟩ := id H1
 simp only [Nat.zero_add] at g0 g1 g2 g3 g4 g5 g6 k0 k1 k2 k3 k4 k5 k6
 go_wp2_with (go_at_call 125; fail)
 refine (cloneI_any ss gc g.s _ hlen I1).mono ?_
 rintro e w2 ⟨v, rfl, hown, hb2⟩
 have G2 := G1.call hb2
 have R2 := R1.call hb2
 have F2 := F1.call hb2
 have X2 := X1.call hb2
 have B2 := B1.trans (hb2.mono B1.size)
 have z2 := F1.2
 clear hb2 g0 g1 g2 g3 g4 g5 g6 gz k0 k1 k2 k3 k4 k5 k6 kz
 have O2 := hown
 obtain ⟨vs, vc, hv, -, -, -, -⟩ := IntsAt.own hown
 subst hv
 obtain ⟨⟨g0, g1, g2, g3, g4, g5, g6⟩, gz⟩ := id G2
 simp only [Nat.zero_add] at g0 g1 g2 g3 g4 g5 g6
 have fx := X2.1
 obtain ⟨⟨r0, r1, r2, r3, r4, r5, r6⟩, rz⟩ := id R2
 simp only [Nat.zero_add, zeroG] at r0 r1 r2 r3 r4 r5 r6
 have fz := F2.1
 clear hown
 go_wp2
 refine bodyPost_ret (v := .tuple #[.agg #[.bool g.n, .bool g.sp.n, .int .i64 g.sp.lo, .int .i64 g.sp.hi, .bool g.t, .bool g.f, .slice vs g.s.length vc], .bool false, .int .i64 0]) (by simp [results, Tryz.results92, go_sem, r0, r1, r2, r3, r4, r5, r6, g0, g1, g2, g3, g4, g5, g6]) rfl ⟨_, rfl, ?_, ?_⟩
 ·exact ownsRow_base (ownsRow_put7 (ownsRow_setFar O2 (by omega)) (by omega)) (by omega)
 ·exact below_put7 (B2.setCell (by show w.heap.size ≤ w.heap.size + 1; omega) _) (by omega)
end
section
set_option maxHeartbeats 4000000
set_option maxRecDepth 100000
open Go.RowKit

/-- What the region reads. -/
def regQ (w : World) (g : Gs) (ss : Option Addr) (gc : Nat) (h : Gs) (st : Option Addr) (hc : Nat) (w' : World) : Prop :=
 (w'.cell? ⟨w.heap.size + 1, 0, none⟩ = some (.bool g.n) ∧ w'.cell? ⟨w.heap.size + 1, 1, none⟩ = some (.bool g.sp.n) ∧ w'.cell? ⟨w.heap.size + 1, 2, none⟩ = some (.int .i64 g.sp.lo) ∧ w'.cell? ⟨w.heap.size + 1, 3, none⟩ = some (.int .i64 g.sp.hi) ∧ w'.cell? ⟨w.heap.size + 1, 4, none⟩ = some (.bool g.t) ∧ w'.cell? ⟨w.heap.size + 1, 5, none⟩ = some (.bool g.f) ∧ w'.cell? ⟨w.heap.size + 1, 6, none⟩ = some (.slice ss g.s.length gc)) ∧
 (w'.cell? ⟨w.heap.size + 1 + 1, 0, none⟩ = some (.bool h.n) ∧ w'.cell? ⟨w.heap.size + 1 + 1, 1, none⟩ = some (.bool h.sp.n) ∧ w'.cell? ⟨w.heap.size + 1 + 1, 2, none⟩ = some (.int .i64 h.sp.lo) ∧ w'.cell? ⟨w.heap.size + 1 + 1, 3, none⟩ = some (.int .i64 h.sp.hi) ∧ w'.cell? ⟨w.heap.size + 1 + 1, 4, none⟩ = some (.bool h.t) ∧ w'.cell? ⟨w.heap.size + 1 + 1, 5, none⟩ = some (.bool h.f) ∧ w'.cell? ⟨w.heap.size + 1 + 1, 6, none⟩ = some (.slice st h.s.length hc))

theorem prf_78f176 {p : Prop} (h : p := by
 refine wpAnyH_ready (rs := [11]) (by kernel_rfl) (by simp) ?_
 refine AllReadyH.cons rfl (fun K hK => ?_) AllReadyH.nil
 go_simp
 refine (HW.out _ 2 _ L5).mono ?_
 rintro e w6 ⟨rfl, hb6⟩
 have G6 := G5.call hb6
 have H6 := H5.call hb6
 have R6 := R5.call hb6
 have F6 := F5.call hb6
 have L6 := L5.call hb6
 have B6 := B5.trans (hb6.mono B5.size)
 refine hK.out _ _ (KS _ G6 H6) (fun hHeld6 => ?_)
 clear hK K hb6
 refine sm ?_
 obtain ⟨⟨r0, r1, r2, r3, r4, r5, r6⟩, rz⟩ := id R6
 simp only [Nat.zero_add, zeroG] at r0 r1 r2 r3 r4 r5 r6
 have fz := F6.1
 refine wpAnyH_ready (rs := [12]) (by kernel_rfl) (by simp) ?_
 refine AllReadyH.cons rfl (fun K hK => ?_) AllReadyH.nil
 go_simp
 refine hK.out _ _ (KS _ (G6.put7 (by omega)) (H6.put7 (by omega))) (fun hHeldz => ?_)
 clear hK K
 refine sm ?_
 refine tH 13 ?_ ?_;refine sm ?_
 refine tH 14 ?_ ?_;refine sm ?_
 refine wpAnyH_done (by kernel_rfl) ?_ _
 go_wp2
 refine bodyPost_ret (v := .tuple #[gv ⟨false, ⟨true, 0, 0⟩, y, n, []⟩ none 0, .bool wr, .int .i64 0]) (by simp [results, Tryz.results92, go_sem, r0, r1, r2, r3, r4, r5, r6]) rfl ⟨rfl, ?_⟩
 exact below_put7 B6 (by omega)) : p := h
theorem doG_8 (V F : Int) (s : Option Addr) (c : List Ins) (cap : Nat) (g : Gs) (ss : Option Addr) (gc : Nat) (h : Gs) (st : Option Addr) (hc : Nat) (w : World)
  (hcd : CodeAt w s c) (hs : IntsAt w ss g.s) (h1 : g.s.length ≤ gc) (h2 : gc ≤ maxLen) (ht : IntsAt w st h.s) (h3 : h.s.length ≤ hc) (h4 : hc ≤ maxLen) (hck : ckAllG V F c [g, h] = 0) :
  Calls Tryz.prog 92 #[pv V F s c cap, .int .i64 8, gv g ss gc, gv h st hc] w fun e w' => e = .returned (.tuple #[gv ⟨false, ⟨true, 0, 0⟩, !(g.sp.n || h.sp.n) && decide (g.sp.lo < h.sp.hi), !(g.sp.n || h.sp.n) && decide (h.sp.lo ≤ g.sp.hi), []⟩ none 0, .bool ([g, h].any otherGs && ![g, h].any nothingGs), .int .i64 0]) ∧ Below w.heap.size w w' := by
 obtain ⟨P0, G0, H0, R0, F0⟩ := togW_at w V F s c cap g ss gc h st hc
 have B0 := togW_below w V F s c cap g ss gc h st hc
 have C0 : CodeAt (togW w V F s c cap g ss gc h st hc) s c := hcd.below B0 (Nat.le_refl _)
 have I0 : IntsAt (togW w V F s c cap g ss gc h st hc) ss g.s := hs.below B0 (Nat.le_refl _)
 have J0 : IntsAt (togW w V F s c cap g ss gc h st hc) st h.s := ht.below B0 (Nat.le_refl _)
 have L0 := GsAt.new2 (togW w V F s c cap g ss gc h st hc) g ss gc h st hc I0 h1 h2 J0 h3 h4
 simp only [World.size_alloc] at L0
 have HC := hideH (checkAllG_any V F s c cap (some ⟨w.heap.size + 1 + 1 + 1 + 1, 0, none⟩) [g, h] 2 _ (C0.alloc _) L0 (by simp))
 rw [hck] at HC
 have HL := hideH (fun w => less_any g.sp h.sp w)
 generalize (!(g.sp.n || h.sp.n) && decide (g.sp.lo < h.sp.hi)) = y at HL ⊢
 generalize (!(g.sp.n || h.sp.n) && decide (h.sp.lo ≤ g.sp.hi)) = n at HL ⊢
 have HW := hideH (fun ls lc w hL => isWrong_any ls [g, h] lc w (by simp) hL)
 generalize ([g, h].any otherGs && ![g, h].any nothingGs) = wr at HW ⊢
 go_enter Tryz.func92, Tryz.ntmps92
 go_wp2_with (go_at_call 114; fail)
 refine HC.out.mono ?_
 rintro e w1 ⟨rfl, hb1⟩
 have G1 := (G0.alloc _).call hb1
 have H1 := (H0.alloc _).call hb1
 have R1 := (R0.alloc _).call hb1
 have I1 := (I0.alloc _).call hb1
 have J1 := (J0.alloc _).call hb1
 have F1 : Fr7 w1 (w.heap.size + 1 + 1 + 1) := (F0.alloc _).call hb1
 have B1 : Below w.heap.size w w1 := (B0.alloc B0.size _).trans (hb1.mono (by simp; omega))
 clear hb1 G0 H0 R0 I0 J0 F0 B0 C0 P0 L0 hcd hs ht HC
 clear I1 J1
 obtain ⟨⟨g0, g1, g2, g3, g4, g5, g6⟩, gz⟩ := id G1
 obtain ⟨⟨k0, k1, k2, k3, k4, k5, k6⟩, kz⟩ := id H1
 simp only [Nat.zero_add] at g0 g1 g2 g3 g4 g5 g6 k0 k1 k2 k3 k4 k5 k6
 go_wp2
 have KS : ∀ wx, GuAt wx (w.heap.size + 1) 0 g ss gc → GuAt wx (w.heap.size + 1 + 1) 0 h st hc → regQ w g ss gc h st hc wx := fun wx a b => ⟨by simpa using a.1, by simpa using b.1⟩
 have G2 := G1.drew
 have H2 := H1.drew
 have R2 := R1.drew
 have F2 := F1.drew
 have B2 := B1.drew
 refine wp_region_held_drew (S := regQ w g ss gc h st hc) (by kernel_rfl) (KS _ G2 H2) (fun hHeld => ?_)
 unfold regQ at hHeld KS ⊢
 clear G1 H1 R1 F1 B1 g0 g1 g2 g3 g4 g5 g6 gz k0 k1 k2 k3 k4 k5 k6 kz
 generalize w1.drew = w2 at *
 refine tH 0 ?_ ?_;refine sm ?_
 refine tH 1 ?_ ?_;refine sm ?_
 refine tH 2 ?_ ?_;refine sm ?_
 refine tH 3 ?_ ?_;refine sm ?_
 refine tH 8 ?_ ?_;refine sm ?_
 refine tH 9 ?_ ?_;refine sm ?_
 refine wpAnyH_ready (rs := [4, 10]) (by kernel_rfl) (by simp) ?_
 refine AllReadyH.cons rfl (fun K hK => ?_) (AllReadyH.cons rfl (fun K hK => ?_) AllReadyH.nil)
 ·go_simp
  refine (HL.out _).mono ?_
  rintro e w3 ⟨rfl, hb3⟩
  have G3 := G2.call hb3
  have H3 := H2.call hb3
  have R3 := R2.call hb3
  have F3 := F2.call hb3
  have B3 := B2.trans (hb3.mono B2.size)
  refine hK.out _ _ (KS _ G3 H3) (fun hHeld3 => ?_)
  clear hK K hb3
  refine sm ?_
  refine tH 5 ?_ ?_;refine sm ?_
  refine tH 6 ?_ ?_;refine sm ?_
  refine wpAnyH_ready (rs := [7, 10]) (by kernel_rfl) (by simp) ?_
  refine AllReadyH.cons rfl (fun K hK => ?_) (AllReadyH.cons rfl (fun K hK => ?_) AllReadyH.nil)
  ·go_simp
   refine (truths_any _ _ _).mono ?_
   rintro e w4 ⟨rfl, hb4⟩
   have G4 := G3.call hb4
   have H4 := H3.call hb4
   have R4 := R3.call hb4
   have F4 := F3.call hb4
   have B4 := B3.trans (hb4.mono B3.size)
   refine hK.out _ _ (KS _ G4 H4) (fun hHeld4 => ?_)
   clear hK K hb4
   refine sm ?_
   refine wpAnyH_ready (rs := [10]) (by kernel_rfl) (by simp) ?_
   refine AllReadyH.cons rfl (fun K hK => ?_) AllReadyH.nil
   go_simp
   have G5 := G4.alloc (.cells #[.bool g.n, .bool g.sp.n, .int .i64 g.sp.lo, .int .i64 g.sp.hi, .bool g.t, .bool g.f, .slice ss g.s.length gc, .bool h.n, .bool h.sp.n, .int .i64 h.sp.lo, .int .i64 h.sp.hi, .bool h.t, .bool h.f, .slice st h.s.length hc] 61)
   have H5 := H4.alloc (.cells #[.bool g.n, .bool g.sp.n, .int .i64 g.sp.lo, .int .i64 g.sp.hi, .bool g.t, .bool g.f, .slice ss g.s.length gc, .bool h.n, .bool h.sp.n, .int .i64 h.sp.lo, .int .i64 h.sp.hi, .bool h.t, .bool h.f, .slice st h.s.length hc] 61)
   have R5 := R4.alloc (.cells #[.bool g.n, .bool g.sp.n, .int .i64 g.sp.lo, .int .i64 g.sp.hi, .bool g.t, .bool g.f, .slice ss g.s.length gc, .bool h.n, .bool h.sp.n, .int .i64 h.sp.lo, .int .i64 h.sp.hi, .bool h.t, .bool h.f, .slice st h.s.length hc] 61)
   have F5 := F4.alloc (.cells #[.bool g.n, .bool g.sp.n, .int .i64 g.sp.lo, .int .i64 g.sp.hi, .bool g.t, .bool g.f, .slice ss g.s.length gc, .bool h.n, .bool h.sp.n, .int .i64 h.sp.lo, .int .i64 h.sp.hi, .bool h.t, .bool h.f, .slice st h.s.length hc] 61)
   have B5 := B4.alloc B4.size (.cells #[.bool g.n, .bool g.sp.n, .int .i64 g.sp.lo, .int .i64 g.sp.hi, .bool g.t, .bool g.f, .slice ss g.s.length gc, .bool h.n, .bool h.sp.n, .int .i64 h.sp.lo, .int .i64 h.sp.hi, .bool h.t, .bool h.f, .slice st h.s.length hc] 61)
   have L5 := GhAt.new2 w4 g ss gc h st hc
   refine hK.out _ _ (KS _ G5 H5) (fun hHeld5 => ?_)
   clear hK K
   refine sm ?_
   unfold twoW at L5
   generalize w4.alloc (.cells #[.bool g.n, .bool g.sp.n, .int .i64 g.sp.lo, .int .i64 g.sp.hi, .bool g.t, .bool g.f, .slice ss g.s.length gc, .bool h.n, .bool h.sp.n, .int .i64 h.sp.lo, .int .i64 h.sp.hi, .bool h.t, .bool h.f, .slice st h.s.length hc] 61) = w5 at *
   generalize w4.heap.size = sb at *
   exact prf_78f176
  ·go_simp
   have G4 := G3.alloc (.cells #[.bool g.n, .bool g.sp.n, .int .i64 g.sp.lo, .int .i64 g.sp.hi, .bool g.t, .bool g.f, .slice ss g.s.length gc, .bool h.n, .bool h.sp.n, .int .i64 h.sp.lo, .int .i64 h.sp.hi, .bool h.t, .bool h.f, .slice st h.s.length hc] 61)
   have H4 := H3.alloc (.cells #[.bool g.n, .bool g.sp.n, .int .i64 g.sp.lo, .int .i64 g.sp.hi, .bool g.t, .bool g.f, .slice ss g.s.length gc, .bool h.n, .bool h.sp.n, .int .i64 h.sp.lo, .int .i64 h.sp.hi, .bool h.t, .bool h.f, .slice st h.s.length hc] 61)
   have R4 := R3.alloc (.cells #[.bool g.n, .bool g.sp.n, .int .i64 g.sp.lo, .int .i64 g.sp.hi, .bool g.t, .bool g.f, .slice ss g.s.length gc, .bool h.n, .bool h.sp.n, .int .i64 h.sp.lo, .int .i64 h.sp.hi, .bool h.t, .bool h.f, .slice st h.s.length hc] 61)
   have F4 := F3.alloc (.cells #[.bool g.n, .bool g.sp.n, .int .i64 g.sp.lo, .int .i64 g.sp.hi, .bool g.t, .bool g.f, .slice ss g.s.length gc, .bool h.n, .bool h.sp.n, .int .i64 h.sp.lo, .int .i64 h.sp.hi, .bool h.t, .bool h.f, .slice st h.s.length hc] 61)
   have B4 := B3.alloc B3.size (.cells #[.bool g.n, .bool g.sp.n, .int .i64 g.sp.lo, .int .i64 g.sp.hi, .bool g.t, .bool g.f, .slice ss g.s.length gc, .bool h.n, .bool h.sp.n, .int .i64 h.sp.lo, .int .i64 h.sp.hi, .bool h.t, .bool h.f, .slice st h.s.length hc] 61)
   have L4 := GhAt.new2 w3 g ss gc h st hc
   refine hK.out _ _ (KS _ G4 H4) (fun hHeld4 => ?_)
   clear hK K
   refine sm ?_
   unfold twoW at L4
   generalize w3.alloc (.cells #[.bool g.n, .bool g.sp.n, .int .i64 g.sp.lo, .int .i64 g.sp.hi, .bool g.t, .bool g.f, .slice ss g.s.length gc, .bool h.n, .bool h.sp.n, .int .i64 h.sp.lo, .int .i64 h.sp.hi, .bool h.t, .bool h.f, .slice st h.s.length hc] 61) = w4 at *
   generalize w3.heap.size = sb at *
   refine wpAnyH_ready (rs := [7]) (by kernel_rfl) (by simp) ?_
   refine AllReadyH.cons rfl (fun K hK => ?_) AllReadyH.nil
   go_simp
   refine (truths_any _ _ _).mono ?_
   rintro e w5 ⟨rfl, hb5⟩
   have G5 := G4.call hb5
   have H5 := H4.call hb5
   have R5 := R4.call hb5
   have F5 := F4.call hb5
   have L5 := L4.call hb5
   have B5 := B4.trans (hb5.mono B4.size)
   refine hK.out _ _ (KS _ G5 H5) (fun hHeld5 => ?_)
   clear hK K hb5
   refine sm ?_
   exact prf_78f176
 ·go_simp
  have G3 := G2.alloc (.cells #[.bool g.n, .bool g.sp.n, .int .i64 g.sp.lo, .int .i64 g.sp.hi, .bool g.t, .bool g.f, .slice ss g.s.length gc, .bool h.n, .bool h.sp.n, .int .i64 h.sp.lo, .int .i64 h.sp.hi, .bool h.t, .bool h.f, .slice st h.s.length hc] 61)
  have H3 := H2.alloc (.cells #[.bool g.n, .bool g.sp.n, .int .i64 g.sp.lo, .int .i64 g.sp.hi, .bool g.t, .bool g.f, .slice ss g.s.length gc, .bool h.n, .bool h.sp.n, .int .i64 h.sp.lo, .int .i64 h.sp.hi, .bool h.t, .bool h.f, .slice st h.s.length hc] 61)
  have R3 := R2.alloc (.cells #[.bool g.n, .bool g.sp.n, .int .i64 g.sp.lo, .int .i64 g.sp.hi, .bool g.t, .bool g.f, .slice ss g.s.length gc, .bool h.n, .bool h.sp.n, .int .i64 h.sp.lo, .int .i64 h.sp.hi, .bool h.t, .bool h.f, .slice st h.s.length hc] 61)
  have F3 := F2.alloc (.cells #[.bool g.n, .bool g.sp.n, .int .i64 g.sp.lo, .int .i64 g.sp.hi, .bool g.t, .bool g.f, .slice ss g.s.length gc, .bool h.n, .bool h.sp.n, .int .i64 h.sp.lo, .int .i64 h.sp.hi, .bool h.t, .bool h.f, .slice st h.s.length hc] 61)
  have B3 := B2.alloc B2.size (.cells #[.bool g.n, .bool g.sp.n, .int .i64 g.sp.lo, .int .i64 g.sp.hi, .bool g.t, .bool g.f, .slice ss g.s.length gc, .bool h.n, .bool h.sp.n, .int .i64 h.sp.lo, .int .i64 h.sp.hi, .bool h.t, .bool h.f, .slice st h.s.length hc] 61)
  have L3 := GhAt.new2 w2 g ss gc h st hc
  refine hK.out _ _ (KS _ G3 H3) (fun hHeld3 => ?_)
  clear hK K
  refine sm ?_
  unfold twoW at L3
  generalize w2.alloc (.cells #[.bool g.n, .bool g.sp.n, .int .i64 g.sp.lo, .int .i64 g.sp.hi, .bool g.t, .bool g.f, .slice ss g.s.length gc, .bool h.n, .bool h.sp.n, .int .i64 h.sp.lo, .int .i64 h.sp.hi, .bool h.t, .bool h.f, .slice st h.s.length hc] 61) = w3 at *
  generalize w2.heap.size = sb at *
  refine wpAnyH_ready (rs := [4]) (by kernel_rfl) (by simp) ?_
  refine AllReadyH.cons rfl (fun K hK => ?_) AllReadyH.nil
  go_simp
  refine (HL.out _).mono ?_
  rintro e w4 ⟨rfl, hb4⟩
  have G4 := G3.call hb4
  have H4 := H3.call hb4
  have R4 := R3.call hb4
  have F4 := F3.call hb4
  have L4 := L3.call hb4
  have B4 := B3.trans (hb4.mono B3.size)
  refine hK.out _ _ (KS _ G4 H4) (fun hHeld4 => ?_)
  clear hK K hb4
  refine sm ?_
  refine tH 5 ?_ ?_;refine sm ?_
  refine tH 6 ?_ ?_;refine sm ?_
  refine wpAnyH_ready (rs := [7]) (by kernel_rfl) (by simp) ?_
  refine AllReadyH.cons rfl (fun K hK => ?_) AllReadyH.nil
  go_simp
  refine (truths_any _ _ _).mono ?_
  rintro e w5 ⟨rfl, hb5⟩
  have G5 := G4.call hb5
  have H5 := H4.call hb5
  have R5 := R4.call hb5
  have F5 := F4.call hb5
  have L5 := L4.call hb5
  have B5 := B4.trans (hb5.mono B4.size)
  refine hK.out _ _ (KS _ G5 H5) (fun hHeld5 => ?_)
  clear hK K hb5
  refine sm ?_
  exact prf_78f176
end
end Go.Proofs.YtmapdpcfanecdabGreat
