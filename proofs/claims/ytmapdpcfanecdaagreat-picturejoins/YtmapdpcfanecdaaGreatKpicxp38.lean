/- Walks over package picture: is it within? -/
import Derived.Test.YtmapdpcfanecdaaGreatKpicxp37
import Derived.Test.YtmapdpcfanecdaaGreatKpicxp31
import Derived.Test.YtmapdpcfanecdaaGreatKpicxp07
import Derived.Deep.DeepCutAuto
namespace Go.Proofs.YtmapdpcfanecdaaGreat
set_option linter.unusedVariables false
set_option linter.unusedSimpArgs false
open Go.RowKit
attribute [local go_sem ↓] Go.wp_at_zero Go.wp_at_succ

theorem inGs_self {c : List Ins} {g : Gs} (h : ckGs c g = 0) : inGs g g = true := by
  have hs : ckSp g.sp = 0 := by
    unfold ckGs at h
    split at h
    · exact h
    · rename_i h1; simpa using h1
  have hok := ckSp_ok.1 hs
  obtain ⟨n, ⟨sn, lo, hi⟩, t, f, s⟩ := g
  have h4 := hok.2.2.2
  simp only at h4
  unfold inGs spIn Sp.has
  cases n <;> cases t <;> cases f <;> cases sn <;> simp <;> omega
theorem inRow_append {a b x y : List Gs} (h : a.length = b.length) : inRow (a ++ x) (b ++ y) = (inRow a b && inRow x y) := by
  unfold inRow
  rw [List.zipWith_append h, List.all_append]
theorem inRows_flat : ∀ {a b : List (List Gs)}, a.length = b.length → (∀ i (h : i < a.length) (h' : i < b.length), a[i].length = b[i].length) → inRow a.flatten b.flatten = inRows a b
  | [], [], _, _ => rfl
  | [], _ :: _, h, _ => by simp at h
  | _ :: _, [], h, _ => by simp at h
  | r :: a, q :: b, h, hr => by
    have h0 := hr 0 (by simp) (by simp)
    rw [List.flatten_cons, List.flatten_cons, inRow_append (by simpa using h0), inRows_flat (by simpa using h) fun i h1 h2 => by
      have := hr (i + 1) (by simpa using h1) (by simpa using h2)
      simpa using this]
    rfl
theorem inPic_flat {V F : Int} {c : List Ins} {x y : Pic} (h1 : ckPic V F c x = 0) (h2 : ckPic V F c y = 0) (hn : x.none = false) (hm : y.none = false) : inRow (allPic x) (allPic y) = inPic x y ∧ (allPic x).length = (allPic y).length ∧ (∀ g ∈ allPic x, ckGs c g = 0) ∧ ∀ g ∈ allPic y, ckGs c g = 0 := by
  obtain ⟨a1, a2, a3, a4, a5⟩ := ckPic_form h1 hn
  obtain ⟨b1, b2, b3, b4, b5⟩ := ckPic_form h2 hm
  have hv : x.vars.length = y.vars.length := by omega
  have hl : x.flds.length = y.flds.length := by omega
  have hr : ∀ i (h : i < x.flds.length) (h' : i < y.flds.length), x.flds[i].length = y.flds[i].length := fun i h h' => by have := a3 _ (List.getElem_mem h); have := b3 _ (List.getElem_mem h'); omega
  refine ⟨?_, ?_, fun g hg => ?_, fun g hg => ?_⟩
  · unfold allPic inPic
    rw [inRow_append hv, inRows_flat hl hr, hn, hm]
    rfl
  · unfold allPic
    rw [List.length_append, List.length_append, hv]
    congr 1
    have e1 : ∀ r ∈ x.flds, r.length = F.toNat := fun r hr => by have := a3 r hr; omega
    have e2 : ∀ r ∈ y.flds, r.length = F.toNat := fun r hr => by have := b3 r hr; omega
    rw [flat_len e1, flat_len e2, hl]
  · unfold allPic at hg
    rcases List.mem_append.1 hg with hg | hg
    · exact a4 g hg
    · obtain ⟨r, hr, hg⟩ := List.mem_flatten.1 hg
      exact a5 r hr g hg
  · unfold allPic at hg
    rcases List.mem_append.1 hg with hg | hg
    · exact b4 g hg
    · obtain ⟨r, hr, hg⟩ := List.mem_flatten.1 hg
      exact b5 r hr g hg
set_option maxHeartbeats 2000000 in
set_option maxRecDepth 10000 in
theorem isWithin_any (V F : Int) (s : Option Addr) (c : List Ins) (cap : Nat) (g : Gs) (ss : Option Addr) (gc : Nat) (h : Gs) (st : Option Addr) (hc : Nat) (w : World) (hcd : CodeAt w s c) (hs : IntsAt w ss g.s) (h1 : g.s.length ≤ gc) (h2 : gc ≤ maxLen) (ht : IntsAt w st h.s) (h3 : h.s.length ≤ hc) (h4 : hc ≤ maxLen) (h0 : ckProg V F c = 0) (hg : ckGs c g = 0) (hh : ckGs c h = 0) :
    Calls Tryz.prog 72 #[pv V F s c cap, gv g ss gc, gv h st hc] w fun e w' => e = .returned (.bool (inGs g h)) ∧ Below w.heap.size w w' := by
  have B0 : Below w.heap.size w (((w.alloc (.cells #[.int .i64 V, .int .i64 F, .slice s c.length cap] 24)).alloc (.cells #[.bool g.n, .bool g.sp.n, .int .i64 g.sp.lo, .int .i64 g.sp.hi, .bool g.t, .bool g.f, .slice ss g.s.length gc] 29)).alloc (.cells #[.bool h.n, .bool h.sp.n, .int .i64 h.sp.lo, .int .i64 h.sp.hi, .bool h.t, .bool h.f, .slice st h.s.length hc] 29)) := by go_grown
  have P0 := (PrAt.new w V F s c cap).call (w' := (((w.alloc (.cells #[.int .i64 V, .int .i64 F, .slice s c.length cap] 24)).alloc (.cells #[.bool g.n, .bool g.sp.n, .int .i64 g.sp.lo, .int .i64 g.sp.hi, .bool g.t, .bool g.f, .slice ss g.s.length gc] 29)).alloc (.cells #[.bool h.n, .bool h.sp.n, .int .i64 h.sp.lo, .int .i64 h.sp.hi, .bool h.t, .bool h.f, .slice st h.s.length hc] 29))) (by go_grown)
  have G0 := (GuAt.new (w.alloc (.cells #[.int .i64 V, .int .i64 F, .slice s c.length cap] 24)) g ss gc).call (w' := (((w.alloc (.cells #[.int .i64 V, .int .i64 F, .slice s c.length cap] 24)).alloc (.cells #[.bool g.n, .bool g.sp.n, .int .i64 g.sp.lo, .int .i64 g.sp.hi, .bool g.t, .bool g.f, .slice ss g.s.length gc] 29)).alloc (.cells #[.bool h.n, .bool h.sp.n, .int .i64 h.sp.lo, .int .i64 h.sp.hi, .bool h.t, .bool h.f, .slice st h.s.length hc] 29))) (by go_grown)
  have H0 := GuAt.new ((w.alloc (.cells #[.int .i64 V, .int .i64 F, .slice s c.length cap] 24)).alloc (.cells #[.bool g.n, .bool g.sp.n, .int .i64 g.sp.lo, .int .i64 g.sp.hi, .bool g.t, .bool g.f, .slice ss g.s.length gc] 29)) h st hc
  rw [World.size_alloc] at G0
  rw [World.size_alloc, World.size_alloc] at H0
  have C0 := hcd.below B0 (Nat.le_refl _)
  have I0 := hs.below B0 (Nat.le_refl _)
  have J0 := ht.below B0 (Nat.le_refl _)
  have HS := hideH (isSame_any g ss gc h st hc (((w.alloc (.cells #[.int .i64 V, .int .i64 F, .slice s c.length cap] 24)).alloc (.cells #[.bool g.n, .bool g.sp.n, .int .i64 g.sp.lo, .int .i64 g.sp.hi, .bool g.t, .bool g.f, .slice ss g.s.length gc] 29)).alloc (.cells #[.bool h.n, .bool h.sp.n, .int .i64 h.sp.lo, .int .i64 h.sp.hi, .bool h.t, .bool h.f, .slice st h.s.length hc] 29)) I0 J0 (Nat.le_trans h1 h2) (Nat.le_trans h3 h4))
  have HW : Hid (∀ wx, CodeAt wx s c → IntsAt wx ss g.s → IntsAt wx st h.s → Calls Tryz.prog 9 #[pv V F s c cap, gv g ss gc, gv h st hc] wx fun e w' => e = .returned (.tuple #[.bool (inGs g h), .int .i64 0]) ∧ Below wx.heap.size wx w') := fun wx x1 x2 x3 => by
    have hk := ckAllG_pair h0 hg hh
    have := withinU V F s c cap g ss gc h st hc wx x1 x2 h1 h2 x3 h3 h4
    rw [hk, if_pos rfl] at this
    exact this
  have HQ : Hid (sameGs g h = true → inGs g h = true) := fun e => by rw [← sameGs_iff.1 e]; exact inGs_self hg
  clear hcd hs ht
  go_enter Tryz.func72, Tryz.ntmps72
  go_wp2_with (go_at_call 111; fail)
  generalize (((w.alloc (.cells #[.int .i64 V, .int .i64 F, .slice s c.length cap] 24)).alloc (.cells #[.bool g.n, .bool g.sp.n, .int .i64 g.sp.lo, .int .i64 g.sp.hi, .bool g.t, .bool g.f, .slice ss g.s.length gc] 29)).alloc (.cells #[.bool h.n, .bool h.sp.n, .int .i64 h.sp.lo, .int .i64 h.sp.hi, .bool h.t, .bool h.f, .slice st h.s.length hc] 29)) = w1 at *
  refine HS.out.mono ?_
  rintro e w2 ⟨rfl, hb2⟩
  rcases (show sameGs g h = false ∨ sameGs g h = true by cases sameGs g h <;> simp) with hq | hq <;> have HSG := hideH hq <;> rw [hq] <;> clear hq
  · obtain ⟨⟨p0, p1, p2⟩, pz⟩ := id (P0.call hb2)
    obtain ⟨⟨q0, q1, q2, q3, q4, q5, q6⟩, qz⟩ := id (G0.call hb2)
    obtain ⟨⟨r0, r1, r2, r3, r4, r5, r6⟩, rz⟩ := id (H0.call hb2)
    simp only [Nat.zero_add] at q0 q1 q2 q3 q4 q5 q6 r0 r1 r2 r3 r4 r5 r6
    go_wp2_with (go_at_call 9; fail)
    refine (HW.out _ (C0.call hb2) (I0.call hb2) (J0.call hb2)).mono ?_
    rintro e w3 ⟨rfl, hb3⟩
    go_wp2
    go_ret
    exact ⟨rfl, B0.trans ((hb2.trans (hb3.mono hb2.size)).mono B0.size)⟩
  · go_wp2
    go_ret
    exact ⟨ret_bool (HQ.out HSG.out).symm, B0.trans (hb2.mono B0.size)⟩

set_option maxHeartbeats 2000000 in
set_option maxRecDepth 10000 in
theorem withinP_err (V F : Int) (s : Option Addr) (c : List Ins) (cap : Nat) (x : Pic) (vs1 : Option Addr) (vc1 : Nat) (fs1 : Option Addr) (fc1 : Nat) (y : Pic) (vs2 : Option Addr) (vc2 : Nat) (fs2 : Option Addr) (fc2 : Nat) (w : World) (hcd : CodeAt w s c) (hx : PicAt w x vs1 fs1) (h1 : x.vars.length ≤ vc1 ∧ vc1 ≤ maxLen) (h2 : x.flds.length ≤ fc1 ∧ fc1 ≤ maxLen) (hy : PicAt w y vs2 fs2) (h3 : y.vars.length ≤ vc2 ∧ vc2 ≤ maxLen) (h4 : y.flds.length ≤ fc2 ∧ fc2 ≤ maxLen) (h : ckPics V F c [x, y] ≠ 0) :
    Calls Tryz.prog 25 #[pv V F s c cap, xv x vs1 vc1 fs1 fc1, xv y vs2 vc2 fs2 fc2] w fun e w' => e = .returned (.tuple #[.bool false, .int .i64 (ckPics V F c [x, y])]) ∧ Below w.heap.size w w' := by
  have B0 : Below w.heap.size w (((w.alloc (.cells #[.int .i64 V, .int .i64 F, .slice s c.length cap] 24)).alloc (.cells #[.bool x.none, .slice vs1 x.vars.length vc1, .slice fs1 x.flds.length fc1] 58)).alloc (.cells #[.bool y.none, .slice vs2 y.vars.length vc2, .slice fs2 y.flds.length fc2] 58)) := by go_grown
  have P0 := (PrAt.new w V F s c cap).call (w' := (((w.alloc (.cells #[.int .i64 V, .int .i64 F, .slice s c.length cap] 24)).alloc (.cells #[.bool x.none, .slice vs1 x.vars.length vc1, .slice fs1 x.flds.length fc1] 58)).alloc (.cells #[.bool y.none, .slice vs2 y.vars.length vc2, .slice fs2 y.flds.length fc2] 58))) (by go_grown)
  have X0 := (XAt.new (w.alloc (.cells #[.int .i64 V, .int .i64 F, .slice s c.length cap] 24)) x vs1 vc1 fs1 fc1).call (w' := (((w.alloc (.cells #[.int .i64 V, .int .i64 F, .slice s c.length cap] 24)).alloc (.cells #[.bool x.none, .slice vs1 x.vars.length vc1, .slice fs1 x.flds.length fc1] 58)).alloc (.cells #[.bool y.none, .slice vs2 y.vars.length vc2, .slice fs2 y.flds.length fc2] 58))) (by go_grown)
  have Y0 := XAt.new ((w.alloc (.cells #[.int .i64 V, .int .i64 F, .slice s c.length cap] 24)).alloc (.cells #[.bool x.none, .slice vs1 x.vars.length vc1, .slice fs1 x.flds.length fc1] 58)) y vs2 vc2 fs2 fc2
  rw [World.size_alloc] at X0
  rw [World.size_alloc, World.size_alloc] at Y0
  have C0 := hcd.below B0 (Nat.le_refl _)
  have PX := hx.below B0 (Nat.le_refl _)
  have PY := hy.below B0 (Nat.le_refl _)
  have HC := hideH (checkAllP_any V F s c cap (some ⟨(((w.alloc (.cells #[.int .i64 V, .int .i64 F, .slice s c.length cap] 24)).alloc (.cells #[.bool x.none, .slice vs1 x.vars.length vc1, .slice fs1 x.flds.length fc1] 58)).alloc (.cells #[.bool y.none, .slice vs2 y.vars.length vc2, .slice fs2 y.flds.length fc2] 58)).heap.size, 0, none⟩) [x, y] 2 ((((w.alloc (.cells #[.int .i64 V, .int .i64 F, .slice s c.length cap] 24)).alloc (.cells #[.bool x.none, .slice vs1 x.vars.length vc1, .slice fs1 x.flds.length fc1] 58)).alloc (.cells #[.bool y.none, .slice vs2 y.vars.length vc2, .slice fs2 y.flds.length fc2] 58)).alloc (.cells #[.bool x.none, .slice vs1 x.vars.length vc1, .slice fs1 x.flds.length fc1, .bool y.none, .slice vs2 y.vars.length vc2, .slice fs2 y.flds.length fc2] 58)) (C0.call (by go_grown)) (XsAt.new2 (((w.alloc (.cells #[.int .i64 V, .int .i64 F, .slice s c.length cap] 24)).alloc (.cells #[.bool x.none, .slice vs1 x.vars.length vc1, .slice fs1 x.flds.length fc1] 58)).alloc (.cells #[.bool y.none, .slice vs2 y.vars.length vc2, .slice fs2 y.flds.length fc2] 58)) x vs1 vc1 fs1 fc1 y vs2 vc2 fs2 fc2 PX h1 h2 PY h3 h4) (by simp))
  have hbz : Below (((w.alloc (.cells #[.int .i64 V, .int .i64 F, .slice s c.length cap] 24)).alloc (.cells #[.bool x.none, .slice vs1 x.vars.length vc1, .slice fs1 x.flds.length fc1] 58)).alloc (.cells #[.bool y.none, .slice vs2 y.vars.length vc2, .slice fs2 y.flds.length fc2] 58)).heap.size (((w.alloc (.cells #[.int .i64 V, .int .i64 F, .slice s c.length cap] 24)).alloc (.cells #[.bool x.none, .slice vs1 x.vars.length vc1, .slice fs1 x.flds.length fc1] 58)).alloc (.cells #[.bool y.none, .slice vs2 y.vars.length vc2, .slice fs2 y.flds.length fc2] 58)) ((((w.alloc (.cells #[.int .i64 V, .int .i64 F, .slice s c.length cap] 24)).alloc (.cells #[.bool x.none, .slice vs1 x.vars.length vc1, .slice fs1 x.flds.length fc1] 58)).alloc (.cells #[.bool y.none, .slice vs2 y.vars.length vc2, .slice fs2 y.flds.length fc2] 58)).alloc (.cells #[.bool x.none, .slice vs1 x.vars.length vc1, .slice fs1 x.flds.length fc1, .bool y.none, .slice vs2 y.vars.length vc2, .slice fs2 y.flds.length fc2] 58)) := by go_grown
  have e3 : (((w.alloc (.cells #[.int .i64 V, .int .i64 F, .slice s c.length cap] 24)).alloc (.cells #[.bool x.none, .slice vs1 x.vars.length vc1, .slice fs1 x.flds.length fc1] 58)).alloc (.cells #[.bool y.none, .slice vs2 y.vars.length vc2, .slice fs2 y.flds.length fc2] 58)).heap.size = w.heap.size + 1 + 1 + 1 := by simp
  have d1 : (ckPics V F c [x, y] != 0) = true := by simpa using h
  have HB : Hid (Below w.heap.size w ((((w.alloc (.cells #[.int .i64 V, .int .i64 F, .slice s c.length cap] 24)).alloc (.cells #[.bool x.none, .slice vs1 x.vars.length vc1, .slice fs1 x.flds.length fc1] 58)).alloc (.cells #[.bool y.none, .slice vs2 y.vars.length vc2, .slice fs2 y.flds.length fc2] 58)).alloc (.cells #[.bool x.none, .slice vs1 x.vars.length vc1, .slice fs1 x.flds.length fc1, .bool y.none, .slice vs2 y.vars.length vc2, .slice fs2 y.flds.length fc2] 58))) := B0.trans (hbz.mono B0.size)
  generalize ckPics V F c [x, y] = ce at *
  clear h hx hy hcd PX PY P0 X0 Y0 C0 hbz
  rw [e3] at HC
  clear e3
  go_enter Tryz.func25, Tryz.ntmps25
  go_wp2_with (go_at_call 70; fail)
  refine HC.out.mono ?_
  rintro e w1 ⟨rfl, hb1⟩
  go_wp2
  refine bodyPost_ret (v := .tuple #[.bool false, .int .i64 ce]) (by simp [results, Tryz.results25, go_sem]) rfl ⟨rfl, HB.out.trans (hb1.mono (by first | omega | exact HB.out.size))⟩

set_option maxHeartbeats 2000000 in
set_option maxRecDepth 10000 in
theorem withinP_none (V F : Int) (s : Option Addr) (c : List Ins) (cap : Nat) (x : Pic) (vs1 : Option Addr) (vc1 : Nat) (fs1 : Option Addr) (fc1 : Nat) (y : Pic) (vs2 : Option Addr) (vc2 : Nat) (fs2 : Option Addr) (fc2 : Nat) (w : World) (hcd : CodeAt w s c) (hx : PicAt w x vs1 fs1) (h1 : x.vars.length ≤ vc1 ∧ vc1 ≤ maxLen) (h2 : x.flds.length ≤ fc1 ∧ fc1 ≤ maxLen) (hy : PicAt w y vs2 fs2) (h3 : y.vars.length ≤ vc2 ∧ vc2 ≤ maxLen) (h4 : y.flds.length ≤ fc2 ∧ fc2 ≤ maxLen) (h : ckPics V F c [x, y] = 0) (hn : x.none = true ∨ y.none = true) :
    Calls Tryz.prog 25 #[pv V F s c cap, xv x vs1 vc1 fs1 fc1, xv y vs2 vc2 fs2 fc2] w fun e w' => e = .returned (.tuple #[.bool (inPic x y), .int .i64 0]) ∧ Below w.heap.size w w' := by
  have B0 : Below w.heap.size w (((w.alloc (.cells #[.int .i64 V, .int .i64 F, .slice s c.length cap] 24)).alloc (.cells #[.bool x.none, .slice vs1 x.vars.length vc1, .slice fs1 x.flds.length fc1] 58)).alloc (.cells #[.bool y.none, .slice vs2 y.vars.length vc2, .slice fs2 y.flds.length fc2] 58)) := by go_grown
  have P0 := (PrAt.new w V F s c cap).call (w' := (((w.alloc (.cells #[.int .i64 V, .int .i64 F, .slice s c.length cap] 24)).alloc (.cells #[.bool x.none, .slice vs1 x.vars.length vc1, .slice fs1 x.flds.length fc1] 58)).alloc (.cells #[.bool y.none, .slice vs2 y.vars.length vc2, .slice fs2 y.flds.length fc2] 58))) (by go_grown)
  have X0 := (XAt.new (w.alloc (.cells #[.int .i64 V, .int .i64 F, .slice s c.length cap] 24)) x vs1 vc1 fs1 fc1).call (w' := (((w.alloc (.cells #[.int .i64 V, .int .i64 F, .slice s c.length cap] 24)).alloc (.cells #[.bool x.none, .slice vs1 x.vars.length vc1, .slice fs1 x.flds.length fc1] 58)).alloc (.cells #[.bool y.none, .slice vs2 y.vars.length vc2, .slice fs2 y.flds.length fc2] 58))) (by go_grown)
  have Y0 := XAt.new ((w.alloc (.cells #[.int .i64 V, .int .i64 F, .slice s c.length cap] 24)).alloc (.cells #[.bool x.none, .slice vs1 x.vars.length vc1, .slice fs1 x.flds.length fc1] 58)) y vs2 vc2 fs2 fc2
  rw [World.size_alloc] at X0
  rw [World.size_alloc, World.size_alloc] at Y0
  have C0 := hcd.below B0 (Nat.le_refl _)
  have PX := hx.below B0 (Nat.le_refl _)
  have PY := hy.below B0 (Nat.le_refl _)
  have HC := hideH (checkAllP_any V F s c cap (some ⟨(((w.alloc (.cells #[.int .i64 V, .int .i64 F, .slice s c.length cap] 24)).alloc (.cells #[.bool x.none, .slice vs1 x.vars.length vc1, .slice fs1 x.flds.length fc1] 58)).alloc (.cells #[.bool y.none, .slice vs2 y.vars.length vc2, .slice fs2 y.flds.length fc2] 58)).heap.size, 0, none⟩) [x, y] 2 ((((w.alloc (.cells #[.int .i64 V, .int .i64 F, .slice s c.length cap] 24)).alloc (.cells #[.bool x.none, .slice vs1 x.vars.length vc1, .slice fs1 x.flds.length fc1] 58)).alloc (.cells #[.bool y.none, .slice vs2 y.vars.length vc2, .slice fs2 y.flds.length fc2] 58)).alloc (.cells #[.bool x.none, .slice vs1 x.vars.length vc1, .slice fs1 x.flds.length fc1, .bool y.none, .slice vs2 y.vars.length vc2, .slice fs2 y.flds.length fc2] 58)) (C0.call (by go_grown)) (XsAt.new2 (((w.alloc (.cells #[.int .i64 V, .int .i64 F, .slice s c.length cap] 24)).alloc (.cells #[.bool x.none, .slice vs1 x.vars.length vc1, .slice fs1 x.flds.length fc1] 58)).alloc (.cells #[.bool y.none, .slice vs2 y.vars.length vc2, .slice fs2 y.flds.length fc2] 58)) x vs1 vc1 fs1 fc1 y vs2 vc2 fs2 fc2 PX h1 h2 PY h3 h4) (by simp))
  have hbz : Below (((w.alloc (.cells #[.int .i64 V, .int .i64 F, .slice s c.length cap] 24)).alloc (.cells #[.bool x.none, .slice vs1 x.vars.length vc1, .slice fs1 x.flds.length fc1] 58)).alloc (.cells #[.bool y.none, .slice vs2 y.vars.length vc2, .slice fs2 y.flds.length fc2] 58)).heap.size (((w.alloc (.cells #[.int .i64 V, .int .i64 F, .slice s c.length cap] 24)).alloc (.cells #[.bool x.none, .slice vs1 x.vars.length vc1, .slice fs1 x.flds.length fc1] 58)).alloc (.cells #[.bool y.none, .slice vs2 y.vars.length vc2, .slice fs2 y.flds.length fc2] 58)) ((((w.alloc (.cells #[.int .i64 V, .int .i64 F, .slice s c.length cap] 24)).alloc (.cells #[.bool x.none, .slice vs1 x.vars.length vc1, .slice fs1 x.flds.length fc1] 58)).alloc (.cells #[.bool y.none, .slice vs2 y.vars.length vc2, .slice fs2 y.flds.length fc2] 58)).alloc (.cells #[.bool x.none, .slice vs1 x.vars.length vc1, .slice fs1 x.flds.length fc1, .bool y.none, .slice vs2 y.vars.length vc2, .slice fs2 y.flds.length fc2] 58)) := by go_grown
  have e3 : (((w.alloc (.cells #[.int .i64 V, .int .i64 F, .slice s c.length cap] 24)).alloc (.cells #[.bool x.none, .slice vs1 x.vars.length vc1, .slice fs1 x.flds.length fc1] 58)).alloc (.cells #[.bool y.none, .slice vs2 y.vars.length vc2, .slice fs2 y.flds.length fc2] 58)).heap.size = w.heap.size + 1 + 1 + 1 := by simp
  have HB := hideH hbz
  have er : inPic x y = x.none := by
    unfold inPic
    rcases hn with hn | hn
    · rw [hn]; rfl
    · rw [hn]; cases x.none <;> rfl
  rw [er]
  rw [h, e3] at HC
  clear er h hx hy hcd PX PY P0 C0 hbz e3
  go_enter Tryz.func25, Tryz.ntmps25
  go_wp2_with (go_at_call 70; fail)
  refine HC.out.mono ?_
  rintro e w1 ⟨rfl, hb1⟩
  have hb01 : Below (((w.alloc (.cells #[.int .i64 V, .int .i64 F, .slice s c.length cap] 24)).alloc (.cells #[.bool x.none, .slice vs1 x.vars.length vc1, .slice fs1 x.flds.length fc1] 58)).alloc (.cells #[.bool y.none, .slice vs2 y.vars.length vc2, .slice fs2 y.flds.length fc2] 58)).heap.size (((w.alloc (.cells #[.int .i64 V, .int .i64 F, .slice s c.length cap] 24)).alloc (.cells #[.bool x.none, .slice vs1 x.vars.length vc1, .slice fs1 x.flds.length fc1] 58)).alloc (.cells #[.bool y.none, .slice vs2 y.vars.length vc2, .slice fs2 y.flds.length fc2] 58)) w1 := HB.out.trans (hb1.mono (by first | exact HB.out.size | (simp; omega) | omega))
  obtain ⟨⟨a0, a1, a2⟩, az, -⟩ := id (X0.call hb01)
  obtain ⟨⟨b0, b1, b2⟩, bz, -⟩ := id (Y0.call hb01)
  have B1 := B0.trans (hb01.mono B0.size)
  clear X0 Y0 HB hb1 hb01 B0
  obtain ⟨xn, vx, fx⟩ := x
  obtain ⟨yn, vy, fy⟩ := y
  simp only at a0 a1 a2 b0 b1 b2 hn
  cases xn with
  | true =>
    go_wp2
    refine bodyPost_ret (v := .tuple #[.bool true, .int .i64 0]) (by simp [results, Tryz.results25, go_sem]) rfl ⟨rfl, B1⟩
  | false =>
    have hy : yn = true := by simpa using hn
    subst hy
    go_wp2
    refine bodyPost_ret (v := .tuple #[.bool false, .int .i64 0]) (by simp [results, Tryz.results25, go_sem]) rfl ⟨rfl, B1⟩
end Go.Proofs.YtmapdpcfanecdaaGreat
