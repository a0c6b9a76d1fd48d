/- Walks over package guess: two guesses that are put together. -/
import Derived.Test.YtmapdpcfanecdabGreatKstpxp11
import Derived.Test.YtmapdpcfanecdabGreatShelf
import Derived.Deep.AppendLies
import Derived.Laws.OwnMore
import Derived.Sort.OwnSortedInts
import Derived.Lib.RowBridge
import Derived.Test.YtmapdpcfanecdabGreatKstpxp07
import Derived.Deep.DrawnRows
import Derived.Deep.RegionHeld3
set_option linter.unusedSimpArgs false
set_option linter.unusedVariables false
namespace Go.Proofs.YtmapdpcfanecdabGreat
section
set_option maxHeartbeats 2000000
set_option maxRecDepth 10000
open Go.RowKit Go.Sort

theorem run_append_none {P : Program} (w : World) (base : Nat) (t ty e : TypeId) (i : TypeInfo) (size : Nat) (ht : P.underlying t = some (.slice e)) (hi : P.info? e = some i)
  (v : Value) (n c : Nat) (xs : List Value) (hown : w.ownsRow base e size v n xs) :
  (Builtin.append_ #[t, t] ty #[v, .slice none 0 c]).run P w = .ok v w := by
 rcases hown.2 with ⟨rfl, rfl⟩ | ⟨g, cap, cur, rfl, _, _, hnc, _⟩
 ·simp [Builtin.append_, run_underlying ht, sizeOf, typeInfo, hi, Builtin.lenOf, Builtin.firstCells]
 ·simp [Builtin.append_, run_underlying ht, sizeOf, typeInfo, hi, Builtin.lenOf, Builtin.firstCells, hnc, storeCells]

theorem wpList_append_none {P : Program} (w : World) {ops : Array Oper} {rest : List Oper} {o : Oper} {a : Act} {Q : Exit → Act → World → Prop} (hgd : o.guard = none) (s x : Operand) (t : TypeId)
  (ho : o.op = .call { callee := .builtin .append, args := #[s, x], argTypes := #[t, t] })
  (base : Nat) (e : TypeId) (i : TypeInfo) (size : Nat) (ht : P.underlying t = some (.slice e)) (hi : P.info? e = some i)
  (v : Value) (n c : Nat) (xs : List Value) (hs : a.eval s = v) (hown : w.ownsRow base e size v n xs) (hx : a.eval x = .slice none 0 c)
  (h : wpList P ops Q rest (a.put o.dst v) w) : wpList P ops Q (o :: rest) a w := by
 refine wpList_plain hgd fun K hK => ?_
 have hr := run_append_none (P := P) w base t o.type e i size ht hi v n c xs hown
 unfold Oper.wp execOp
 simp only [ho, resolve, invoke, builtin, Sem.run_bind, Sem.run_pure, Result.andThen_ok, List.map_toArray, List.map_cons, List.map_nil, hs, hx, hr]
 exact hK _ _ h

theorem grow_none (w : World) : grow w #[] = w := by simp [grow]

theorem ownsRow_short {w : World} {B g cap n m : Nat} {e : TypeId} {xs : List Value} (h : w.ownsRow B e 1 (.slice (some ⟨g, 0, none⟩) n cap) n xs) (hm : m ≤ n) : w.ownsRow B e 1 (.slice (some ⟨g, 0, none⟩) m cap) m (xs.take m) := by
 obtain ⟨hl, h2⟩ := h
 rcases h2 with ⟨h', _⟩ | ⟨g', cap', cur, h', hb, hg, h1, h2, h3, h4⟩
 ·cases h'
 ·cases h'
  refine ⟨by rw [List.length_take]; omega, .inr ⟨g, cap, cur, rfl, hb, hg, by omega, h2, h3, ?_⟩⟩
  rw [← h4, List.take_take]
  congr 1
  omega

/-- What a row holds is a list of integers. -/
theorem IntsAt.own {w : World} {B n : Nat} {e : TypeId} {v : Value} {l : List Int} (h : w.ownsRow B e 1 v n (l.map (.int .i64))) :
  ∃ ss cap, v = .slice ss l.length cap ∧ IntsAt w ss l ∧ l.length ≤ cap ∧ cap ≤ maxLen ∧ ∀ a, ss = some a → B ≤ a.block := by
 have hn : l.length = n := by have := h.1; simpa using this
 subst hn
 rcases h.2 with ⟨rfl, h0⟩ | ⟨g, cap, cur, rfl, hb, hg, h1, h2, h3, h4⟩
 ·have : l = [] := List.length_eq_zero_iff.1 h0
  subst this
  exact ⟨none, 0, rfl, .inl rfl, Nat.le_refl _, by unfold maxLen; omega, fun a ha => by cases ha⟩
 ·refine ⟨some ⟨g, 0, none⟩, cap, rfl, .inr ⟨g, 0, rfl, (Array.getElem?_eq_some_iff.1 hg).1, fun k hk => ?_⟩, h1, h2, fun a ha => by cases ha; exact hb⟩
  have := h.cellAt k (by omega)
  rw [Nat.zero_add, this]
  simp [hk]

/-- All sites of guesses, rising. -/
def sitesOf (L : List Gs) : List Int := Lib.compact ((L.flatMap Gs.s).mergeSort fun x y => decide (x ≤ y))

theorem cat_succ (L : List Gs) (k : Nat) (h : k < L.length) : (L.take (k + 1)).flatMap Gs.s = (L.take k).flatMap Gs.s ++ L[k].s := by
 rw [List.take_succ_eq_append_getElem h, List.flatMap_append]
 simp
theorem cat_le (L : List Gs) (k : Nat) : ((L.take k).flatMap Gs.s).length ≤ (L.flatMap Gs.s).length := by
 conv => rhs; rw [← List.take_append_drop k L]
 rw [List.flatMap_append, List.length_append]
 omega

theorem Tryz.info_intG : (Tryz.prog.info? 3).map (fun i => (i.zero, i.size, i.bytes)) = some (some (.int .i64 0), 1, 8) := by kernel_rfl
theorem ownsRow_lowG {w : World} {B : Nat} {e : TypeId} {z : Nat} {v : Value} {n : Nat} {xs : List Value} (h : w.ownsRow B e z v n xs) {k : Nat} (hk : v.ownBlock = some k) : B ≤ k := by
 rcases h.2 with ⟨rfl, _⟩ | ⟨g, cap, cur, rfl, hb, hg, _⟩
 ·cases hk
 ·cases hk
  exact hb

theorem allSites_any (ls : Option Addr) (L : List Gs) (lc : Nat) (w : World) (hL : GsAt w ls L) (hl : L.length ≤ 1000000) (hT : (L.flatMap Gs.s).length ≤ 1000000) :
  Calls Tryz.prog 136 #[.slice ls L.length lc] w fun e w' => ∃ v, e = .returned v ∧ w'.ownsRow w.heap.size 3 1 v (sitesOf L).length ((sitesOf L).map (.int .i64)) ∧ Below w.heap.size w w' := by
 obtain ⟨ti, hi, hz0, hz1, hz2⟩ := info_parts Tryz.info_intG
 go_enter Tryz.func136, Tryz.ntmps136
 go_wp2
 go_loopw [3, 8] (fun o i wr => ∃ k : Nat, k ≤ L.length ∧ i = .int .i64 k ∧ wr.ownsRow w.heap.size 3 1 o ((L.take k).flatMap Gs.s).length (((L.take k).flatMap Gs.s).map (.int .i64)) ∧ Below w.heap.size w wr) (fun _ i _ => L.length - (intOf i).toNat)
 case atStart => exact ⟨0, Nat.zero_le _, rfl, ⟨by simp, .inl ⟨rfl, by simp⟩⟩, Below.refl _ _⟩
 case round =>
  obtain ⟨k, hk, rfl, hown, hbr⟩ := hrel
  have s1 := hbr.size
  by_cases hlt : k < L.length
  ·obtain ⟨b, off, rfl, ss, gc, GR, IR, hg1, hg2⟩ := hL.below hbr (Nat.le_refl _) k hlt
   obtain ⟨⟨g0, g1, g2, g3, g4, g5, g6⟩, gz⟩ := id GR
   have n0 : (0 : Int) ≤ (k : Int) := by omega
   have n1 : (k : Int) < (L.length : Int) := by omega
   have HC := hideH (cat_succ L k hlt)
   have c1 := cat_le L (k + 1)
   rw [HC.out, List.length_append] at c1
   have IA := IR.alloc (.cells #[.bool L[k].n, .bool L[k].sp.n, .int .i64 L[k].sp.lo, .int .i64 L[k].sp.hi, .bool L[k].t, .bool L[k].f, .slice ss L[k].s.length gc] 61)
   have OA := hown.alloc (.cells #[.bool L[k].n, .bool L[k].sp.n, .int .i64 L[k].sp.lo, .int .i64 L[k].sp.hi, .bool L[k].t, .bool L[k].f, .slice ss L[k].s.length gc] 61)
   have BA := hbr.alloc s1 (.cells #[.bool L[k].n, .bool L[k].sp.n, .int .i64 L[k].sp.lo, .int .i64 L[k].sp.hi, .bool L[k].t, .bool L[k].f, .slice ss L[k].s.length gc] 61)
   cases ss with
   | none =>
    have h0 : L[k].s = [] := by
     rcases IR with h | ⟨_, _, h, _⟩
     ·exact h
     ·cases h
    have HC' : Hid ((L.take (k + 1)).flatMap Gs.s = (L.take k).flatMap Gs.s) := by show _ = _; rw [HC.out, h0, List.append_nil]
    rw [h0] at OA BA g6
    clear IA HC c1
    go_wp2_with (at_builtin; refine wpList_append_none _ rfl _ _ 59 rfl w.heap.size 3 ti 1 Tryz.underlying59 hi _ _ gc _ rfl OA rfl ?_)
    go_roundw
    case rel => exact ⟨k + 1, by omega, by go_num, by rw [HC'.out]; exact OA, BA⟩
    case measure => simp [intOf]; omega
   | some ad =>
    have hnews : ∀ j u, (L[k].s.map (Value.int .i64))[j]? = some u → (wr.alloc (.cells #[.bool L[k].n, .bool L[k].sp.n, .int .i64 L[k].sp.lo, .int .i64 L[k].sp.hi, .bool L[k].t, .bool L[k].f, .slice (some ad) L[k].s.length gc] 61)).cell? (ad.add j) = some u := by
     intro j u hju
     have hj : j < L[k].s.length := by
      have := (List.getElem?_eq_some_iff.1 hju).1
      simpa using this
     obtain ⟨b', off', e', hb', hc'⟩ := IA.get j hj
     cases e'
     have := hc' j hj
     rw [List.getElem?_map, List.getElem?_eq_getElem hj] at hju
     cases hju
     rw [← this, Addr.add_lit]
    clear IA
    go_wp2_with (at_builtin; refine wpList_append_own _ rfl _ _ 59 rfl w.heap.size 3 ti (.int .i64 0) 1 8 Tryz.underlying59 hi hz0 hz1 hz2 rfl (by decide) _ _ _ rfl OA ad L[k].s.length gc (L[k].s.map (.int .i64)) rfl (by simp) hnews (fun x hx => by obtain ⟨y, _, rfl⟩ := List.mem_map.1 hx; rfl) (by unfold maxLen; omega) (by omega) (by simp; omega) ?_; intro v' w3 hown' hgrow3 hnil3)
    go_roundw
    case rel => exact ⟨k + 1, by omega, by go_num, by rw [HC.out, List.map_append, List.length_append]; exact hown', BA.grown hgrow3 (by simp; omega) (fun j hj => ownsRow_lowG hown hj)⟩
    case measure => simp [intOf]; omega
  ·have hk' : k = L.length := by omega
   subst hk'
   rw [List.take_length] at hown
   have HS : Hid (sitesOf L = Lib.compact ((L.flatMap Gs.s).mergeSort fun x y => decide (x ≤ y))) := rfl
   generalize hzs : L.flatMap Gs.s = zs at *
   have HZ := hideH hzs
   clear hzs hL
   rcases hown.2 with ⟨rfl, h0⟩ | ⟨g, cap, cur, rfl, hbg, hg, h1, h2, h3, h4⟩
   ·have hnil : zs = [] := List.length_eq_zero_iff.1 h0
    have HE : Hid (sitesOf L = []) := by show _ = _; rw [HS.out, hnil]; simp [Lib.compact, Lib.compactUpTo]
    clear HS HZ hnil h0
    go_wp2_with (go_at_call 159; fail)
    refine (Tryz.slices_Sort_int_none _ _ _).mono ?_
    rintro e w1 ⟨rfl, rfl⟩
    go_wp2_with (go_at_call 160; fail)
    refine (Tryz.slices_Compact_int_empty _ _ _).mono ?_
    rintro e w1 ⟨rfl, rfl⟩
    go_wp2
    go_ret
    exact ⟨_, rfl, by rw [HE.out]; exact ⟨rfl, .inl ⟨rfl, rfl⟩⟩, hbr⟩
   ·have hgl : g < wr.heap.size := (Array.getElem?_eq_some_iff.1 hg).1
    rw [Nat.mul_one] at h4
    go_wp2_with (go_at_call 159; fail)
    refine (Tryz.slices_Sort_int g 0 cap zs _ (holds_of_blockI hg h4) hgl (by omega)).mono ?_
    rintro e w1 ⟨rfl, n, os, hw1⟩
    have hml : (zs.mergeSort fun x y => decide (x ≤ y)).length = zs.length := List.length_mergeSort _
    have O1 : w1.ownsRow w.heap.size 3 1 (.slice (some ⟨g, 0, none⟩) zs.length cap) zs.length ((zs.mergeSort fun x y => decide (x ≤ y)).map (.int .i64)) := by
     rw [hw1]; exact ownsRow_sortedI hml hbg hg h1 h2 h3
    have B1 : Below w.heap.size w w1 := by
     rw [hw1]; exact hbr.grown (grownBy_sortedI _) s1 (fun j hj => by cases hj; exact hbg)
    clear hw1
    generalize hys : (zs.mergeSort fun x y => decide (x ≤ y)) = ys at *
    have HE : Hid (sitesOf L = Lib.compact ys) := HS.out
    have hyl : ys.length = zs.length := hml
    clear hys hml HS hown h4 h3 hg hbr
    rcases O1.2 with ⟨h', _⟩ | ⟨g', cap', cur', h', -, hg', h1', h2', h3', h4'⟩
    ·cases h'
    ·cases h'
     rw [Nat.mul_one, ← hyl] at h4'
     have hcl := Lib.compact_length_le ys
     go_wp2_with (go_at_call 160; fail)
     rw [← hyl]
     refine (Tryz.slices_Compact_int g 0 cap ys _ (holds_of_blockI hg' h4') (by omega) (by omega)).mono ?_
     rintro e w2 ⟨rfl, q, hw2⟩
     rw [← grow_none (putRow _ _ _ _ _)] at hw2
     have htl : (Lib.compact ys ++ List.replicate (ys.length - (Lib.compact ys).length) (0 : Int)).length = ys.length := by rw [List.length_append, List.length_replicate]; omega
     have O2 := ownsRow_sortedI (w := w1) (n := q) (os := #[]) (ss := ys) htl hbg hg' (by omega) h2' h3'
     rw [← hw2] at O2
     have B2 : Below w.heap.size w w2 := by
      rw [hw2]; exact B1.grown (grownBy_sortedI _) B1.size (fun j hj => by cases hj; exact hbg)
     have O3 := ownsRow_short O2 hcl
     rw [← List.map_take, List.take_left] at O3
     clear hw2 O2 O1 B1 htl hg' h4'
     go_wp2
     go_ret
     exact ⟨_, rfl, by rw [HE.out]; exact O3, B2⟩
end
section
open Go.RowKit

/-- The boxes of together: program, two guesses, the answer. -/
abbrev togW (w : World) (V F : Int) (s : Option Addr) (c : List Ins) (cap : Nat) (g : Gs) (ss : Option Addr) (gc : Nat) (h : Gs) (st : Option Addr) (hc : Nat) : World :=
 (((w.alloc (.cells #[.int .i64 V, .int .i64 F, .slice s c.length cap] 24)).alloc (.cells #[.bool g.n, .bool g.sp.n, .int .i64 g.sp.lo, .int .i64 g.sp.hi, .bool g.t, .bool g.f, .slice ss g.s.length gc] 61)).alloc (.cells #[.bool h.n, .bool h.sp.n, .int .i64 h.sp.lo, .int .i64 h.sp.hi, .bool h.t, .bool h.f, .slice st h.s.length hc] 61)).alloc (.cells #[.bool false, .bool false, .int .i64 0, .int .i64 0, .bool false, .bool false, .slice none 0 0] 61)

/-- Its result's block may be written. -/
def Fr7 (w : World) (b : Nat) : Prop := (∀ j, w.frozen? ⟨b, j, none⟩ = false) ∧ b < w.heap.size
theorem Fr7.call {w w' : World} {b : Nat} (h : Fr7 w b) (hb : Below w.heap.size w w') : Fr7 w' b :=
 ⟨fun j => by rw [hb.frozen (by simpa using h.2)]; exact h.1 j, Nat.lt_of_lt_of_le h.2 hb.size⟩

theorem Fr7.drew {w : World} {b : Nat} (h : Fr7 w b) : Fr7 w.drew b := h.call (Below.refl _ _).drew
theorem Fr7.alloc {w : World} {b : Nat} (h : Fr7 w b) (o : Obj) : Fr7 (w.alloc o) b := h.call (Below.alloc (Below.refl _ _) (Nat.le_refl _) o)

theorem ckAllG_spans {V F : Int} {c : List Ins} {g h : Gs} (hk : ckAllG V F c [g, h] = 0) : ckSps g.sp h.sp = 0 := by
 unfold ckAllG at hk
 split at hk
 ·have e : ckGss c [g, h] = if ckGs c g = 0 then (if ckGs c h = 0 then 0 else ckGs c h) else ckGs c g := rfl
  have sp0 : ∀ x, ckGs c x = 0 → ckSp x.sp = 0 := fun x hx => by
   unfold ckGs at hx
   split at hx
   ·assumption
   ·rename_i hn; exact Decidable.not_not.1 hn
  rw [e] at hk
  by_cases hg : ckGs c g = 0
  ·rw [if_pos hg] at hk
   by_cases hh : ckGs c h = 0
   ·exact ckSps_ok.2 ⟨ckSp_ok.1 (sp0 g hg), ckSp_ok.1 (sp0 h hh)⟩
   ·rw [if_neg hh] at hk; exact absurd hk hh
  ·rw [if_neg hg] at hk; exact absurd hk hg
 ·rename_i hn; exact absurd hk hn

theorem togW_at (w : World) (V F : Int) (s : Option Addr) (c : List Ins) (cap : Nat) (g : Gs) (ss : Option Addr) (gc : Nat) (h : Gs) (st : Option Addr) (hc : Nat) :
  PrAt (togW w V F s c cap g ss gc h st hc) w.heap.size V F s c cap ∧ GuAt (togW w V F s c cap g ss gc h st hc) (w.heap.size + 1) 0 g ss gc ∧ GuAt (togW w V F s c cap g ss gc h st hc) (w.heap.size + 1 + 1) 0 h st hc ∧ GuAt (togW w V F s c cap g ss gc h st hc) (w.heap.size + 1 + 1 + 1) 0 zeroG none 0 ∧ Fr7 (togW w V F s c cap g ss gc h st hc) (w.heap.size + 1 + 1 + 1) := by
 refine ⟨?_, ?_, ?_, ?_, ?_⟩
 ·exact (((PrAt.new w V F s c cap).alloc _).alloc _).alloc _
 ·have := GuAt.new (w.alloc (.cells #[.int .i64 V, .int .i64 F, .slice s c.length cap] 24)) g ss gc
  rw [World.size_alloc] at this
  exact (this.alloc _).alloc _
 ·have := GuAt.new ((w.alloc (.cells #[.int .i64 V, .int .i64 F, .slice s c.length cap] 24)).alloc (.cells #[.bool g.n, .bool g.sp.n, .int .i64 g.sp.lo, .int .i64 g.sp.hi, .bool g.t, .bool g.f, .slice ss g.s.length gc] 61)) h st hc
  simp only [World.size_alloc] at this
  exact this.alloc _
 ·have := GuAt.new (((w.alloc (.cells #[.int .i64 V, .int .i64 F, .slice s c.length cap] 24)).alloc (.cells #[.bool g.n, .bool g.sp.n, .int .i64 g.sp.lo, .int .i64 g.sp.hi, .bool g.t, .bool g.f, .slice ss g.s.length gc] 61)).alloc (.cells #[.bool h.n, .bool h.sp.n, .int .i64 h.sp.lo, .int .i64 h.sp.hi, .bool h.t, .bool h.f, .slice st h.s.length hc] 61)) zeroG none 0
  simp only [World.size_alloc] at this
  exact this
 ·refine ⟨fun j => ?_, by simp⟩
  simp [go_sem]

theorem togW_below (w : World) (V F : Int) (s : Option Addr) (c : List Ins) (cap : Nat) (g : Gs) (ss : Option Addr) (gc : Nat) (h : Gs) (st : Option Addr) (hc : Nat) : Below w.heap.size w (togW w V F s c cap g ss gc h st hc) := by go_grown

/-- What the region reads. -/
def regS (w : World) (jb : Nat) (g : Gs) (ss : Option Addr) (gc : Nat) (h : Gs) (st : Option Addr) (hc : Nat) (J : Sp) (w' : World) : Prop :=
 (w'.cell? ⟨w.heap.size + 1, 0, none⟩ = some (.bool g.n) ∧ w'.cell? ⟨w.heap.size + 1, 1, none⟩ = some (.bool g.sp.n) ∧ w'.cell? ⟨w.heap.size + 1, 2, none⟩ = some (.int .i64 g.sp.lo) ∧ w'.cell? ⟨w.heap.size + 1, 3, none⟩ = some (.int .i64 g.sp.hi) ∧ w'.cell? ⟨w.heap.size + 1, 4, none⟩ = some (.bool g.t) ∧ w'.cell? ⟨w.heap.size + 1, 5, none⟩ = some (.bool g.f) ∧ w'.cell? ⟨w.heap.size + 1, 6, none⟩ = some (.slice ss g.s.length gc)) ∧
 (w'.cell? ⟨w.heap.size + 1 + 1, 0, none⟩ = some (.bool h.n) ∧ w'.cell? ⟨w.heap.size + 1 + 1, 1, none⟩ = some (.bool h.sp.n) ∧ w'.cell? ⟨w.heap.size + 1 + 1, 2, none⟩ = some (.int .i64 h.sp.lo) ∧ w'.cell? ⟨w.heap.size + 1 + 1, 3, none⟩ = some (.int .i64 h.sp.hi) ∧ w'.cell? ⟨w.heap.size + 1 + 1, 4, none⟩ = some (.bool h.t) ∧ w'.cell? ⟨w.heap.size + 1 + 1, 5, none⟩ = some (.bool h.f) ∧ w'.cell? ⟨w.heap.size + 1 + 1, 6, none⟩ = some (.slice st h.s.length hc)) ∧
 (w'.cell? ⟨jb, 0, none⟩ = some (.bool J.n) ∧ w'.cell? ⟨jb, 1, none⟩ = some (.int .i64 J.lo) ∧ w'.cell? ⟨jb, 2, none⟩ = some (.int .i64 J.hi))


/-- A guess is stored. -/
abbrev put7 (w : World) (b : Nat) (v0 v1 v2 v3 v4 v5 v6 : Value) : World := ((((((w.setCell ⟨b, 0, none⟩ v0).setCell ⟨b, 1, none⟩ v1).setCell ⟨b, 2, none⟩ v2).setCell ⟨b, 3, none⟩ v3).setCell ⟨b, 4, none⟩ v4).setCell ⟨b, 5, none⟩ v5).setCell ⟨b, 6, none⟩ v6
theorem heap_put7 (w : World) (b k : Nat) (v0 v1 v2 v3 v4 v5 v6 : Value) (h : k ≠ b) : (put7 w b v0 v1 v2 v3 v4 v5 v6).heap[k]? = w.heap[k]? := by
 unfold put7
 rw [Below.heap_setCell _ _ _ _ h, Below.heap_setCell _ _ _ _ h, Below.heap_setCell _ _ _ _ h, Below.heap_setCell _ _ _ _ h, Below.heap_setCell _ _ _ _ h, Below.heap_setCell _ _ _ _ h, Below.heap_setCell _ _ _ _ h]
theorem size_put7 (w : World) (b : Nat) (v0 v1 v2 v3 v4 v5 v6 : Value) : (put7 w b v0 v1 v2 v3 v4 v5 v6).heap.size = w.heap.size := by simp [put7]
theorem cell_put7 (w : World) (b k j : Nat) (v0 v1 v2 v3 v4 v5 v6 : Value) (h : k ≠ b) : (put7 w b v0 v1 v2 v3 v4 v5 v6).cell? ⟨k, j, none⟩ = w.cell? ⟨k, j, none⟩ := World.cell?_of_block (a := ⟨k, j, none⟩) (heap_put7 w b k v0 v1 v2 v3 v4 v5 v6 h)
theorem GuAt.put7 {w : World} {b k o : Nat} {g : Gs} {ss : Option Addr} {cap : Nat} {v0 v1 v2 v3 v4 v5 v6 : Value} (hg : GuAt w k o g ss cap) (h : k ≠ b) : GuAt (put7 w b v0 v1 v2 v3 v4 v5 v6) k o g ss cap := by
 obtain ⟨⟨h0, h1, h2, h3, h4, h5, h6⟩, hz⟩ := hg
 refine ⟨⟨?_, ?_, ?_, ?_, ?_, ?_, ?_⟩, by rw [size_put7]; exact hz⟩ <;> rw [cell_put7 _ _ _ _ _ _ _ _ _ _ _ h] <;> assumption
theorem SpAt.put7 {w : World} {b k : Nat} {s : Sp} {v0 v1 v2 v3 v4 v5 v6 : Value} (hg : SpAt w k s) (h : k ≠ b) : SpAt (put7 w b v0 v1 v2 v3 v4 v5 v6) k s := by
 obtain ⟨⟨h0, h1, h2⟩, hz⟩ := hg
 refine ⟨⟨?_, ?_, ?_⟩, by rw [size_put7]; exact hz⟩ <;> rw [cell_put7 _ _ _ _ _ _ _ _ _ _ _ h] <;> assumption
theorem below_put7 {B b : Nat} {a w : World} {v0 v1 v2 v3 v4 v5 v6 : Value} (h : Below B a w) (hg : B ≤ b) : Below B a (put7 w b v0 v1 v2 v3 v4 v5 v6) := ((((((h.setCell (by simpa using hg) _).setCell (by simpa using hg) _).setCell (by simpa using hg) _).setCell (by simpa using hg) _).setCell (by simpa using hg) _).setCell (by simpa using hg) _).setCell (by simpa using hg) _
theorem ownsRow_base {w : World} {B B' n z : Nat} {e : TypeId} {v : Value} {xs : List Value} (h : w.ownsRow B e z v n xs) (hB : B' ≤ B) : w.ownsRow B' e z v n xs :=
 ⟨h.1, h.2.imp id fun ⟨g, cap, cur, r1, r2, r3⟩ => ⟨g, cap, cur, r1, by omega, r3⟩⟩
theorem ownsRow_put7 {w : World} {B n b z : Nat} {e : TypeId} {v : Value} {xs : List Value} {v0 v1 v2 v3 v4 v5 v6 : Value} (h : w.ownsRow B e z v n xs) (hb : b < B) : (put7 w b v0 v1 v2 v3 v4 v5 v6).ownsRow B e z v n xs :=
 ⟨h.1, h.2.imp id fun ⟨g, cap, cur, r1, r2, r3, r4⟩ => ⟨g, cap, cur, r1, r2, by rw [heap_put7 _ _ _ _ _ _ _ _ _ _ (by omega)]; exact r3, r4⟩⟩
theorem GsAt.drew {w : World} {ls : Option Addr} {L : List Gs} (h : GsAt w ls L) : GsAt w.drew ls L := h.call ((Below.refl _ _).drew)
end
end Go.Proofs.YtmapdpcfanecdabGreat
