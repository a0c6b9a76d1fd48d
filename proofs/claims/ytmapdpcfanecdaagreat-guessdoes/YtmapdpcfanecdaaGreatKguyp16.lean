/- Walks over package span: what is widened, what is put together. -/
import Derived.Test.YtmapdpcfanecdaaGreatKguyp14
import Derived.Test.YtmapdpcfanecdaaGreatShelf
import Derived.Deep.AppendLies
import Derived.Laws.OwnMore
import Derived.Sort.OwnSortedInts
import Derived.Lib.RowBridge
import Derived.Test.YtmapdpcfanecdaaGreatKguyp03
namespace Go.Proofs.YtmapdpcfanecdaaGreat
set_option linter.unusedVariables false
set_option linter.unusedSimpArgs false
open Go.RowKit Go.Sort

theorem run_append_none {P : Program} (w : World) (base : Nat) (t ty e : TypeId) (i : TypeInfo) (size : Nat) (ht : P.underlying t = some (.slice e)) (hi : P.info? e = some i)
    (v : Value) (n c : Nat) (xs : List Value) (hown : w.ownsRow base e size v n xs) :
    (Builtin.append_ #[t, t] ty #[v, .slice none 0 c]).run P w = .ok v w := by
  rcases hown.2 with ⟨rfl, rfl⟩ | ⟨g, cap, cur, rfl, _, _, hnc, _⟩
  · simp [Builtin.append_, run_underlying ht, sizeOf, typeInfo, hi, Builtin.lenOf, Builtin.firstCells]
  · simp [Builtin.append_, run_underlying ht, sizeOf, typeInfo, hi, Builtin.lenOf, Builtin.firstCells, hnc, storeCells]

theorem wpList_append_none {P : Program} (w : World) {ops : Array Oper} {rest : List Oper} {o : Oper} {a : Act} {Q : Exit → Act → World → Prop} (hgd : o.guard = none) (s x : Operand) (t : TypeId)
    (ho : o.op = .call { callee := .builtin .append, args := #[s, x], argTypes := #[t, t] })
    (base : Nat) (e : TypeId) (i : TypeInfo) (size : Nat) (ht : P.underlying t = some (.slice e)) (hi : P.info? e = some i)
    (v : Value) (n c : Nat) (xs : List Value) (hs : a.eval s = v) (hown : w.ownsRow base e size v n xs) (hx : a.eval x = .slice none 0 c)
    (h : wpList P ops Q rest (a.put o.dst v) w) : wpList P ops Q (o :: rest) a w := by
  refine wpList_plain hgd fun K hK => ?_
  have hr := run_append_none (P := P) w base t o.type e i size ht hi v n c xs hown
  unfold Oper.wp execOp
  simp only [ho, resolve, invoke, builtin, Sem.run_bind, Sem.run_pure, Result.andThen_ok, List.map_toArray, List.map_cons, List.map_nil, hs, hx, hr]
  exact hK _ _ h

theorem grow_none (w : World) : grow w #[] = w := by simp [grow]

theorem ownsRow_short {w : World} {B g cap n m : Nat} {e : TypeId} {xs : List Value} (h : w.ownsRow B e 1 (.slice (some ⟨g, 0, none⟩) n cap) n xs) (hm : m ≤ n) : w.ownsRow B e 1 (.slice (some ⟨g, 0, none⟩) m cap) m (xs.take m) := by
  obtain ⟨hl, h2⟩ := h
  rcases h2 with ⟨h', _⟩ | ⟨g', cap', cur, h', hb, hg, h1, h2, h3, h4⟩
  · cases h'
  · cases h'
    refine ⟨by rw [List.length_take]; omega, .inr ⟨g, cap, cur, rfl, hb, hg, by omega, h2, h3, ?_⟩⟩
    rw [← h4, List.take_take]
    congr 1
    omega

/-- What a row holds is a list of integers. -/
theorem IntsAt.own {w : World} {B n : Nat} {e : TypeId} {v : Value} {l : List Int} (h : w.ownsRow B e 1 v n (l.map (.int .i64))) :
    ∃ ss cap, v = .slice ss l.length cap ∧ IntsAt w ss l ∧ l.length ≤ cap ∧ cap ≤ maxLen ∧ ∀ a, ss = some a → B ≤ a.block := by
  have hn : l.length = n := by have := h.1; simpa using this
  subst hn
  rcases h.2 with ⟨rfl, h0⟩ | ⟨g, cap, cur, rfl, hb, hg, h1, h2, h3, h4⟩
  · have : l = [] := List.length_eq_zero_iff.1 h0
    subst this
    exact ⟨none, 0, rfl, .inl rfl, Nat.le_refl _, by unfold maxLen; omega, fun a ha => by cases ha⟩
  · refine ⟨some ⟨g, 0, none⟩, cap, rfl, .inr ⟨g, 0, rfl, (Array.getElem?_eq_some_iff.1 hg).1, fun k hk => ?_⟩, h1, h2, fun a ha => by cases ha; exact hb⟩
    have := h.cellAt k (by omega)
    rw [Nat.zero_add, this]
    simp [hk]

/-- All sites of guesses, rising. -/
def sitesOf (L : List Gs) : List Int := Lib.compact ((L.flatMap Gs.s).mergeSort fun x y => decide (x ≤ y))

theorem cat_succ (L : List Gs) (k : Nat) (h : k < L.length) : (L.take (k + 1)).flatMap Gs.s = (L.take k).flatMap Gs.s ++ L[k].s := by
  rw [List.take_succ_eq_append_getElem h, List.flatMap_append]
  simp
theorem cat_le (L : List Gs) (k : Nat) : ((L.take k).flatMap Gs.s).length ≤ (L.flatMap Gs.s).length := by
  conv => rhs; rw [← List.take_append_drop k L]
  rw [List.flatMap_append, List.length_append]
  omega

theorem Tryz.info_intG : (Tryz.prog.info? 3).map (fun i => (i.zero, i.size, i.bytes)) = some (some (.int .i64 0), 1, 8) := by kernel_rfl
theorem ownsRow_lowG {w : World} {B : Nat} {e : TypeId} {z : Nat} {v : Value} {n : Nat} {xs : List Value} (h : w.ownsRow B e z v n xs) {k : Nat} (hk : v.ownBlock = some k) : B ≤ k := by
  rcases h.2 with ⟨rfl, _⟩ | ⟨g, cap, cur, rfl, hb, hg, _⟩
  · cases hk
  · cases hk
    exact hb

set_option maxHeartbeats 2000000 in
set_option maxRecDepth 10000 in
theorem allSites_any (ls : Option Addr) (L : List Gs) (lc : Nat) (w : World) (hL : GsAt w ls L) (hl : L.length ≤ 1000000) (hT : (L.flatMap Gs.s).length ≤ 1000000) :
    Calls Tryz.prog 83 #[.slice ls L.length lc] w fun e w' => ∃ v, e = .returned v ∧ w'.ownsRow w.heap.size 3 1 v (sitesOf L).length ((sitesOf L).map (.int .i64)) ∧ Below w.heap.size w w' := by
  obtain ⟨ti, hi, hz0, hz1, hz2⟩ := info_parts Tryz.info_intG
  go_enter Tryz.func83, Tryz.ntmps83
  go_wp2
  go_loopw [3, 8] (fun o i wr => ∃ k : Nat, k ≤ L.length ∧ i = .int .i64 k ∧ wr.ownsRow w.heap.size 3 1 o ((L.take k).flatMap Gs.s).length (((L.take k).flatMap Gs.s).map (.int .i64)) ∧ Below w.heap.size w wr) (fun _ i _ => L.length - (intOf i).toNat)
  case atStart => exact ⟨0, Nat.zero_le _, rfl, ⟨by simp, .inl ⟨rfl, by simp⟩⟩, Below.refl _ _⟩
  case round =>
    obtain ⟨k, hk, rfl, hown, hbr⟩ := hrel
    have s1 := hbr.size
    by_cases hlt : k < L.length
    · obtain ⟨b, off, rfl, ss, gc, GR, IR, hg1, hg2⟩ := hL.below hbr (Nat.le_refl _) k hlt
      obtain ⟨⟨g0, g1, g2, g3, g4, g5, g6⟩, gz⟩ := id GR
      have n0 : (0 : Int) ≤ (k : Int) := by omega
      have n1 : (k : Int) < (L.length : Int) := by omega
      have HC := hideH (cat_succ L k hlt)
      have c1 := cat_le L (k + 1)
      rw [HC.out, List.length_append] at c1
      have IA := IR.alloc (.cells #[.bool L[k].n, .bool L[k].sp.n, .int .i64 L[k].sp.lo, .int .i64 L[k].sp.hi, .bool L[k].t, .bool L[k].f, .slice ss L[k].s.length gc] 29)
      have OA := hown.alloc (.cells #[.bool L[k].n, .bool L[k].sp.n, .int .i64 L[k].sp.lo, .int .i64 L[k].sp.hi, .bool L[k].t, .bool L[k].f, .slice ss L[k].s.length gc] 29)
      have BA := hbr.alloc s1 (.cells #[.bool L[k].n, .bool L[k].sp.n, .int .i64 L[k].sp.lo, .int .i64 L[k].sp.hi, .bool L[k].t, .bool L[k].f, .slice ss L[k].s.length gc] 29)
      cases ss with
      | none =>
        have h0 : L[k].s = [] := by
          rcases IR with h | ⟨_, _, h, _⟩
          · exact h
          · cases h
        have HC' : Hid ((L.take (k + 1)).flatMap Gs.s = (L.take k).flatMap Gs.s) := by show _ = _; rw [HC.out, h0, List.append_nil]
        rw [h0] at OA BA g6
        clear IA HC c1
        go_wp2_with (at_builtin; refine wpList_append_none _ rfl _ _ 27 rfl w.heap.size 3 ti 1 Tryz.underlying27 hi _ _ gc _ rfl OA rfl ?_)
        go_roundw
        case rel => exact ⟨k + 1, by omega, by go_num, by rw [HC'.out]; exact OA, BA⟩
        case measure => simp [intOf]; omega
      | some ad =>
        have hnews : ∀ j u, (L[k].s.map (Value.int .i64))[j]? = some u → (wr.alloc (.cells #[.bool L[k].n, .bool L[k].sp.n, .int .i64 L[k].sp.lo, .int .i64 L[k].sp.hi, .bool L[k].t, .bool L[k].f, .slice (some ad) L[k].s.length gc] 29)).cell? (ad.add j) = some u := by
          intro j u hju
          have hj : j < L[k].s.length := by
            have := (List.getElem?_eq_some_iff.1 hju).1
            simpa using this
          obtain ⟨b', off', e', hb', hc'⟩ := IA.get j hj
          cases e'
          have := hc' j hj
          rw [List.getElem?_map, List.getElem?_eq_getElem hj] at hju
          cases hju
          rw [← this, Addr.add_lit]
        clear IA
        go_wp2_with (at_builtin; refine wpList_append_own _ rfl _ _ 27 rfl w.heap.size 3 ti (.int .i64 0) 1 8 Tryz.underlying27 hi hz0 hz1 hz2 rfl (by decide) _ _ _ rfl OA ad L[k].s.length gc (L[k].s.map (.int .i64)) rfl (by simp) hnews (fun x hx => by obtain ⟨y, _, rfl⟩ := List.mem_map.1 hx; rfl) (by unfold maxLen; omega) (by omega) (by simp; omega) ?_; intro v' w3 hown' hgrow3 hnil3)
        go_roundw
        case rel => exact ⟨k + 1, by omega, by go_num, by rw [HC.out, List.map_append, List.length_append]; exact hown', BA.grown hgrow3 (by simp; omega) (fun j hj => ownsRow_lowG hown hj)⟩
        case measure => simp [intOf]; omega
    · have hk' : k = L.length := by omega
      subst hk'
      rw [List.take_length] at hown
      have HS : Hid (sitesOf L = Lib.compact ((L.flatMap Gs.s).mergeSort fun x y => decide (x ≤ y))) := rfl
      generalize hzs : L.flatMap Gs.s = zs at *
      have HZ := hideH hzs
      clear hzs hL
      rcases hown.2 with ⟨rfl, h0⟩ | ⟨g, cap, cur, rfl, hbg, hg, h1, h2, h3, h4⟩
      · have hnil : zs = [] := List.length_eq_zero_iff.1 h0
        have HE : Hid (sitesOf L = []) := by show _ = _; rw [HS.out, hnil]; simp [Lib.compact, Lib.compactUpTo]
        clear HS HZ hnil h0
        go_wp2_with (go_at_call 121; fail)
        refine (Tryz.slices_Sort_int_none _ _ _).mono ?_
        rintro e w1 ⟨rfl, rfl⟩
        go_wp2_with (go_at_call 122; fail)
        refine (Tryz.slices_Compact_int_empty _ _ _).mono ?_
        rintro e w1 ⟨rfl, rfl⟩
        go_wp2
        go_ret
        exact ⟨_, rfl, by rw [HE.out]; exact ⟨rfl, .inl ⟨rfl, rfl⟩⟩, hbr⟩
      · have hgl : g < wr.heap.size := (Array.getElem?_eq_some_iff.1 hg).1
        rw [Nat.mul_one] at h4
        go_wp2_with (go_at_call 121; fail)
        refine (Tryz.slices_Sort_int g 0 cap zs _ (holds_of_blockI hg h4) hgl (by omega)).mono ?_
        rintro e w1 ⟨rfl, n, os, hw1⟩
        have hml : (zs.mergeSort fun x y => decide (x ≤ y)).length = zs.length := List.length_mergeSort _
        have O1 : w1.ownsRow w.heap.size 3 1 (.slice (some ⟨g, 0, none⟩) zs.length cap) zs.length ((zs.mergeSort fun x y => decide (x ≤ y)).map (.int .i64)) := by
          rw [hw1]; exact ownsRow_sortedI hml hbg hg h1 h2 h3
        have B1 : Below w.heap.size w w1 := by
          rw [hw1]; exact hbr.grown (grownBy_sortedI _) s1 (fun j hj => by cases hj; exact hbg)
        clear hw1
        generalize hys : (zs.mergeSort fun x y => decide (x ≤ y)) = ys at *
        have HE : Hid (sitesOf L = Lib.compact ys) := HS.out
        have hyl : ys.length = zs.length := hml
        clear hys hml HS hown h4 h3 hg hbr
        rcases O1.2 with ⟨h', _⟩ | ⟨g', cap', cur', h', -, hg', h1', h2', h3', h4'⟩
        · cases h'
        · cases h'
          rw [Nat.mul_one, ← hyl] at h4'
          have hcl := Lib.compact_length_le ys
          go_wp2_with (go_at_call 122; fail)
          rw [← hyl]
          refine (Tryz.slices_Compact_int g 0 cap ys _ (holds_of_blockI hg' h4') (by omega) (by omega)).mono ?_
          rintro e w2 ⟨rfl, q, hw2⟩
          rw [← grow_none (putRow _ _ _ _ _)] at hw2
          have htl : (Lib.compact ys ++ List.replicate (ys.length - (Lib.compact ys).length) (0 : Int)).length = ys.length := by rw [List.length_append, List.length_replicate]; omega
          have O2 := ownsRow_sortedI (w := w1) (n := q) (os := #[]) (ss := ys) htl hbg hg' (by omega) h2' h3'
          rw [← hw2] at O2
          have B2 : Below w.heap.size w w2 := by
            rw [hw2]; exact B1.grown (grownBy_sortedI _) B1.size (fun j hj => by cases hj; exact hbg)
          have O3 := ownsRow_short O2 hcl
          rw [← List.map_take, List.take_left] at O3
          clear hw2 O2 O1 B1 htl hg' h4'
          go_wp2
          go_ret
          exact ⟨_, rfl, by rw [HE.out]; exact O3, B2⟩
end Go.Proofs.YtmapdpcfanecdaaGreat

namespace Go.Proofs.YtmapdpcfanecdaaGreat
set_option linter.unusedVariables false
set_option linter.unusedSimpArgs false
open Go.RowKit

/-- Two spans that came in, and one that goes out, in memory. -/
abbrev w3 (s t r : Sp) (w : World) : World := ((w.alloc (.cells #[.bool s.n, .int .i64 s.lo, .int .i64 s.hi] 26)).alloc (.cells #[.bool t.n, .int .i64 t.lo, .int .i64 t.hi] 26)).alloc (.cells #[.bool r.n, .int .i64 r.lo, .int .i64 r.hi] 26)

theorem w3_cells {B : Nat} {s t r : Sp} {w w1 : World} (hb : Below B (w3 s t r w) w1) (hB : w.heap.size + 2 < B) : (w1.cell? ⟨w.heap.size, 0, none⟩ = some (.bool s.n) ∧ w1.cell? ⟨w.heap.size, 1, none⟩ = some (.int .i64 s.lo) ∧ w1.cell? ⟨w.heap.size, 2, none⟩ = some (.int .i64 s.hi)) ∧ (w1.cell? ⟨w.heap.size + 1, 0, none⟩ = some (.bool t.n) ∧ w1.cell? ⟨w.heap.size + 1, 1, none⟩ = some (.int .i64 t.lo) ∧ w1.cell? ⟨w.heap.size + 1, 2, none⟩ = some (.int .i64 t.hi)) ∧ (w1.cell? ⟨w.heap.size + 1 + 1, 0, none⟩ = some (.bool r.n) ∧ w1.cell? ⟨w.heap.size + 1 + 1, 1, none⟩ = some (.int .i64 r.lo) ∧ w1.cell? ⟨w.heap.size + 1 + 1, 2, none⟩ = some (.int .i64 r.hi)) ∧ (w1.frozen? ⟨w.heap.size + 1 + 1, 0, none⟩ = false ∧ w1.frozen? ⟨w.heap.size + 1 + 1, 1, none⟩ = false ∧ w1.frozen? ⟨w.heap.size + 1 + 1, 2, none⟩ = false) ∧ (w.heap.size < w1.heap.size ∧ w.heap.size + 1 < w1.heap.size ∧ w.heap.size + 1 + 1 < w1.heap.size) := by
  have hs := hb.size
  rw [hb.cell (by simp; omega), hb.cell (by simp; omega), hb.cell (by simp; omega), hb.cell (by simp; omega), hb.cell (by simp; omega), hb.cell (by simp; omega), hb.cell (by simp; omega), hb.cell (by simp; omega), hb.cell (by simp; omega), hb.frozen (by simp; omega), hb.frozen (by simp; omega), hb.frozen (by simp; omega)]
  simp [go_sem] at hs ⊢
  omega

theorem w3_below (s t r : Sp) (w : World) : Below w.heap.size w (w3 s t r w) := by go_grown

theorem join_ff {lo hi lo' hi' a b : Int} (ha : a = min lo lo') (hb : b = max hi hi') : joinSp ⟨false, lo, hi⟩ ⟨false, lo', hi'⟩ = ⟨false, a, b⟩ := by
  subst ha hb
  rfl

set_option maxHeartbeats 1000000 in
theorem widen_any (s t : Sp) (w : World) :
    Calls Tryz.prog 86 #[sv s, sv t] w fun e w' => e = .returned (sv (wideSp s t)) ∧ Below w.heap.size w w' := by
  obtain ⟨n, lo, hi⟩ := s
  obtain ⟨n', lo', hi'⟩ := t
  go_enter Tryz.func86, Tryz.ntmps86
  go_wp2_with (go_at_call 85; fail)
  refine (join_any ⟨n, lo, hi⟩ ⟨n', lo', hi'⟩ _).mono ?_
  rintro e w1 ⟨rfl, hb1⟩
  obtain ⟨⟨c0, c1, c2⟩, ⟨d0, d1, d2⟩, ⟨r0, r1, r2⟩, ⟨f0, f1, f2⟩, z0, z1, z2⟩ := w3_cells (s := ⟨n, lo, hi⟩) (t := ⟨n', lo', hi'⟩) (r := zeroSp) hb1 (by simp)
  have H1 : Below w.heap.size w w1 := (w3_below ⟨n, lo, hi⟩ ⟨n', lo', hi'⟩ zeroSp w).trans (hb1.mono (by simp; omega))
  clear hb1
  simp only [zeroSp] at r0 r1 r2
  cases n with
  | true =>
    have e0 : joinSp ⟨true, lo, hi⟩ ⟨n', lo', hi'⟩ = ⟨n', lo', hi'⟩ := rfl
    rw [e0]
    go_wp2
    refine bodyPost_ret (v := sv ⟨n', lo', hi'⟩) (by simp [results, Tryz.results86, go_sem, r0, r1, r2, z2]) rfl ⟨rfl, ?_⟩
    exact (((H1.setCell (by simp; omega) _).setCell (by simp; omega) _).setCell (by simp; omega) _).alloc (by simp; omega) _
  | false =>
    cases n' with
    | true =>
      have e0 : joinSp ⟨false, lo, hi⟩ ⟨true, lo', hi'⟩ = ⟨false, lo, hi⟩ := rfl
      rw [e0]
      go_wp2
      refine bodyPost_ret (v := sv ⟨false, lo, hi⟩) (by simp [results, Tryz.results86, go_sem, r0, r1, r2, z2]) rfl ⟨rfl, ?_⟩
      exact (((H1.setCell (by simp; omega) _).setCell (by simp; omega) _).setCell (by simp; omega) _).alloc (by simp; omega) _
    | false =>
    rcases Int.lt_or_le lo' lo with h1 | h1 <;> rcases Int.lt_or_le hi hi' with h2 | h2
    · have e0 : joinSp ⟨false, lo, hi⟩ ⟨false, lo', hi'⟩ = ⟨false, lo', hi'⟩ := join_ff (by omega) (by omega)
      rw [e0]
      go_wp2
      refine bodyPost_ret (v := sv ⟨false, -2147483648, 2147483647⟩) (by simp [results, Tryz.results86, go_sem, r0, r1, r2, z2]) rfl ⟨?_, ?_⟩
      · exact ret_sp (by simp [wideSp] <;> omega)
      · exact (((H1.setCell (by simp; omega) _).setCell (by simp; omega) _).setCell (by simp; omega) _).alloc (by simp; omega) _
    · have e0 : joinSp ⟨false, lo, hi⟩ ⟨false, lo', hi'⟩ = ⟨false, lo', hi⟩ := join_ff (by omega) (by omega)
      rw [e0]
      go_wp2
      refine bodyPost_ret (v := sv ⟨false, -2147483648, hi⟩) (by simp [results, Tryz.results86, go_sem, r0, r1, r2, z2]) rfl ⟨?_, ?_⟩
      · exact ret_sp (by simp [wideSp] <;> omega)
      · exact (((H1.setCell (by simp; omega) _).setCell (by simp; omega) _).setCell (by simp; omega) _).alloc (by simp; omega) _
    · have e0 : joinSp ⟨false, lo, hi⟩ ⟨false, lo', hi'⟩ = ⟨false, lo, hi'⟩ := join_ff (by omega) (by omega)
      rw [e0]
      go_wp2
      refine bodyPost_ret (v := sv ⟨false, lo, 2147483647⟩) (by simp [results, Tryz.results86, go_sem, r0, r1, r2, z2]) rfl ⟨?_, ?_⟩
      · exact ret_sp (by simp [wideSp] <;> omega)
      · exact (((H1.setCell (by simp; omega) _).setCell (by simp; omega) _).setCell (by simp; omega) _).alloc (by simp; omega) _
    · have e0 : joinSp ⟨false, lo, hi⟩ ⟨false, lo', hi'⟩ = ⟨false, lo, hi⟩ := join_ff (by omega) (by omega)
      rw [e0]
      go_wp2
      refine bodyPost_ret (v := sv ⟨false, lo, hi⟩) (by simp [results, Tryz.results86, go_sem, r0, r1, r2, z2]) rfl ⟨?_, ?_⟩
      · exact ret_sp (by simp [wideSp] <;> omega)
      · exact (((H1.setCell (by simp; omega) _).setCell (by simp; omega) _).setCell (by simp; omega) _).alloc (by simp; omega) _

set_option maxHeartbeats 1000000 in
theorem together_err (F : Nat) (s t : Sp) (w : World) (h : ckSps s t ≠ 0) :
    Calls Tryz.prog 84 #[sv s, sv t, .func (.func F) #[] #[]] w fun e w' => e = .returned (.tuple #[sv zeroSp, .int .i64 (ckSps s t)]) ∧ Below w.heap.size w w' := by
  obtain ⟨n, lo, hi⟩ := s
  obtain ⟨n', lo', hi'⟩ := t
  go_enter Tryz.func84, Tryz.ntmps84
  go_wp2_with (go_at_call 96; fail)
  refine (checkBoth_any ⟨n, lo, hi⟩ ⟨n', lo', hi'⟩ _).mono ?_
  rintro e w1 ⟨rfl, hb1⟩
  obtain ⟨⟨c0, c1, c2⟩, ⟨d0, d1, d2⟩, ⟨r0, r1, r2⟩, ⟨f0, f1, f2⟩, z0, z1, z2⟩ := w3_cells (s := ⟨n, lo, hi⟩) (t := ⟨n', lo', hi'⟩) (r := zeroSp) hb1 (by simp)
  have H1 : Below w.heap.size w w1 := (w3_below ⟨n, lo, hi⟩ ⟨n', lo', hi'⟩ zeroSp w).trans (hb1.mono (by simp; omega))
  clear hb1
  simp only [zeroSp] at r0 r1 r2
  go_wp2
  refine bodyPost_ret (v := .tuple #[sv zeroSp, .int .i64 (ckSps ⟨n, lo, hi⟩ ⟨n', lo', hi'⟩)]) (by simp [results, Tryz.results84, go_sem, r0, r1, r2, zeroSp]) rfl ⟨rfl, ?_⟩
  exact ((H1.setCell (by simp; omega) _).setCell (by simp; omega) _).setCell (by simp; omega) _

set_option maxHeartbeats 1000000 in
theorem together_join (s t : Sp) (w : World) (h : ckSps s t = 0) :
    Calls Tryz.prog 84 #[sv s, sv t, .func (.func 85) #[] #[]] w fun e w' => e = .returned (.tuple #[sv (joinSp s t), .int .i64 0]) ∧ Below w.heap.size w w' := by
  obtain ⟨n, lo, hi⟩ := s
  obtain ⟨n', lo', hi'⟩ := t
  go_enter Tryz.func84, Tryz.ntmps84
  go_wp2_with (go_at_call 96; fail)
  refine (checkBoth_any ⟨n, lo, hi⟩ ⟨n', lo', hi'⟩ _).mono ?_
  rintro e w1 ⟨rfl, hb1⟩
  obtain ⟨⟨c0, c1, c2⟩, ⟨d0, d1, d2⟩, ⟨r0, r1, r2⟩, ⟨f0, f1, f2⟩, z0, z1, z2⟩ := w3_cells (s := ⟨n, lo, hi⟩) (t := ⟨n', lo', hi'⟩) (r := zeroSp) hb1 (by simp)
  have H1 : Below w.heap.size w w1 := (w3_below ⟨n, lo, hi⟩ ⟨n', lo', hi'⟩ zeroSp w).trans (hb1.mono (by simp; omega))
  rw [h]
  simp only [zeroSp] at r0 r1 r2
  clear hb1
  go_wp2_with (go_at_call 85; fail)
  refine (join_any ⟨n, lo, hi⟩ ⟨n', lo', hi'⟩ _).mono ?_
  rintro e w2 ⟨rfl, hb2⟩
  have g0 := r0; have g1 := r1; have g2 := r2; have k0 := f0; have k1 := f1; have k2 := f2
  rw [← hb2.cell z2] at g0 g1 g2
  rw [← hb2.frozen z2] at k0 k1 k2
  have H2 : Below w.heap.size w w2 := H1.trans (hb2.mono (by omega))
  clear r0 r1 r2 f0 f1 f2 hb2 c0 c1 c2 d0 d1 d2
  generalize hr : joinSp ⟨n, lo, hi⟩ ⟨n', lo', hi'⟩ = r
  obtain ⟨rn, rlo, rhi⟩ := r
  go_wp2
  refine bodyPost_ret (v := .tuple #[sv ⟨rn, rlo, rhi⟩, .int .i64 0]) (by simp [results, Tryz.results84, go_sem, g0, g1, g2]) rfl ⟨by rw [hr], ?_⟩
  exact ((H2.setCell (by simp; omega) _).setCell (by simp; omega) _).setCell (by simp; omega) _

set_option maxHeartbeats 1000000 in
theorem together_meet (s t : Sp) (w : World) (h : ckSps s t = 0) :
    Calls Tryz.prog 84 #[sv s, sv t, .func (.func 124) #[] #[]] w fun e w' => e = .returned (.tuple #[sv (meetSp s t), .int .i64 0]) ∧ Below w.heap.size w w' := by
  obtain ⟨n, lo, hi⟩ := s
  obtain ⟨n', lo', hi'⟩ := t
  go_enter Tryz.func84, Tryz.ntmps84
  go_wp2_with (go_at_call 96; fail)
  refine (checkBoth_any ⟨n, lo, hi⟩ ⟨n', lo', hi'⟩ _).mono ?_
  rintro e w1 ⟨rfl, hb1⟩
  obtain ⟨⟨c0, c1, c2⟩, ⟨d0, d1, d2⟩, ⟨r0, r1, r2⟩, ⟨f0, f1, f2⟩, z0, z1, z2⟩ := w3_cells (s := ⟨n, lo, hi⟩) (t := ⟨n', lo', hi'⟩) (r := zeroSp) hb1 (by simp)
  have H1 : Below w.heap.size w w1 := (w3_below ⟨n, lo, hi⟩ ⟨n', lo', hi'⟩ zeroSp w).trans (hb1.mono (by simp; omega))
  rw [h]
  simp only [zeroSp] at r0 r1 r2
  clear hb1
  go_wp2_with (go_at_call 124; fail)
  refine (meet_any ⟨n, lo, hi⟩ ⟨n', lo', hi'⟩ _).mono ?_
  rintro e w2 ⟨rfl, hb2⟩
  have g0 := r0; have g1 := r1; have g2 := r2; have k0 := f0; have k1 := f1; have k2 := f2
  rw [← hb2.cell z2] at g0 g1 g2
  rw [← hb2.frozen z2] at k0 k1 k2
  have H2 : Below w.heap.size w w2 := H1.trans (hb2.mono (by omega))
  clear r0 r1 r2 f0 f1 f2 hb2 c0 c1 c2 d0 d1 d2
  generalize hr : meetSp ⟨n, lo, hi⟩ ⟨n', lo', hi'⟩ = r
  obtain ⟨rn, rlo, rhi⟩ := r
  go_wp2
  refine bodyPost_ret (v := .tuple #[sv ⟨rn, rlo, rhi⟩, .int .i64 0]) (by simp [results, Tryz.results84, go_sem, g0, g1, g2]) rfl ⟨by rw [hr], ?_⟩
  exact ((H2.setCell (by simp; omega) _).setCell (by simp; omega) _).setCell (by simp; omega) _

set_option maxHeartbeats 1000000 in
theorem together_widen (s t : Sp) (w : World) (h : ckSps s t = 0) :
    Calls Tryz.prog 84 #[sv s, sv t, .func (.func 86) #[] #[]] w fun e w' => e = .returned (.tuple #[sv (wideSp s t), .int .i64 0]) ∧ Below w.heap.size w w' := by
  obtain ⟨n, lo, hi⟩ := s
  obtain ⟨n', lo', hi'⟩ := t
  go_enter Tryz.func84, Tryz.ntmps84
  go_wp2_with (go_at_call 96; fail)
  refine (checkBoth_any ⟨n, lo, hi⟩ ⟨n', lo', hi'⟩ _).mono ?_
  rintro e w1 ⟨rfl, hb1⟩
  obtain ⟨⟨c0, c1, c2⟩, ⟨d0, d1, d2⟩, ⟨r0, r1, r2⟩, ⟨f0, f1, f2⟩, z0, z1, z2⟩ := w3_cells (s := ⟨n, lo, hi⟩) (t := ⟨n', lo', hi'⟩) (r := zeroSp) hb1 (by simp)
  have H1 : Below w.heap.size w w1 := (w3_below ⟨n, lo, hi⟩ ⟨n', lo', hi'⟩ zeroSp w).trans (hb1.mono (by simp; omega))
  rw [h]
  simp only [zeroSp] at r0 r1 r2
  clear hb1
  go_wp2_with (go_at_call 86; fail)
  refine (widen_any ⟨n, lo, hi⟩ ⟨n', lo', hi'⟩ _).mono ?_
  rintro e w2 ⟨rfl, hb2⟩
  have g0 := r0; have g1 := r1; have g2 := r2; have k0 := f0; have k1 := f1; have k2 := f2
  rw [← hb2.cell z2] at g0 g1 g2
  rw [← hb2.frozen z2] at k0 k1 k2
  have H2 : Below w.heap.size w w2 := H1.trans (hb2.mono (by omega))
  clear r0 r1 r2 f0 f1 f2 hb2 c0 c1 c2 d0 d1 d2
  generalize hr : wideSp ⟨n, lo, hi⟩ ⟨n', lo', hi'⟩ = r
  obtain ⟨rn, rlo, rhi⟩ := r
  go_wp2
  refine bodyPost_ret (v := .tuple #[sv ⟨rn, rlo, rhi⟩, .int .i64 0]) (by simp [results, Tryz.results84, go_sem, g0, g1, g2]) rfl ⟨by rw [hr], ?_⟩
  exact ((H2.setCell (by simp; omega) _).setCell (by simp; omega) _).setCell (by simp; omega) _

end Go.Proofs.YtmapdpcfanecdaaGreat
