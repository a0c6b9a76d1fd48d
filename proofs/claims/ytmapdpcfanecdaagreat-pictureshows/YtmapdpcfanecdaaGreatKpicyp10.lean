/- slices.Repeat of a guess; package picture's row. -/
import Derived.Test.YtmapdpcfanecdaaGreatKpicyp06
import Derived.Test.YtmapdpcfanecdaaGreatKpicyp07
import Derived.Test.YtmapdpcfanecdaaGreatShelf
import Derived.Test.YtmapdpcfanecdaaGreatKpicyp09
import Derived.Deep.DeepCutAuto
import Derived.OwnWalk
import Derived.Laws.MakeOwn
import Derived.Laws.CopyOwn
import Derived.Deep.DrawnRows
namespace Go.Proofs.YtmapdpcfanecdaaGreat
set_option linter.unusedVariables false
set_option linter.unusedSimpArgs false
open Go.RowKit
attribute [local go_sem ↓] Go.wp_at_zero Go.wp_at_succ

theorem replRow (n : Nat) (x : Gc) : (rowCells (List.replicate n x)).length = n * 7 := by rw [rowCells_len, List.length_replicate]
theorem replRow_add (a b : Nat) (x : Gc) : rowCells (List.replicate a x) ++ rowCells (List.replicate b x) = rowCells (List.replicate (a + b) x) := by rw [← rowCells_append, List.replicate_append_replicate]
theorem replRow_get (m n : Nat) (x : Gc) (h : m ≤ n) (j : Nat) (u : Value) (hj : (rowCells (List.replicate m x))[j]? = some u) : (rowCells (List.replicate n x))[j]? = some u := by
  obtain ⟨d, rfl⟩ : ∃ d, n = m + d := ⟨n - m, by omega⟩
  rw [← replRow_add, List.getElem?_append_left (List.getElem?_eq_some_iff.1 hj).1]
  exact hj
theorem rowCells_oneM (l : List Gc) : ∀ u ∈ rowCells l, u.oneCell' = true := by
  intro u hu
  obtain ⟨x, hx, hu⟩ := List.mem_flatMap.1 hu
  exact gcCells_one x u hu
/-- A block that is filled with a guess, so many times, from the front. -/
def Filled (w : World) (b n k : Nat) (x : Gc) : Prop := k ≤ n ∧ ∃ cs : List Value, w.heap[b]? = some (.cells cs.toArray 29 (0, 0)) ∧ cs.length = n * 7 ∧ cs.take (k * 7) = rowCells (List.replicate k x)
theorem Filled.lt {w : World} {b n k : Nat} {x : Gc} (h : Filled w b n k x) : b < w.heap.size := by
  obtain ⟨_, cs, h1, _⟩ := h
  exact (Array.getElem?_eq_some_iff.1 h1).1
/-- What copy makes of it: a row that lies at a is copied behind what is there. -/
theorem Filled.copy {P : Program} {w : World} {b n k : Nat} {x : Gc} (h : Filled w b n k x) (dT ty : TypeId) (a : Addr) (sLen sCap dCap m : Nat) (hu : P.underlying dT = some (.slice 29)) (hs : (P.info? 29).map (·.size) = some 7) (hm : m = Nat.min sLen (n - k))
    (hsrc : ∀ j v, (rowCells (List.replicate m x))[j]? = some v → w.cell? (a.add j) = some v) :
    ∃ w', (Builtin.copy_ #[dT, dT] ty #[.slice (some ⟨b, k * 7, none⟩) (n - k) dCap, .slice (some a) sLen sCap]).run P w = .ok (goInt m) w' ∧ Filled w' b n (k + m) x ∧ ∀ B w0, B ≤ b → Below B w0 w → Below B w0 w' := by
  obtain ⟨hk, cs, h1, h2, h3⟩ := h
  have hmn : m ≤ n - k := by rw [hm]; exact Nat.min_le_right _ _
  have hl : (rowCells (List.replicate m x)).length = m * 7 := replRow m x
  have hfit : k * 7 + m * 7 ≤ n * 7 := by omega
  refine ⟨w.setRow b (cs.take (k * 7) ++ rowCells (List.replicate m x) ++ cs.drop (k * 7 + (rowCells (List.replicate m x)).length)).toArray, ?_, ?_, fun B w0 hB hb => below_setRow hb hB _⟩
  · have e := run_copy_rowK w dT dT ty 29 b (k * 7) (n - k) dCap a sLen sCap 7 cs.toArray 29 (rowCells (List.replicate m x)) hu hs h1 (by rw [hl, hm]) hsrc (by rw [hl]; simpa [h2] using hfit) (rowCells_oneM _)
    rw [← hm] at e
    exact e
  · refine ⟨by omega, cs.take (k * 7) ++ rowCells (List.replicate m x) ++ cs.drop (k * 7 + (rowCells (List.replicate m x)).length), ?_, ?_, ?_⟩
    · exact setRow_heap w b cs.toArray _ _ _ h1
    · simp only [List.length_append, List.length_take, List.length_drop, hl, h2]
      omega
    · rw [h3, replRow_add]
      exact List.take_left' (by rw [replRow])
theorem Filled.gets {w : World} {b n : Nat} {g : Gs} (hs : g.s = []) (h : Filled w b n n ⟨g, none, 0⟩) : GsIn (fun k => k = b) w (some ⟨b, 0, none⟩) (List.replicate n g) := by
  have hz := h.lt
  obtain ⟨_, cs, h1, h2, h3⟩ := h
  rw [List.take_of_length_le (by omega)] at h3
  subst h3
  intro i hi
  have hin : i < n := by simpa using hi
  have hc : ∀ j, j < 7 → w.cell? ⟨b, i * 7 + j, none⟩ = (gcCells ⟨g, none, 0⟩)[j]? := fun j hj => by
    have e := rowCells_get (List.replicate n (⟨g, none, 0⟩ : Gc)) i (by simpa using hin) j hj
    rw [List.getElem_replicate] at e
    rw [← e]
    simp [World.cell?, h1]
  refine ⟨b, 0, rfl, rfl, none, 0, ⟨?_, hz⟩, .inl (by simp [hs]), by simp [hs], by unfold maxLen; omega⟩
  simp only [List.getElem_replicate, Nat.zero_add]
  exact ⟨hc 0 (by omega), hc 1 (by omega), hc 2 (by omega), hc 3 (by omega), hc 4 (by omega), hc 5 (by omega), hc 6 (by omega)⟩
set_option maxHeartbeats 4000000 in
set_option maxRecDepth 10000 in
theorem repeatG_any (g : Gs) (hs0 : g.s = []) (n : Nat) (h8 : n ≤ 8) (b : Nat) (w : World) (hg : GuAt w b 0 g none 0) :
    Calls Tryz.prog 107 #[.slice (some ⟨b, 0, none⟩) 1 1, .int .i64 (n : Int)] w fun e w' => (∃ rs, e = .returned (.slice rs n n) ∧ GsIn (fun b => w.heap.size ≤ b) w' rs (List.replicate n g)) ∧ Below w.heap.size w w' := by
  obtain ⟨ti, hi, hz0, hz1, hz2⟩ := info_parts Tryz.info_guess
  have HMU : Hid (Calls Tryz.prog 134 #[.int .u64 1, .int .u64 (n : Int)] w fun e w' => e = .returned (.tuple #[.int .u64 0, .int .u64 (n : Int)]) ∧ w' = w) := by
    refine (Tryz.bits_Mul 1 n (by omega) (by omega) w).mono ?_
    rintro e w1 ⟨rfl, rfl⟩
    refine ⟨?_, rfl⟩
    have e1 : 1 * n / 18446744073709551616 = 0 := by omega
    have e2 : 1 * n % 18446744073709551616 = n := by omega
    rw [e1, e2]
    rfl
  have HMK := run_makeSlice (P := Tryz.prog) w 41 29 ti (.agg #[.bool false, .bool false, .int .i64 0, .int .i64 0, .bool false, .bool false, .slice none 0 0]) Tryz.underlying41 hi hz0 .i64 .i64 (n : Int) (n : Int) (by omega) (Int.le_refl _) (by rw [hz1]; omega) (by rw [hz2]; omega) (by omega)
  rw [Int.toNat_natCast, hz1] at HMK
  have F0 : Filled (w.alloc (.cells (madeCells (Value.cells (.agg #[.bool false, .bool false, .int .i64 0, .int .i64 0, .bool false, .bool false, .slice none 0 0])) (n * 7)) 29)) w.heap.size n 0 ⟨g, none, 0⟩ := by
    refine ⟨Nat.zero_le _, (madeCells (Value.cells (.agg #[.bool false, .bool false, .int .i64 0, .int .i64 0, .bool false, .bool false, .slice none 0 0])) (n * 7)).toList, heap_alloc_new _ _, by simp [size_madeCells], by simp [rowCells]⟩
  have hb0 : Below w.heap.size w (w.alloc (.cells (madeCells (Value.cells (.agg #[.bool false, .bool false, .int .i64 0, .int .i64 0, .bool false, .bool false, .slice none 0 0])) (n * 7)) 29)) := by go_grown
  have G0 := hg.alloc (.cells (madeCells (Value.cells (.agg #[.bool false, .bool false, .int .i64 0, .int .i64 0, .bool false, .bool false, .slice none 0 0])) (n * 7)) 29)
  have hns : ¬ (n : Int) < 0 := by omega
  have N1 : (n : Int) ≤ 9223372036854775807 := by omega
  obtain ⟨w2, HR, F2, HB2⟩ := F0.copy (P := Tryz.prog) 41 3 ⟨b, 0, none⟩ 1 1 n (Nat.min 1 n) Tryz.underlying41 (by rw [hi]; exact congrArg some hz1) (by simp) (fun j v hj => by
    have hj' := replRow_get (Nat.min 1 n) 1 ⟨g, none, 0⟩ (Nat.min_le_left _ _) j v hj
    have e1 : rowCells (List.replicate 1 (⟨g, none, 0⟩ : Gc)) = gcCells ⟨g, none, 0⟩ := by simp [rowCells]
    rw [e1] at hj'
    obtain ⟨⟨g0, g1, g2, g3, g4, g5, g6⟩, -⟩ := G0
    rw [Addr.add_lit]
    have hj7 : j < 7 := by have := (List.getElem?_eq_some_iff.1 hj').1; rwa [gcCells_len] at this
    rw [← hj']
    rcases (show j = 0 ∨ j = 1 ∨ j = 2 ∨ j = 3 ∨ j = 4 ∨ j = 5 ∨ j = 6 by omega) with rfl | rfl | rfl | rfl | rfl | rfl | rfl
    · exact g0
    · exact g1
    · exact g2
    · exact g3
    · exact g4
    · exact g5
    · exact g6)
  have hb2 := HB2 w.heap.size w (Nat.le_refl _) hb0
  simp only [Nat.zero_mul, Nat.sub_zero, Nat.zero_add] at HR F2
  clear HB2 F0 hb0 G0
  generalize w.alloc (.cells (madeCells (Value.cells (.agg #[.bool false, .bool false, .int .i64 0, .int .i64 0, .bool false, .bool false, .slice none 0 0])) (n * 7)) 29) = wA at *
  have HNM : n ≤ 1 → Nat.min 1 n = n := fun h => Nat.min_eq_right h
  have HM1 : Nat.min 1 n ≤ n := Nat.min_le_right _ _
  have HM2 : 1 ≤ n → Nat.min 1 n = 1 := fun h => Nat.min_eq_left h
  have m0 : n = 0 ∨ 1 ≤ Nat.min 1 n := by by_cases h : n = 0; exact .inl h; exact .inr (by rw [HM2 (by omega)]; exact Nat.le_refl _)
  clear HNM HM2
  generalize Nat.min 1 n = m at *
  go_enter Tryz.func107, Tryz.ntmps107
  go_wp2_with (go_at_call 134; fail)
  refine HMU.out.mono ?_
  rintro e w1 ⟨rfl, rfl⟩
  clear HMU
  go_wp2
  clear HR HMK
  go_loopw [8] (fun i wr => ∃ k : Nat, k ≤ n ∧ (n = 0 ∨ 1 ≤ k) ∧ i = .int .i64 (k : Int) ∧ Filled wr w1.heap.size n k ⟨g, none, 0⟩ ∧ Below w1.heap.size w1 wr) (fun i _ => n - (intOf i).toNat)
  case atStart => exact ⟨m, HM1, m0, rfl, F2, hb2⟩
  case round =>
    clear F2 hb2 HM1 m0
    obtain ⟨k, hk, hk0, rfl, FK, BK⟩ := hrel
    have FD : Filled wr.drew w1.heap.size n k ⟨g, none, 0⟩ := FK
    have BD := BK.drew
    by_cases hlt : k < n
    · have hk1 : 1 ≤ k := by omega
      have n0 : (0 : Int) ≤ (k : Int) := by omega
      have n1 : (k : Int) < (n : Int) := by omega
      have n2 : (k : Int) ≤ (n : Int) := by omega
      obtain ⟨w3, HR, F3, HB3⟩ := FD.copy (P := Tryz.prog) 41 3 ⟨w1.heap.size, 0, none⟩ k n (n - k) (Nat.min k (n - k)) Tryz.underlying41 (by rw [hi]; exact congrArg some hz1) rfl (fun j v hj => by
        obtain ⟨_, cs, c1, c2, c3⟩ := FD
        have hj' := replRow_get (Nat.min k (n - k)) k ⟨g, none, 0⟩ (Nat.min_le_left _ _) j v hj
        rw [← c3, List.getElem?_take] at hj'
        split at hj'
        · rw [Addr.add_lit, Nat.zero_add]
          simp [World.cell?, c1, hj']
        · cases hj')
      have B3 := HB3 w1.heap.size w1 (Nat.le_refl _) BD
      have hm1 : 1 ≤ Nat.min k (n - k) := Nat.le_min.2 ⟨hk1, by omega⟩
      have hm2 : Nat.min k (n - k) ≤ n - k := Nat.min_le_right _ _
      have HR' := hideH HR
      clear HR HB3 FK BK FD BD
      generalize Nat.min k (n - k) = q at *
      have HS1 : ∀ wx, (Instr.sliceAt 41 (.slice (some ⟨w1.heap.size, 0, none⟩) n n) (some (.int .i64 (k : Int))) none none).run Tryz.prog wx = .ok (.slice (some ⟨w1.heap.size, k * 7, none⟩) (n - k) (n - k)) wx := by
        intro wx
        simp [go_sem]
        rw [if_pos (by omega), if_neg (by omega)]
      have HS2 : ∀ wx, (Instr.sliceAt 41 (.slice (some ⟨w1.heap.size, 0, none⟩) n n) none (some (.int .i64 (k : Int))) none).run Tryz.prog wx = .ok (.slice (some ⟨w1.heap.size, 0, none⟩) k n) wx := by
        intro wx
        simp [go_sem]
        intro h
        omega
      go_upto_region 9 with fail
      refine wp_region_z (S := fun _ => True) [] (by kernel_rfl) trivial (fun hHeld => ?_)
      refine tkZ 0 ?_ ?_ ?_
      rotate_left
      · exact rn
      (try simp only [Act.put, List.getElem_toArray, List.getElem_cons_zero, List.getElem_cons_succ, List.setIfInBounds_toArray, List.set_cons_zero, List.set_cons_succ])
      refine tkZ 1 ?_ ?_ ?_
      rotate_left
      · exact rn
      (try simp only [Act.put, List.getElem_toArray, List.getElem_cons_zero, List.getElem_cons_succ, List.setIfInBounds_toArray, List.set_cons_zero, List.set_cons_succ])
      refine tkZ 2 ?_ ?_ ?_
      rotate_left
      · exact rn
      (try simp only [Act.put, List.getElem_toArray, List.getElem_cons_zero, List.getElem_cons_succ, List.setIfInBounds_toArray, List.set_cons_zero, List.set_cons_succ])
      refine tkZ 3 ?_ ?_ ?_
      rotate_left
      · exact rn
      (try simp only [Act.put, List.getElem_toArray, List.getElem_cons_zero, List.getElem_cons_succ, List.setIfInBounds_toArray, List.set_cons_zero, List.set_cons_succ])
      refine tkZ 4 ?_ ?_ ?_
      rotate_left
      · exact rn
      (try simp only [Act.put, List.getElem_toArray, List.getElem_cons_zero, List.getElem_cons_succ, List.setIfInBounds_toArray, List.set_cons_zero, List.set_cons_succ])
      refine tkZ 5 ?_ ?_ ?_
      rotate_left
      · exact rn
      (try simp only [Act.put, List.getElem_toArray, List.getElem_cons_zero, List.getElem_cons_succ, List.setIfInBounds_toArray, List.set_cons_zero, List.set_cons_succ])
      refine tkZ 6 ?_ ?_ ?_
      rotate_left
      · exact rn
      (try simp only [Act.put, List.getElem_toArray, List.getElem_cons_zero, List.getElem_cons_succ, List.setIfInBounds_toArray, List.set_cons_zero, List.set_cons_succ])
      refine wpAnyZ_one (i := 7) rfl (by kernel_rfl) (fun K hK => ?_)
      refine Lib.wp_copy_run _ _ _ 41 41 rfl _ _ rfl rfl HR'.out ?_
      refine hK.out _ _ trivial (fun hHeld => ?_)
      clear hK K
      (try simp only [Act.put, List.getElem_toArray, List.getElem_cons_zero, List.getElem_cons_succ, List.setIfInBounds_toArray, List.set_cons_zero, List.set_cons_succ])
      refine tkZ 8 ?_ ?_ ?_
      rotate_left
      · exact rn
      (try simp only [Act.put, List.getElem_toArray, List.getElem_cons_zero, List.getElem_cons_succ, List.setIfInBounds_toArray, List.set_cons_zero, List.set_cons_succ])
      refine tkZ 9 ?_ ?_ ?_
      rotate_left
      · exact rn
      (try simp only [Act.put, List.getElem_toArray, List.getElem_cons_zero, List.getElem_cons_succ, List.setIfInBounds_toArray, List.set_cons_zero, List.set_cons_succ])
      refine wpAnyZ_done (by kernel_rfl) ?_ _
      clear HS1 HS2 HR'
      have EW : IntKind.i64.wrap ((k : Int) + (q : Int)) = ((k + q : Nat) : Int) := by rw [IntKind.wrap_i64]; omega
      rw [EW]
      clear EW
      go_wp2
      go_roundw
      case rel => exact ⟨k + q, by omega, .inr (by omega), by go_num, F3, B3⟩
      case measure => simp [intOf]; omega
    · have n1 : ¬ (k : Int) < (n : Int) := by omega
      have ek : k = n := by omega
      subst ek
      go_wp2
      go_ret
      exact ⟨⟨_, rfl, (FK.gets hs0).mono fun b h _ => by omega⟩, BK⟩
set_option maxHeartbeats 2000000 in
set_option maxRecDepth 10000 in
theorem rowG_any (g : Gs) (hs0 : g.s = []) (n : Nat) (h8 : n ≤ 8) (w : World) :
    Calls Tryz.prog 68 #[.agg #[.bool g.n, .bool g.sp.n, .int .i64 g.sp.lo, .int .i64 g.sp.hi, .bool g.t, .bool g.f, .slice none 0 0], .int .i64 (n : Int)] w fun e w' => (∃ rs, e = .returned (.slice rs n n) ∧ GsIn (fun b => w.heap.size ≤ b) w' rs (List.replicate n g)) ∧ Below w.heap.size w w' := by
  have hl0 : g.s.length = 0 := by rw [hs0]; rfl
  have G1 := GuAt.new (w.alloc (.cells #[.bool g.n, .bool g.sp.n, .int .i64 g.sp.lo, .int .i64 g.sp.hi, .bool g.t, .bool g.f, .slice none g.s.length 0] 29)) g none 0
  rw [hl0, World.size_alloc] at G1
  have HR := hideH (repeatG_any g hs0 n h8 _ _ G1)
  clear G1
  have hb1 : Below w.heap.size w ((w.alloc (.cells #[.bool g.n, .bool g.sp.n, .int .i64 g.sp.lo, .int .i64 g.sp.hi, .bool g.t, .bool g.f, .slice none 0 0] 29)).alloc (.cells #[.bool g.n, .bool g.sp.n, .int .i64 g.sp.lo, .int .i64 g.sp.hi, .bool g.t, .bool g.f, .slice none 0 0] 29)) := by go_grown
  go_enter Tryz.func68, Tryz.ntmps68
  go_wp2_with (go_at_call 107; fail)
  refine HR.out.mono ?_
  rintro e w2 ⟨⟨rs, rfl, GV⟩, hb2⟩
  go_wp2
  go_ret
  exact ⟨⟨rs, rfl, GV.mono fun b h _ => Nat.le_trans hb1.size h⟩, hb1.trans (hb2.mono hb1.size)⟩
end Go.Proofs.YtmapdpcfanecdaaGreat
