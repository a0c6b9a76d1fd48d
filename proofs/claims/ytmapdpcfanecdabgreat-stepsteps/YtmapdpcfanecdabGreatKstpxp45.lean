/- The law's own helper: stepBegun. -/
import Derived.Laws.CopyRow
import Derived.Lib.SlBuf
import Derived.Test.YtmapdpcfanecdabGreatKstpxp05
import Derived.Test.YtmapdpcfanecdabGreatKstpxp20
import Derived.Test.YtmapdpcfanecdabGreatShelf
import Derived.Test.YtmapdpcfanecdabGreatKstpxp08
import Derived.Deep.DeepCutAuto
import Derived.OwnWalk
import Derived.Laws.MakeOwn
import Derived.Laws.CopyOwn
import Derived.Deep.DrawnRows
import Derived.Test.YtmapdpcfanecdabGreatKstpxp28
import Derived.Test.YtmapdpcfanecdabGreatKstpxp44
import Derived.Test.YtmapdpcfanecdabGreatKstpxp37
set_option linter.unusedSimpArgs false
set_option linter.unusedVariables false
namespace Go.Proofs.YtmapdpcfanecdabGreat
section
open Go

theorem run_copy_rowK {P : Program} (w : World) (dT sT ty elem : TypeId) (g o dLen dCap : Nat) (a : Addr) (sLen sCap k : Nat) (cur : Array Value) (t : TypeId) (cs : List Value)
  (hu : P.underlying dT = some (.slice elem)) (hs : (P.info? elem).map (·.size) = some k)
  (hg : w.heap[g]? = some (.cells cur t (0, 0))) (hn : cs.length = Nat.min sLen dLen * k)
  (hsrc : ∀ j v, cs[j]? = some v → w.cell? (a.add j) = some v) (hfit : o + cs.length ≤ cur.size) (h1 : ∀ v ∈ cs, v.oneCell' = true) :
  (Builtin.copy_ #[dT, sT] ty #[.slice (some ⟨g, o, none⟩) dLen dCap, .slice (some a) sLen sCap]).run P w =
   .ok (goInt (Nat.min sLen dLen)) (w.setRow g (cur.toList.take o ++ cs ++ cur.toList.drop (o + cs.length)).toArray) := by
 have hl := run_loadCells_list (P := P) w a cs hsrc
 have hst := run_storeCells_at P g o t cs 0 cur w hg (by simpa using hfit) h1
 cases hq : P.info? elem with
 | none => simp [hq] at hs
 | some i =>
  have hi : i.size = k := by simpa [hq] using hs
  simp [Builtin.copy_, run_underlying hu, Builtin.lenOf, Builtin.firstCells, sizeOf, typeInfo, hq, hi, ← hn, hl, hst]
end
section
set_option maxHeartbeats 4000000
set_option maxRecDepth 10000
open Go.RowKit
attribute [local go_sem ↓] Go.wp_at_zero Go.wp_at_succ

theorem replRow (n : Nat) (x : Gc) : (rowCells (List.replicate n x)).length = n * 7 := by rw [rowCells_len, List.length_replicate]
theorem replRow_add (a b : Nat) (x : Gc) : rowCells (List.replicate a x) ++ rowCells (List.replicate b x) = rowCells (List.replicate (a + b) x) := by rw [← rowCells_append, List.replicate_append_replicate]
theorem replRow_get (m n : Nat) (x : Gc) (h : m ≤ n) (j : Nat) (u : Value) (hj : (rowCells (List.replicate m x))[j]? = some u) : (rowCells (List.replicate n x))[j]? = some u := by
 obtain ⟨d, rfl⟩ : ∃ d, n = m + d := ⟨n - m, by omega⟩
 rw [← replRow_add, List.getElem?_append_left (List.getElem?_eq_some_iff.1 hj).1]
 exact hj
theorem rowCells_oneM (l : List Gc) : ∀ u ∈ rowCells l, u.oneCell' = true := by
 intro u hu
 obtain ⟨x, hx, hu⟩ := List.mem_flatMap.1 hu
 exact gcCells_one x u hu
/-- A block that is filled with a guess, so many times, from the front. -/
def Filled (w : World) (b n k : Nat) (x : Gc) : Prop := k ≤ n ∧ ∃ cs : List Value, w.heap[b]? = some (.cells cs.toArray 61 (0, 0)) ∧ cs.length = n * 7 ∧ cs.take (k * 7) = rowCells (List.replicate k x)
theorem Filled.lt {w : World} {b n k : Nat} {x : Gc} (h : Filled w b n k x) : b < w.heap.size := by
 obtain ⟨_, cs, h1, _⟩ := h
 exact (Array.getElem?_eq_some_iff.1 h1).1
/-- What copy makes of it: a row that lies at a is copied behind what is there. -/
theorem Filled.copy {P : Program} {w : World} {b n k : Nat} {x : Gc} (h : Filled w b n k x) (dT ty : TypeId) (a : Addr) (sLen sCap dCap m : Nat) (hu : P.underlying dT = some (.slice 61)) (hs : (P.info? 61).map (·.size) = some 7) (hm : m = Nat.min sLen (n - k))
  (hsrc : ∀ j v, (rowCells (List.replicate m x))[j]? = some v → w.cell? (a.add j) = some v) :
  ∃ w', (Builtin.copy_ #[dT, dT] ty #[.slice (some ⟨b, k * 7, none⟩) (n - k) dCap, .slice (some a) sLen sCap]).run P w = .ok (goInt m) w' ∧ Filled w' b n (k + m) x ∧ ∀ B w0, B ≤ b → Below B w0 w → Below B w0 w' := by
 obtain ⟨hk, cs, h1, h2, h3⟩ := h
 have hmn : m ≤ n - k := by rw [hm]; exact Nat.min_le_right _ _
 have hl : (rowCells (List.replicate m x)).length = m * 7 := replRow m x
 have hfit : k * 7 + m * 7 ≤ n * 7 := by omega
 refine ⟨w.setRow b (cs.take (k * 7) ++ rowCells (List.replicate m x) ++ cs.drop (k * 7 + (rowCells (List.replicate m x)).length)).toArray, ?_, ?_, fun B w0 hB hb => below_setRow hb hB _⟩
 ·have e := run_copy_rowK w dT dT ty 61 b (k * 7) (n - k) dCap a sLen sCap 7 cs.toArray 61 (rowCells (List.replicate m x)) hu hs h1 (by rw [hl, hm]) hsrc (by rw [hl]; simpa [h2] using hfit) (rowCells_oneM _)
  rw [← hm] at e
  exact e
 ·refine ⟨by omega, cs.take (k * 7) ++ rowCells (List.replicate m x) ++ cs.drop (k * 7 + (rowCells (List.replicate m x)).length), ?_, ?_, ?_⟩
  ·exact setRow_heap w b cs.toArray _ _ _ h1
  ·simp only [List.length_append, List.length_take, List.length_drop, hl, h2]
   omega
  ·rw [h3, replRow_add]
   exact List.take_left' (by rw [replRow])
theorem Filled.gets {w : World} {b n : Nat} {g : Gs} (hs : g.s = []) (h : Filled w b n n ⟨g, none, 0⟩) : GsIn (fun k => k = b) w (some ⟨b, 0, none⟩) (List.replicate n g) := by
 have hz := h.lt
 obtain ⟨_, cs, h1, h2, h3⟩ := h
 rw [List.take_of_length_le (by omega)] at h3
 subst h3
 intro i hi
 have hin : i < n := by simpa using hi
 have hc : ∀ j, j < 7 → w.cell? ⟨b, i * 7 + j, none⟩ = (gcCells ⟨g, none, 0⟩)[j]? := fun j hj => by
  have e := rowCells_get (List.replicate n (⟨g, none, 0⟩ : Gc)) i (by simpa using hin) j hj
  rw [List.getElem_replicate] at e
  rw [← e]
  simp [World.cell?, h1]
 refine ⟨b, 0, rfl, rfl, none, 0, ⟨?_, hz⟩, .inl (by simp [hs]), by simp [hs], by unfold maxLen; omega⟩
 simp only [List.getElem_replicate, Nat.zero_add]
 exact ⟨hc 0 (by omega), hc 1 (by omega), hc 2 (by omega), hc 3 (by omega), hc 4 (by omega), hc 5 (by omega), hc 6 (by omega)⟩
theorem repeatG_any (g : Gs) (hs0 : g.s = []) (n : Nat) (h8 : n ≤ 8) (b : Nat) (w : World) (hg : GuAt w b 0 g none 0) :
  Calls Tryz.prog 98 #[.slice (some ⟨b, 0, none⟩) 1 1, .int .i64 (n : Int)] w fun e w' => (∃ rs, e = .returned (.slice rs n n) ∧ GsIn (fun b => w.heap.size ≤ b) w' rs (List.replicate n g)) ∧ Below w.heap.size w w' := by
 obtain ⟨ti, hi, hz0, hz1, hz2⟩ := info_parts Tryz.info_guess
 have HMU : Hid (Calls Tryz.prog 128 #[.int .u64 1, .int .u64 (n : Int)] w fun e w' => e = .returned (.tuple #[.int .u64 0, .int .u64 (n : Int)]) ∧ w' = w) := by
  refine (Tryz.bits_Mul 1 n (by omega) (by omega) w).mono ?_
  rintro e w1 ⟨rfl, rfl⟩
  refine ⟨?_, rfl⟩
  have e1 : 1 * n / 18446744073709551616 = 0 := by omega
  have e2 : 1 * n % 18446744073709551616 = n := by omega
  rw [e1, e2]
  rfl
 have HMK := run_makeSlice (P := Tryz.prog) w 25 61 ti (.agg #[.bool false, .bool false, .int .i64 0, .int .i64 0, .bool false, .bool false, .slice none 0 0]) Tryz.underlying25 hi hz0 .i64 .i64 (n : Int) (n : Int) (by omega) (Int.le_refl _) (by rw [hz1]; omega) (by rw [hz2]; omega) (by omega)
 rw [Int.toNat_natCast, hz1] at HMK
 have F0 : Filled (w.alloc (.cells (madeCells (Value.cells (.agg #[.bool false, .bool false, .int .i64 0, .int .i64 0, .bool false, .bool false, .slice none 0 0])) (n * 7)) 61)) w.heap.size n 0 ⟨g, none, 0⟩ := by
  refine ⟨Nat.zero_le _, (madeCells (Value.cells (.agg #[.bool false, .bool false, .int .i64 0, .int .i64 0, .bool false, .bool false, .slice none 0 0])) (n * 7)).toList, heap_alloc_new _ _, by simp [size_madeCells], by simp [rowCells]⟩
 have hb0 : Below w.heap.size w (w.alloc (.cells (madeCells (Value.cells (.agg #[.bool false, .bool false, .int .i64 0, .int .i64 0, .bool false, .bool false, .slice none 0 0])) (n * 7)) 61)) := by go_grown
 have G0 := hg.alloc (.cells (madeCells (Value.cells (.agg #[.bool false, .bool false, .int .i64 0, .int .i64 0, .bool false, .bool false, .slice none 0 0])) (n * 7)) 61)
 have hns : ¬ (n : Int) < 0 := by omega
 have N1 : (n : Int) ≤ 9223372036854775807 := by omega
 obtain ⟨w2, HR, F2, HB2⟩ := F0.copy (P := Tryz.prog) 25 3 ⟨b, 0, none⟩ 1 1 n (Nat.min 1 n) Tryz.underlying25 (by rw [hi]; exact congrArg some hz1) (by simp) (fun j v hj => by
  have hj' := replRow_get (Nat.min 1 n) 1 ⟨g, none, 0⟩ (Nat.min_le_left _ _) j v hj
  have e1 : rowCells (List.replicate 1 (⟨g, none, 0⟩ : Gc)) = gcCells ⟨g, none, 0⟩ := by simp [rowCells]
  rw [e1] at hj'
  obtain ⟨⟨g0, g1, g2, g3, g4, g5, g6⟩, -⟩ := G0
  rw [Addr.add_lit]
  have hj7 : j < 7 := by have := (List.getElem?_eq_some_iff.1 hj').1; rwa [gcCells_len] at this
  rw [← hj']
  rcases (show j = 0 ∨ j = 1 ∨ j = 2 ∨ j = 3 ∨ j = 4 ∨ j = 5 ∨ j = 6 by omega) with rfl | rfl | rfl | rfl | rfl | rfl | rfl
  ·exact g0
  ·exact g1
  ·exact g2
  ·exact g3
  ·exact g4
  ·exact g5
  ·exact g6)
 have hb2 := HB2 w.heap.size w (Nat.le_refl _) hb0
 simp only [Nat.zero_mul, Nat.sub_zero, Nat.zero_add] at HR F2
 clear HB2 F0 hb0 G0
 generalize w.alloc (.cells (madeCells (Value.cells (.agg #[.bool false, .bool false, .int .i64 0, .int .i64 0, .bool false, .bool false, .slice none 0 0])) (n * 7)) 61) = wA at *
 have HNM : n ≤ 1 → Nat.min 1 n = n := fun h => Nat.min_eq_right h
 have HM1 : Nat.min 1 n ≤ n := Nat.min_le_right _ _
 have HM2 : 1 ≤ n → Nat.min 1 n = 1 := fun h => Nat.min_eq_left h
 have m0 : n = 0 ∨ 1 ≤ Nat.min 1 n := by by_cases h : n = 0; exact .inl h; exact .inr (by rw [HM2 (by omega)]; exact Nat.le_refl _)
 clear HNM HM2
 generalize Nat.min 1 n = m at *
 go_enter Tryz.func98, Tryz.ntmps98
 go_wp2_with (go_at_call 128; fail)
 refine HMU.out.mono ?_
 rintro e w1 ⟨rfl, rfl⟩
 clear HMU
 go_wp2
 clear HR HMK
 go_loopw [8] (fun i wr => ∃ k : Nat, k ≤ n ∧ (n = 0 ∨ 1 ≤ k) ∧ i = .int .i64 (k : Int) ∧ Filled wr w1.heap.size n k ⟨g, none, 0⟩ ∧ Below w1.heap.size w1 wr) (fun i _ => n - (intOf i).toNat)
 case atStart => exact ⟨m, HM1, m0, rfl, F2, hb2⟩
 case round =>
  clear F2 hb2 HM1 m0
  obtain ⟨k, hk, hk0, rfl, FK, BK⟩ := hrel
  have FD : Filled wr.drew w1.heap.size n k ⟨g, none, 0⟩ := FK
  have BD := BK.drew
  by_cases hlt : k < n
  ·have hk1 : 1 ≤ k := by omega
   have n0 : (0 : Int) ≤ (k : Int) := by omega
   have n1 : (k : Int) < (n : Int) := by omega
   have n2 : (k : Int) ≤ (n : Int) := by omega
   obtain ⟨w3, HR, F3, HB3⟩ := FD.copy (P := Tryz.prog) 25 3 ⟨w1.heap.size, 0, none⟩ k n (n - k) (Nat.min k (n - k)) Tryz.underlying25 (by rw [hi]; exact congrArg some hz1) rfl (fun j v hj => by
    obtain ⟨_, cs, c1, c2, c3⟩ := FD
    have hj' := replRow_get (Nat.min k (n - k)) k ⟨g, none, 0⟩ (Nat.min_le_left _ _) j v hj
    rw [← c3, List.getElem?_take] at hj'
    split at hj'
    ·rw [Addr.add_lit, Nat.zero_add]
     simp [World.cell?, c1, hj']
    ·cases hj')
   have B3 := HB3 w1.heap.size w1 (Nat.le_refl _) BD
   have hm1 : 1 ≤ Nat.min k (n - k) := Nat.le_min.2 ⟨hk1, by omega⟩
   have hm2 : Nat.min k (n - k) ≤ n - k := Nat.min_le_right _ _
   have HR' := hideH HR
   clear HR HB3 FK BK FD BD
   generalize Nat.min k (n - k) = q at *
   have HS1 : ∀ wx, (Instr.sliceAt 25 (.slice (some ⟨w1.heap.size, 0, none⟩) n n) (some (.int .i64 (k : Int))) none none).run Tryz.prog wx = .ok (.slice (some ⟨w1.heap.size, k * 7, none⟩) (n - k) (n - k)) wx := by
    intro wx
    simp [go_sem]
    rw [if_pos (by omega), if_neg (by omega)]
   have HS2 : ∀ wx, (Instr.sliceAt 25 (.slice (some ⟨w1.heap.size, 0, none⟩) n n) none (some (.int .i64 (k : Int))) none).run Tryz.prog wx = .ok (.slice (some ⟨w1.heap.size, 0, none⟩) k n) wx := by
    intro wx
    simp [go_sem]
    intro h
    omega
   go_upto_region 9 with fail
   refine wp_region_z (S := fun _ => True) [] (by kernel_rfl) trivial (fun hHeld => ?_)
   refine tZ 0 ?_ ?_;refine sm ?_
   refine tZ 1 ?_ ?_;refine sm ?_
   refine tZ 2 ?_ ?_;refine sm ?_
   refine tZ 3 ?_ ?_;refine sm ?_
   refine tZ 4 ?_ ?_;refine sm ?_
   refine tZ 5 ?_ ?_;refine sm ?_
   refine tZ 6 ?_ ?_;refine sm ?_
   refine wpAnyZ_one (i := 7) rfl (by kernel_rfl) (fun K hK => ?_)
   refine Lib.wp_copy_run _ _ _ 25 25 rfl _ _ rfl rfl HR'.out ?_
   refine hK.out _ _ trivial (fun hHeld => ?_)
   clear hK K
   refine sm ?_
   refine tZ 8 ?_ ?_;refine sm ?_
   refine tZ 9 ?_ ?_;refine sm ?_
   refine wpAnyZ_done (by kernel_rfl) ?_ _
   clear HS1 HS2 HR'
   have EW : IntKind.i64.wrap ((k : Int) + (q : Int)) = ((k + q : Nat) : Int) := by rw [IntKind.wrap_i64]; omega
   rw [EW]
   clear EW
   go_wp2
   go_roundw
   case rel => exact ⟨k + q, by omega, .inr (by omega), by go_num, F3, B3⟩
   case measure => simp [intOf]; omega
  ·have n1 : ¬ (k : Int) < (n : Int) := by omega
   have ek : k = n := by omega
   subst ek
   go_wp2
   go_ret
   exact ⟨⟨_, rfl, (FK.gets hs0).mono fun b h _ => by omega⟩, BK⟩
theorem rowG_any (g : Gs) (hs0 : g.s = []) (n : Nat) (h8 : n ≤ 8) (w : World) :
  Calls Tryz.prog 66 #[.agg #[.bool g.n, .bool g.sp.n, .int .i64 g.sp.lo, .int .i64 g.sp.hi, .bool g.t, .bool g.f, .slice none 0 0], .int .i64 (n : Int)] w fun e w' => (∃ rs, e = .returned (.slice rs n n) ∧ GsIn (fun b => w.heap.size ≤ b) w' rs (List.replicate n g)) ∧ Below w.heap.size w w' := by
 have hl0 : g.s.length = 0 := by rw [hs0]; rfl
 have G1 := GuAt.new (w.alloc (.cells #[.bool g.n, .bool g.sp.n, .int .i64 g.sp.lo, .int .i64 g.sp.hi, .bool g.t, .bool g.f, .slice none g.s.length 0] 61)) g none 0
 rw [hl0, World.size_alloc] at G1
 have HR := hideH (repeatG_any g hs0 n h8 _ _ G1)
 clear G1
 have hb1 : Below w.heap.size w ((w.alloc (.cells #[.bool g.n, .bool g.sp.n, .int .i64 g.sp.lo, .int .i64 g.sp.hi, .bool g.t, .bool g.f, .slice none 0 0] 61)).alloc (.cells #[.bool g.n, .bool g.sp.n, .int .i64 g.sp.lo, .int .i64 g.sp.hi, .bool g.t, .bool g.f, .slice none 0 0] 61)) := by go_grown
 go_enter Tryz.func66, Tryz.ntmps66
 go_wp2_with (go_at_call 98; fail)
 refine HR.out.mono ?_
 rintro e w2 ⟨⟨rs, rfl, GV⟩, hb2⟩
 go_wp2
 go_ret
 exact ⟨⟨rs, rfl, GV.mono fun b h _ => Nat.le_trans hb1.size h⟩, hb1.trans (hb2.mono hb1.size)⟩
end
section
set_option maxHeartbeats 4000000
set_option maxRecDepth 10000
open Go.RowKit
attribute [local go_sem ↓] Go.wp_at_zero Go.wp_at_succ

theorem beginP_err (V F : Int) (s : Option Addr) (c : List Ins) (cap : Nat) (w : World) (hcd : CodeAt w s c) (h : ckProg V F c ≠ 0) :
  Calls Tryz.prog 29 #[pv V F s c cap] w fun e w' => PicE w' e zeroPic (ckProg V F c) ∧ Below w.heap.size w w' := by
 have B0 : Below w.heap.size w ((w.alloc (.cells #[.int .i64 V, .int .i64 F, .slice s c.length cap] 24)).alloc (.cells #[.bool false, .slice none 0 0, .slice none 0 0] 28)) := by go_grown
 have P0 := (PrAt.new w V F s c cap).call (w' := ((w.alloc (.cells #[.int .i64 V, .int .i64 F, .slice s c.length cap] 24)).alloc (.cells #[.bool false, .slice none 0 0, .slice none 0 0] 28))) (by go_grown)
 have Z0 := X3.new (w.alloc (.cells #[.int .i64 V, .int .i64 F, .slice s c.length cap] 24)) 28 (.bool false) (.slice none 0 0) (.slice none 0 0)
 rw [World.size_alloc] at Z0
 have HC := hideH (codeCheck_any V F s cap c ((w.alloc (.cells #[.int .i64 V, .int .i64 F, .slice s c.length cap] 24)).alloc (.cells #[.bool false, .slice none 0 0, .slice none 0 0] 28)) (hcd.below B0 (Nat.le_refl _)))
 have d1 : (ckProg V F c != 0) = true := by simpa using h
 generalize ckProg V F c = ce at *
 clear h hcd P0
 go_enter Tryz.func29, Tryz.ntmps29
 go_wp2_with (go_at_call 64; fail)
 refine HC.out.mono ?_
 rintro e w1 ⟨rfl, hb1⟩
 have Z1 := Z0.call hb1
 have B1 := B0.trans (hb1.mono B0.size)
 clear hb1 B0 Z0 HC
 obtain ⟨⟨z0, z1, z2⟩, zz, zf⟩ := id Z1
 have f0 := zf 0
 have f1 := zf 1
 have f2 := zf 2
 clear zf
 go_wp2
 refine bodyPost_ret (v := .tuple #[.agg #[.bool false, .slice none 0 0, .slice none 0 0], .int .i64 ce]) (by simp [results, Tryz.results29, go_sem, z0, z1, z2]) rfl ⟨⟨none, 0, none, 0, rfl, ⟨fun i hi => absurd hi (by simp [zeroPic]), fun i hi => absurd hi (by simp [zeroPic])⟩, ⟨Nat.zero_le _, Nat.zero_le _⟩, Nat.zero_le _, Nat.zero_le _⟩, ?_⟩
 exact ((B1.setCell (by simp only; omega) _).setCell (by simp only; omega) _).setCell (by simp only; omega) _
theorem beginP_ok (v f : Nat) (s : Option Addr) (c : List Ins) (cap : Nat) (w : World) (hcd : CodeAt w s c) (h : ckProg (v : Int) (f : Int) c = 0) :
  Calls Tryz.prog 29 #[pv (v : Int) (f : Int) s c cap] w fun e w' => PicF w.heap.size w' e (firstPic (v : Int) (f : Int) c) 0 ∧ Below w.heap.size w w' := by
 have efp : firstPic (v : Int) (f : Int) c = ⟨false, List.replicate v nullG, List.replicate c.length (List.replicate f noneG)⟩ := by simp [firstPic]
 rw [efp]
 clear efp
 obtain ⟨⟨_, hv8⟩, ⟨_, hf3⟩, h60⟩ := ckProg_lim h
 obtain ⟨tk, hk, hx0, hx1, hx2⟩ := info_parts Tryz.info_row
 have B0 : Below w.heap.size w ((w.alloc (.cells #[.int .i64 (v : Int), .int .i64 (f : Int), .slice s c.length cap] 24)).alloc (.cells #[.bool false, .slice none 0 0, .slice none 0 0] 28)) := by go_grown
 have P0 := (PrAt.new w (v : Int) (f : Int) s c cap).call (w' := ((w.alloc (.cells #[.int .i64 (v : Int), .int .i64 (f : Int), .slice s c.length cap] 24)).alloc (.cells #[.bool false, .slice none 0 0, .slice none 0 0] 28))) (by go_grown)
 have Z0 := X3.new (w.alloc (.cells #[.int .i64 (v : Int), .int .i64 (f : Int), .slice s c.length cap] 24)) 28 (.bool false) (.slice none 0 0) (.slice none 0 0)
 rw [World.size_alloc] at Z0
 have HC := hideH (codeCheck_any (v : Int) (f : Int) s cap c ((w.alloc (.cells #[.int .i64 (v : Int), .int .i64 (f : Int), .slice s c.length cap] 24)).alloc (.cells #[.bool false, .slice none 0 0, .slice none 0 0] 28)) (hcd.below B0 (Nat.le_refl _)))
 rw [h] at HC
 have HNO := hideH nothingP_any
 have HRF : Hid (∀ wx, Calls Tryz.prog 66 #[.agg #[.bool false, .bool true, .int .i64 0, .int .i64 0, .bool false, .bool false, .slice none 0 0], .int .i64 (f : Int)] wx fun e w' => (∃ rs, e = .returned (.slice rs f f) ∧ GsIn (fun b => wx.heap.size ≤ b) w' rs (List.replicate f noneG)) ∧ Below wx.heap.size wx w') := fun wx => rowG_any noneG rfl f (by omega) wx
 have HRV : Hid (∀ wx, Calls Tryz.prog 66 #[.agg #[.bool true, .bool true, .int .i64 0, .int .i64 0, .bool false, .bool false, .slice none 0 0], .int .i64 (v : Int)] wx fun e w' => (∃ rs, e = .returned (.slice rs v v) ∧ GsIn (fun b => wx.heap.size ≤ b) w' rs (List.replicate v nullG)) ∧ Below wx.heap.size wx w') := fun wx => rowG_any nullG rfl v (by omega) wx
 clear h hcd
 go_enter Tryz.func29, Tryz.ntmps29
 go_wp2_with (go_at_call 64; fail)
 refine HC.out.mono ?_
 rintro e w1 ⟨rfl, hb1⟩
 have Z1 := Z0.call hb1
 have P1 := P0.call hb1
 have B1 := B0.trans (hb1.mono B0.size)
 have z1 : w.heap.size + 1 + 1 ≤ w1.heap.size := by have := hb1.size; simpa using this
 clear hb1 B0 Z0 P0 HC
 go_wp2_with (go_at_call 65; fail)
 refine (HNO.out _).mono ?_
 rintro e w2 ⟨rfl, hb2⟩
 have hb3 : Below w2.heap.size w2 (w2.alloc (.cells #[.bool true, .bool true, .int .i64 0, .int .i64 0, .bool false, .bool false, .slice none 0 0] 61)) := by go_grown
 have hb23 := hb2.trans (hb3.mono hb2.size)
 have Z3 := Z1.call hb23
 have P3 := P1.call hb23
 have B3 := B1.trans (hb23.mono B1.size)
 have z3 : w.heap.size + 1 + 1 ≤ (w2.alloc (.cells #[.bool true, .bool true, .int .i64 0, .int .i64 0, .bool false, .bool false, .slice none 0 0] 61)).heap.size := Nat.le_trans z1 hb23.size
 clear hb2 hb3 hb23 Z1 P1 B1 z1
 obtain ⟨⟨p0, p1, p2⟩, pz⟩ := id P3
 go_wp2_with (go_at_call 66; fail)
 refine (HRV.out _).mono ?_
 rintro e w4 ⟨⟨vs, rfl, GV0⟩, hb4⟩
 clear p0 p1 p2 pz HRV
 have hbx : Below w4.heap.size w4 (w4.alloc (.cells #[.bool false, .slice vs v v, .slice none 0 0] 28)) := by go_grown
 have hb45 := hb4.trans (hbx.mono hb4.size)
 have Z5 := Z3.call hb45
 have P5 := P3.call hb45
 have B5 := B3.trans (hb45.mono B3.size)
 have U5 := X3.new w4 28 (.bool false) (.slice vs v v) (.slice none 0 0)
 have z5 : w.heap.size + 1 + 1 ≤ w4.heap.size := Nat.le_trans z3 hb4.size
 have GV5 : GsIn (fun b => w.heap.size + 1 + 1 ≤ b ∧ b < w4.heap.size + 1 ∧ b ≠ w4.heap.size) (w4.alloc (.cells #[.bool false, .slice vs v v, .slice none 0 0] 28)) vs (List.replicate v nullG) := (GV0.mono (S' := fun b => w.heap.size + 1 + 1 ≤ b ∧ b < w4.heap.size + 1 ∧ b ≠ w4.heap.size) fun b h1 h2 => ⟨Nat.le_trans z3 h1, by omega, by omega⟩).call hbx
 have e5 : w4.heap.size + 1 ≤ (w4.alloc (.cells #[.bool false, .slice vs v v, .slice none 0 0] 28)).heap.size := by simp
 have l5 : w4.heap.size < w4.heap.size + 1 := by omega
 clear hb4 hbx hb45 Z3 P3 B3 z3 GV0
 obtain ⟨⟨p0, p1, p2⟩, pz⟩ := id P5
 go_wp2
 clear p0 p1 p2 pz
 generalize w4.alloc (.cells #[.bool false, .slice vs v v, .slice none 0 0] 28) = w5 at *
 generalize w4.heap.size + 1 = N at *
 generalize w4.heap.size = zb at *
 go_loopw [23] (fun i wr => ∃ (k : Nat) (fs : Option Addr) (fc : Nat) (L : List Rw), k ≤ c.length ∧ i = .int .i64 k ∧ PrAt wr w.heap.size (v : Int) (f : Int) s c cap ∧ X3 wr (w.heap.size + 1) (.bool false) (.slice none 0 0) (.slice none 0 0) ∧ X3 wr zb (.bool false) (.slice vs v v) (.slice fs L.length fc) ∧ FRow wr N (.slice fs L.length fc) L ∧ Hid (L.map Rw.l = List.replicate k (List.replicate f noneG)) ∧ GsIn (fun b => w.heap.size + 1 + 1 ≤ b ∧ b < N ∧ b ≠ zb) wr vs (List.replicate v nullG) ∧ Below w.heap.size w wr ∧ N ≤ wr.heap.size) (fun i _ => c.length - (intOf i).toNat)
 case atStart => exact ⟨0, none, 0, [], Nat.zero_le _, rfl, P5, Z5, U5, FRow.nil _ _, rfl, GV5, B5, e5⟩
 case round =>
  clear P5 Z5 U5 GV5 B5 e5
  obtain ⟨k, fs, fc, L, hk1, rfl, PR, ZR, UR, FR, HL, GV, LR, zr⟩ := hrel
  have LL : Hid (L.length = k) := by
   show _ = _
   have h1 := congrArg List.length HL.out
   simpa using h1
  by_cases hlt : k < c.length
  ·have n0 : (0 : Int) ≤ (k : Int) := by omega
   have n1 : (k : Int) < (c.length : Int) := by omega
   obtain ⟨⟨p0, p1, p2⟩, pz⟩ := id PR
   obtain ⟨⟨y0, y1, y2⟩, yz, yf⟩ := id UR
   have HKZ : Hid (∀ wx, Below N wr wx → wx.cell? ⟨w.heap.size, 1, none⟩ = some (.int .i64 (f : Int)) ∧ wx.cell? ⟨zb, 2, none⟩ = some (.slice fs L.length fc)) := fun wx hx => ⟨by rw [hx.cell (by simp only; omega)]; exact p1, by rw [hx.cell (by simp only; omega)]; exact y2⟩
   have HD : Below wr.heap.size wr wr.drew := (Below.refl _ _).drew
   go_upto_region 9 with fail
   clear p0 p1 p2 pz y0 y1 y2 yz yf
   refine wp_region_z (S := (fun wx => wx.cell? ⟨w.heap.size, 1, none⟩ = some (.int .i64 (f : Int)) ∧ wx.cell? ⟨zb, 2, none⟩ = some (.slice fs L.length fc))) [9] (by kernel_rfl) (HKZ.out _ (HD.mono zr)) (fun hHeld => ?_)
   refine tZ 0 ?_ ?_;refine sm ?_
   refine tZ 1 ?_ ?_;refine sm ?_
   refine tZ 3 ?_ ?_;refine sm ?_
   refine tZ 4 ?_ ?_;refine sm ?_
   refine wpAnyZ_one (i := 2) rfl (by kernel_rfl) (fun K hK => ?_)
   go_simp
   go_at_call 65
   refine (HNO.out _).mono ?_
   rintro e w4 ⟨rfl, hb4⟩
   have HW4 : Below wr.heap.size wr w4 := HD.trans (hb4.mono HD.size)
   have HB4 : Below N wr w4 := HW4.mono zr
   go_wp2_with fail
   refine hK.out _ _ (HKZ.out _ HB4) (fun hHeld => ?_)
   clear hK K
   refine sm ?_
   refine wpAnyZ_one (i := 5) rfl (by kernel_rfl) (fun K hK => ?_)
   go_simp
   go_at_call 66
   refine (HRF.out _).mono ?_
   rintro e w5 ⟨⟨rs, rfl, GR⟩, hb5⟩
   have HW5 : Below wr.heap.size wr w5 := HW4.trans (hb5.mono HW4.size)
   have HB5 : Below N wr w5 := HW5.mono zr
   go_wp2_with fail
   refine hK.out _ _ (HKZ.out _ HB5) (fun hHeld => ?_)
   clear hK K
   refine sm ?_
   refine wpAnyZ_one (i := 6) rfl (by kernel_rfl) (fun K hK => ?_)
   go_simp
   have HW6 : Below wr.heap.size wr (w5.alloc (.cells #[.slice rs f f] 25)) := HW5.alloc HW5.size _
   have HB6 : Below N wr (w5.alloc (.cells #[.slice rs f f] 25)) := HW6.mono zr
   refine hK.out _ _ (HKZ.out _ HB6) (fun hHeld => ?_)
   clear hK K
   refine sm ?_
   refine wpAnyZ_one (i := 7) rfl (by kernel_rfl) (fun K hK => ?_)
   have F6 := FR.call HW6
   have RX : RwIn (fun b => N ≤ b ∧ (Value.slice fs L.length fc).ownBlock ≠ some b) (w5.alloc (.cells #[.slice rs f f] 25)) ⟨rs, f, List.replicate f noneG⟩ := ⟨(GR.mono fun b h1 _ => ⟨Nat.le_trans zr (Nat.le_trans HW4.size h1), fun e => by have := (ownsI_lt FR.1 e).1; have := HW4.size; omega⟩).call (by go_grown), by simp, by unfold maxLen; simp only; omega⟩
   have hlr : (List.replicate f noneG).length = f := List.length_replicate
   refine step_append_any _ rfl _ _ 26 rfl N 25 tk (.slice none 0 0) 1 24 Tryz.underlying26 hk hx0 hx1 hx2 rfl (by decide) _ _ _ rfl F6.1 (some ⟨w5.heap.size, 0, none⟩) 1 1 [.slice rs f f] rfl rfl (fun h => by cases h) (news1 w5 _ _) (by intro u hu; rw [List.mem_singleton.1 hu]; rfl) (by unfold maxLen; have := LL.out; omega) (by have := LL.out; omega) (by rw [World.size_alloc]; have := HW5.size; omega) ?_
   intro v' w7 hown hgrow hat
   have F7 := F6.grown (x := ⟨rs, f, List.replicate f noneG⟩) RX (by unfold rwV; rw [hlr]; exact hown) hgrow hat
   have HB7 : Below N wr w7 := HB6.grown hgrow (by rw [World.size_alloc]; have := HW5.size; omega) (fun k hk => (ownsI_lt F6.1 hk).2)
   obtain ⟨fs', fc', rfl, -, -, -⟩ := F7.rows
   refine hK.out _ _ (HKZ.out _ HB7) (fun hHeld => ?_)
   clear hK K hown hgrow hat F6 RX HB6 HW6 HB5 HW5 GR hlr
   refine sm ?_
   refine tZ 8 ?_ ?_;refine sm ?_
   refine wpAnyZ_last (i := 9) rfl (by kernel_rfl) (by kernel_rfl) (fun K hK => ?_)
   have U7 : X3 w7 zb _ _ _ := UR.same (HB7.block _ (by omega)) HB7.size
   obtain ⟨⟨y0, y1, y2⟩, yz, yf⟩ := id U7
   have yf2 := yf 2
   clear yf
   go_simp
   refine hK.out _ _ ?_
   clear hK K
   refine sm ?_
   refine wpAnyZ_done (by kernel_rfl) ?_ _
   clear y0 y1 y2 yz yf2
   have P7 := PR.low HB7 (by omega)
   have Z7 : X3 w7 (w.heap.size + 1) (.bool false) (.slice none 0 0) (.slice none 0 0) := ZR.same (HB7.block _ (by omega)) HB7.size
   have V7 := GV.same (w' := w7) (fun b hS _ => HB7.block b hS.2.1) HB7.size
   have L7 := LR.trans (HB7.mono (by omega))
   have z7 : N ≤ w7.heap.size := Nat.le_trans zr HB7.size
   have E7 : Hid (∀ (x : Value) b, b ≠ zb → (w7.setCell ⟨zb, 2, none⟩ x).heap[b]? = w7.heap[b]?) := fun x b hb => Below.heap_setCell _ _ _ _ hb
   have S7 : Hid (∀ (x : Value), w7.heap.size ≤ (w7.setCell ⟨zb, 2, none⟩ x).heap.size) := fun x => by simp [World.setCell]
   clear PR ZR UR FR LR zr HKZ GV HB7
   go_wp2
   go_roundw
   case rel => exact ⟨k + 1, fs', fc', L ++ [⟨rs, f, List.replicate f noneG⟩], by omega, by go_num, P7.far (by simp only; omega) _, Z7.same (E7.out _ _ (by omega)) (S7.out _), by first | exact U7.put2 _ | (rw [List.length_append]; exact U7.put2 _), F7.old (fun b hb => E7.out _ b (by omega)) (S7.out _), by show _ = _; rw [List.map_append, HL.out, List.replicate_succ']; rfl, V7.same (fun b hS _ => E7.out _ b hS.2.2) (S7.out _), L7.setCell (by simp only; omega) _, by simpa [World.setCell] using z7⟩
   case measure => simp [intOf]; omega
  ·have n1' : ¬ (k : Int) < (c.length : Int) := by omega
   have ek : k = c.length := by omega
   have ELL : Hid (L.length = c.length) := by show _ = _; rw [LL.out, ek]
   have hch : ∀ b, b ≠ w.heap.size + 1 → (((wr.setCell ⟨w.heap.size + 1, 0, none⟩ (.bool false)).setCell ⟨w.heap.size + 1, 1, none⟩ (.slice vs v v)).setCell ⟨w.heap.size + 1, 2, none⟩ (.slice fs L.length fc)).heap[b]? = wr.heap[b]? := fun b hb => by rw [Below.heap_setCell _ _ _ _ hb, Below.heap_setCell _ _ _ _ hb, Below.heap_setCell _ _ _ _ hb]
   have hcz : wr.heap.size ≤ (((wr.setCell ⟨w.heap.size + 1, 0, none⟩ (.bool false)).setCell ⟨w.heap.size + 1, 1, none⟩ (.slice vs v v)).setCell ⟨w.heap.size + 1, 2, none⟩ (.slice fs L.length fc)).heap.size := by simp [World.setCell]
   have FX := FR.old (w' := (((wr.setCell ⟨w.heap.size + 1, 0, none⟩ (.bool false)).setCell ⟨w.heap.size + 1, 1, none⟩ (.slice vs v v)).setCell ⟨w.heap.size + 1, 2, none⟩ (.slice fs L.length fc))) (fun b hb => hch b (by omega)) hcz
   have GX := GV.same (w' := (((wr.setCell ⟨w.heap.size + 1, 0, none⟩ (.bool false)).setCell ⟨w.heap.size + 1, 1, none⟩ (.slice vs v v)).setCell ⟨w.heap.size + 1, 2, none⟩ (.slice fs L.length fc))) (fun b hS _ => hch b (by omega)) hcz
   have BX : Below w.heap.size w (((wr.setCell ⟨w.heap.size + 1, 0, none⟩ (.bool false)).setCell ⟨w.heap.size + 1, 1, none⟩ (.slice vs v v)).setCell ⟨w.heap.size + 1, 2, none⟩ (.slice fs L.length fc)) := ((LR.setCell (by simp only; omega) _).setCell (by simp only; omega) _).setCell (by simp only; omega) _
   have HFX : Hid (∀ wz : World, (∀ b, w.heap.size ≤ b → b < (((wr.setCell ⟨w.heap.size + 1, 0, none⟩ (.bool false)).setCell ⟨w.heap.size + 1, 1, none⟩ (.slice vs v v)).setCell ⟨w.heap.size + 1, 2, none⟩ (.slice fs L.length fc)).heap.size → wz.heap[b]? = (((wr.setCell ⟨w.heap.size + 1, 0, none⟩ (.bool false)).setCell ⟨w.heap.size + 1, 1, none⟩ (.slice vs v v)).setCell ⟨w.heap.size + 1, 2, none⟩ (.slice fs L.length fc)).heap[b]?) → (((wr.setCell ⟨w.heap.size + 1, 0, none⟩ (.bool false)).setCell ⟨w.heap.size + 1, 1, none⟩ (.slice vs v v)).setCell ⟨w.heap.size + 1, 2, none⟩ (.slice fs L.length fc)).heap.size ≤ wz.heap.size → GsAt wz vs (List.replicate v nullG) ∧ RowsAt wz fs (List.replicate c.length (List.replicate f noneG))) := fun wz hs hz => by
    obtain ⟨fs0, fc0, e0, hk0, hk00, RW0⟩ := (FX.olden (w' := wz) (fun b hb hlt => hs b (by omega) hlt) hz).rows
    cases e0
    rw [HL.out, ek] at RW0
    exact ⟨(GX.same (fun b hS hlt => hs b (by have := hS.1; omega) hlt) hz).at, RW0⟩
   have CFX : Hid (L.length ≤ fc ∧ fc ≤ maxLen) := by
    obtain ⟨fs0, fc0, e0, hk0, hk00, -⟩ := FR.rows
    cases e0
    exact ⟨hk0, hk00⟩
   obtain ⟨⟨y0, y1, y2⟩, yz, yf⟩ := id UR
   obtain ⟨⟨d0, d1, d2⟩, dz, df⟩ := id ZR
   have f0 := df 0
   have f1 := df 1
   have f2 := df 2
   clear df yf hch hcz FX GX ek
   go_wp2
   refine bodyPost_ret (v := .tuple #[.agg #[.bool false, .slice vs v v, .slice fs L.length fc], .int .i64 0]) (by simp [results, Tryz.results29, go_sem, d0, d1, d2]) rfl ⟨?_, BX⟩
   refine ⟨vs, v, fs, fc, ?_, fun wz hs hz => HFX.out wz hs hz, ⟨by simp, by unfold maxLen; omega⟩, by rw [List.length_replicate, ← ELL.out]; exact CFX.out⟩
   rw [ELL.out]
   simp
theorem beginPU (V F : Int) (s : Option Addr) (c : List Ins) (cap : Nat) (w : World) (hcd : CodeAt w s c) :
  Calls Tryz.prog 29 #[pv V F s c cap] w fun e w' => PicF w.heap.size w' e (if ckProg V F c = 0 then firstPic V F c else zeroPic) (ckProg V F c) ∧ Below w.heap.size w w' := by
 by_cases h : ckProg V F c = 0
 ·rw [if_pos h, h]
  obtain ⟨⟨hV, _⟩, ⟨hF, _⟩, _⟩ := ckProg_lim h
  obtain ⟨v, rfl⟩ := Int.eq_ofNat_of_zero_le (show 0 ≤ V by omega)
  obtain ⟨f, rfl⟩ := Int.eq_ofNat_of_zero_le hF
  exact beginP_ok v f s c cap w hcd h
 ·rw [if_neg h]
  refine (beginP_err V F s c cap w hcd h).mono ?_
  rintro e w1 ⟨⟨us, uc, gs, gc, he, -, hcp⟩, hb⟩
  exact ⟨⟨us, uc, gs, gc, he, fun wz _ _ => ⟨fun i hi => absurd hi (by simp [zeroPic]), fun i hi => absurd hi (by simp [zeroPic])⟩, hcp⟩, hb⟩
end
section
set_option maxHeartbeats 8000000
set_option maxRecDepth 20000
open Go.RowKit
attribute [local go_sem ↓] Go.wp_at_zero Go.wp_at_succ

def begQ : Pic := ⟨false, [nullG], [[], []]⟩
theorem begunBeginS (b : Nat) (w : World) (hc : CodeAt w (some ⟨b, 0, none⟩) smallC) :
  Calls Tryz.prog 29 #[pv 1 0 (some ⟨b, 0, none⟩) smallC 2] w fun e w' => ∃ vs vc fs fc, e = .returned (.tuple #[(.agg #[.bool false, .slice vs 1 vc, .slice fs 2 fc]), .int .i64 0]) ∧ PicAt w' begQ vs fs ∧ (1 ≤ vc ∧ vc ≤ maxLen) ∧ (2 ≤ fc ∧ fc ≤ maxLen) ∧ Below w.heap.size w w' := by
 have h := beginPU 1 0 (some ⟨b, 0, none⟩) smallC 2 w hc
 have e0 : ckProg 1 0 smallC = 0 := by decide +kernel
 rw [e0, if_pos rfl, show firstPic 1 0 smallC = begQ from rfl] at h
 refine h.mono ?_
 rintro e w' ⟨⟨vs, vc, fs, fc, rfl, hp, h2, h3⟩, hb⟩
 exact ⟨vs, vc, fs, fc, rfl, hp.at, h2, h3, hb⟩
/-- The one edge of the small program's first step, cell by cell. -/
def EdgeS (w : World) (es : Option Addr) : Prop := ∃ b off, es = some ⟨b, off, none⟩ ∧ ∃ vs vc vb vo, w.cell? ⟨b, off, none⟩ = some (.int .i64 1) ∧ w.cell? ⟨b, off + 2, none⟩ = some (.slice vs 1 vc) ∧ vs = some ⟨vb, vo, none⟩ ∧ w.cell? ⟨vb, vo + 1, none⟩ = some (.bool false) ∧ w.cell? ⟨vb, vo + 2, none⟩ = some (.int .i64 5) ∧ w.cell? ⟨vb, vo + 3, none⟩ = some (.int .i64 5)
theorem begunStep (b : Nat) (vs : Option Addr) (vc : Nat) (fs : Option Addr) (fc : Nat) (w : World) (hc : CodeAt w (some ⟨b, 0, none⟩) smallC) (hp : PicAt w begQ vs fs) (h1 : 1 ≤ vc ∧ vc ≤ maxLen) (h2 : 2 ≤ fc ∧ fc ≤ maxLen) :
  Calls Tryz.prog 5 #[pv 1 0 (some ⟨b, 0, none⟩) smallC 2, .int .i64 0, (.agg #[.bool false, .slice vs 1 vc, .slice fs 2 fc])] w fun e w' => (∃ es ec, e = .returned (.tuple #[.slice es 1 ec, .bool false, .bool false, .int .i64 0]) ∧ EdgeS w' es) ∧ Below w.heap.size w w' := by
 have h := stepF_any 1 0 (some ⟨b, 0, none⟩) smallC 2 0 begQ vs vc fs fc w hc hp h1 h2
 have e0 : stepE 1 0 smallC 0 begQ = 0 := by decide +kernel
 have e1 : stepA 1 0 smallC 0 begQ = ([⟨1, ⟨false, [⟨false, ⟨false, 5, 5⟩, false, false, []⟩], [[], []]⟩⟩], false, false) := by unfold stepA; rw [e0, if_pos rfl]; rfl
 rw [e0, e1] at h
 refine h.mono ?_
 rintro e w' ⟨⟨es, ec, rfl, hE⟩, hb⟩
 refine ⟨⟨es, ec, rfl, ?_⟩, hb⟩
 obtain ⟨b, off, e1, _, _, us, uc, gs, gc, ⟨c0, c1, c2, c3⟩, hP, _⟩ := hE 0 (by simp)
 obtain ⟨vb, vo, e2, ss, sc, ⟨⟨d0, d1, d2, d3, _⟩, _⟩, _⟩ := hP.at.1 0 (by simp)
 simp only [Nat.zero_mul, Nat.add_zero] at c0 c2 d1 d2 d3
 exact ⟨b, off, e1, us, uc, vb, vo, c0, c2, e2, d1, d2, d3⟩
theorem stepBegun_any (w : World) : Calls Tryz.prog 8 #[] w fun e w' => e = .returned (.bool true) ∧ Below w.heap.size w w' := by
 go_enter Tryz.func8, Tryz.ntmps8
 go_wp2_with (go_at_call 30; fail)
 refine (small_any _).mono ?_
 rintro e w1 ⟨b1, rfl, C1, hb1⟩
 go_wp2_with (go_at_call 29; fail)
 refine (begunBeginS _ _ C1).mono ?_
 rintro e w2 ⟨vs, vc, fs, fc, rfl, PX2, hv, hf, hb2⟩
 have B2 := hb1.trans (hb2.mono hb1.size)
 have hb3 : Below w2.heap.size w2 (w2.alloc (.cells #[.bool false, .slice vs 1 vc, .slice fs 2 fc] 28)) := by go_grown
 have X3' := X3.new w2 28 (.bool false) (.slice vs 1 vc) (.slice fs 2 fc)
 have PX3 := PX2.call hb3
 have B3 := B2.trans (hb3.mono B2.size)
 clear hb1 hb2 C1 PX2 B2 hb3
 go_upto_region 2 with fail
 generalize w2.alloc (.cells #[.bool false, .slice vs 1 vc, .slice fs 2 fc] 28) = w3 at *
 generalize w2.heap.size = xb at *
 have X4 : X3 w3.drew xb (.bool false) (.slice vs 1 vc) (.slice fs 2 fc) := X3'
 have PX4 : PicAt w3.drew begQ vs fs := PX3
 have B4 := B3.drew
 refine wp_region_held_drew (S := (fun wx => (wx.cell? ⟨xb, 0, none⟩ = some (.bool false) ∧ wx.cell? ⟨xb, 1, none⟩ = some (.slice vs 1 vc) ∧ wx.cell? ⟨xb, 2, none⟩ = some (.slice fs 2 fc)))) (by kernel_rfl) X4.1 (fun hHeld => ?_)
 clear X3' PX3 B3
 generalize w3.drew = w4 at *
 refine tH 1 ?_ ?_;refine sm ?_
 refine wpAnyH_ready (rs := [0]) (by kernel_rfl) (by simp) ?_
 refine AllReadyH.cons rfl (fun K hK => ?_) AllReadyH.nil
 go_simp
 refine (small_any _).mono ?_
 rintro e w5 ⟨b5, rfl, C5, hb5⟩
 have X5 := X4.call hb5
 have PX5 := PX4.call hb5
 have B5 := B4.trans (hb5.mono (B4.size))
 refine hK.out _ _ (X5.1) (fun hHeld5 => ?_)
 clear hK K hb5 X4 PX4 B4
 refine sm ?_
 refine wpAnyH_ready (rs := [2]) (by kernel_rfl) (by simp) ?_
 refine AllReadyH.cons rfl (fun K hK => ?_) AllReadyH.nil
 go_simp
 refine (begunStep _ vs vc fs fc w5 C5 PX5 hv hf).mono ?_
 rintro e w6 ⟨⟨es, ec, rfl, ES⟩, hb6⟩
 have X6 := X5.call hb6
 have PX6 := PX5.call hb6
 have C6 := C5.call hb6
 have B6 := B5.trans (hb6.mono (B5.size))
 refine hK.out _ _ (X6.1) (fun hHeld6 => ?_)
 clear hK K hb6 X5 PX5 C5 B5
 refine sm ?_
 refine tH 3 ?_ ?_;refine sm ?_
 refine tH 4 ?_ ?_;refine sm ?_
 refine tH 5 ?_ ?_;refine sm ?_
 refine tH 6 ?_ ?_;refine sm ?_
 refine tH 7 ?_ ?_;refine sm ?_
 refine tH 8 ?_ ?_;refine sm ?_
 refine tH 9 ?_ ?_;refine sm ?_
 refine tH 10 ?_ ?_;refine sm ?_
 refine tH 11 ?_ ?_;refine sm ?_
 refine wpAnyH_done (by kernel_rfl) ?_ _
 obtain ⟨eb, eo, rfl, us, uc, vb, vo, k0, k2, rfl, d1, d2, d3⟩ := ES
 go_wp2
 refine bodyPost_ret (v := .bool true) (by kernel_rfl) rfl ⟨rfl, B6⟩
end
end Go.Proofs.YtmapdpcfanecdabGreat
