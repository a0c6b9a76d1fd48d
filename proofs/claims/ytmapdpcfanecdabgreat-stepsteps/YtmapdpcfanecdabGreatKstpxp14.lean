/- Walks over package code: the map of shapes, as it is made and looked up. -/
import Derived.Test.YtmapdpcfanecdabGreatKstpxp13
import Derived.MapKept
set_option linter.unusedSimpArgs false
set_option linter.unusedVariables false
namespace Go.Proofs.YtmapdpcfanecdabGreat
section
set_option maxHeartbeats 4000000
set_option maxRecDepth 100000
open Go.RowKit

/-- A shape: its kind, its word, the parts that it names. -/
abbrev Shp := Int × ByteArray × List Int

def partCells (ps : List Int) : Array Value := (ps.map fun p => Value.int .i64 p).toArray
def shpVal (N : Nat) (j : Nat) (s : Shp) : Value := .agg #[.string s.2.1, if s.2.2 = [] then .slice none 0 0 else .slice (some ⟨N + 1 + j, 0, none⟩) s.2.2.length s.2.2.length]
def shpEntry (N : Nat) (j : Nat) (s : Shp) : MapEntry := ⟨.int .i64 s.1, shpVal N j s, j⟩
def shpEntries (N : Nat) : Nat → List Shp → List MapEntry
 | _, [] => []
 | j, s :: r => shpEntry N j s :: shpEntries N (j + 1) r

/-- The map of these shapes lies at block N of a world, the parts' lists behind it. -/
structure ShpAt (N : Nat) (l : List Shp) (w : World) : Prop where
 map : w.heap[N]? = some (.map (shpEntries N 0 l).toArray l.length)
 parts : ∀ j (h : j < l.length), l[j].2.2 ≠ [] → w.heap[N + 1 + j]? = some (.cells (partCells l[j].2.2) 150)

theorem shpEntries_append (N : Nat) (l : List Shp) (s : Shp) : ∀ j, shpEntries N j (l ++ [s]) = shpEntries N j l ++ [shpEntry N (j + l.length) s] := by
 induction l with
 | nil => intro j; rfl
 | cons x r ih => intro j; simp only [List.cons_append, shpEntries, ih (j + 1), List.length_cons, Nat.add_assoc, Nat.add_comm 1]

theorem findNow_new (N : Nat) (k : Int) (l : List Shp) : ∀ i j, (∀ s ∈ l, s.1 ≠ k) → Instr.findNow (.int .i64) (.int .i64 k) (shpEntries N j l) i = some none := by
 induction l with
 | nil => intro i j _; rfl
 | cons x r ih =>
  intro i j h
  have hx : (k == x.1) = false := by simpa using fun e => h x (by simp) e.symm
  simp only [shpEntries, Instr.findNow, shpEntry, Instr.sameNow, if_true, hx]
  exact ih (i + 1) (j + 1) (fun s hs => h s (by simp [hs]))

/-- A shape put into the map that is being made: its parts' list has just been laid, or it names none. -/
theorem wpList_insert_shp {P : Program} {N : Nat} {l : List Shp} {wx w : World} {ops : Array Oper} {rest : List Oper} {o : Oper} {a : Act} {Q : Exit → Act → World → Prop} {B : Nat} {w0 : World}
  (hg : o.guard = none) (m x v : Operand) (t kt et : TypeId) (hop : o.op = Op.insert t m x v) (ht : P.underlying t = some (.map kt et)) (hk : P.underlying kt = some (.int .i64)) (k : Int) (wd : ByteArray) (ps : List Int)
  (hm : a.eval m = .map (some N)) (hx : a.eval x = .int .i64 k) (hv : a.eval v = shpVal N l.length (k, wd, ps)) (hw : w = if ps = [] then wx else wx.alloc (.cells (partCells ps) 150))
  (hs : ShpAt N l wx) (hsz : wx.heap.size = N + 1 + l.length) (hbel : Below B w0 wx) (hB : B ≤ N) (hnew : ∀ s ∈ l, s.1 ≠ k)
  (hK : ∀ w', ShpAt N (l ++ [(k, wd, ps)]) w' → w'.heap.size = w.heap.size → Below B w0 w' → wpList P ops Q rest (a.put o.dst undef) w') :
  wpList P ops Q (o :: rest) a w := by
 refine wpList_plain hg fun K' hK' => ?_
 have hbw : Below B w0 w := by
  rw [hw]; split
  ·exact hbel
  ·exact hbel.alloc (by omega) _
 have hsame : ∀ i, i < wx.heap.size → w.heap[i]? = wx.heap[i]? := by
  intro i hi; rw [hw]; split
  ·rfl
  ·exact Below.heap_alloc _ _ _ hi
 have hmap : w.heap[N]? = some (.map (shpEntries N 0 l).toArray l.length) := by rw [hsame N (by omega)]; exact hs.map
 have hf := findNow_new N k l 0 0 hnew
 have hc : (Instr.checkKey false 10000 kt (.int .i64 k)).run P w = .ok () w := MapKept.run_checkKey (k := .int .i64 k) hk rfl false 9999
 have hpush : (shpEntries N 0 l).toArray.push ⟨.int .i64 k, shpVal N l.length (k, wd, ps), l.length⟩ = (shpEntries N 0 (l ++ [(k, wd, ps)])).toArray := by
  simp [shpEntries_append, shpEntry]
 obtain ⟨E, hE⟩ : ∃ E, E = (shpEntries N 0 (l ++ [(k, wd, ps)])).toArray := ⟨_, rfl⟩
 rw [← hE] at hpush
 obtain ⟨w2, hw2⟩ : ∃ w2, w2 = { w with heap := w.heap.setIfInBounds N (.map E (l.length + 1)) } := ⟨_, rfl⟩
 have hrun : (Instr.mapUpdate t (.map (some N)) (.int .i64 k) (shpVal N l.length (k, wd, ps))).run P w = .ok () w2 := by
  simp only [Instr.mapUpdate, Sem.run_bind, run_underlying ht, MapKept.run_getObj_map hmap, hc, MapKept.run_findKey hk hf, hpush, MapKept.run_setObj_map _ hmap, Result.andThen, hw2]
 have hset := MapKept.heap_set (o' := .map E (l.length + 1)) hmap
 have h2 : w2.heap = w.heap.setIfInBounds N (.map E (l.length + 1)) := by rw [hw2]
 unfold Oper.wp
 simp [execOp, hop, hm, hx, hv, hrun, Result.andThen]
 refine hK' _ _ (hK _ ⟨?_, ?_⟩ (by rw [h2]; simp) ?_)
 ·rw [h2, hset.1, hE]; simp
 ·intro j hj hne
  rw [h2, hset.2 (N + 1 + j) (by omega)]
  by_cases hjl : j < l.length
  ·rw [List.getElem_append_left hjl] at hne
   simp only [List.getElem_append_left hjl]
   rw [hsame _ (by omega)]
   exact hs.parts j hjl hne
  ·have hjl' : j = l.length := by simp at hj; omega
   subst hjl'
   simp only [List.getElem_append_right (Nat.le_refl _), Nat.sub_self, List.getElem_cons_zero] at hne ⊢
   rw [hw, if_neg hne, ← hsz]
   exact (MapKept.heap_alloc wx _).1
 ·exact hbw.trans ⟨by rw [hw2], by rw [hw2], by rw [hw2], by rw [h2]; simp, fun i hi => by rw [h2]; exact hset.2 i (by omega)⟩

def shps : List Shp := [(1, wordB 1, [0, 4]), (2, wordB 2, [0, 5]), (3, wordB 3, [0]), (4, wordB 4, [0, 1]), (5, wordB 5, [0, 1, 2]), (6, wordB 6, [0, 1, 2]), (7, wordB 7, [0, 1, 2]), (8, wordB 8, [0, 1, 2]), (9, wordB 9, [0, 1, 2]), (10, wordB 10, [0, 1]),
 (11, wordB 11, [0]), (12, wordB 12, [0, 1, 7]), (13, wordB 13, [1, 7, 2]), (14, wordB 14, [0, 6]), (15, wordB 15, [1, 3]), (16, wordB 16, [3]), (17, wordB 17, [1]), (18, wordB 18, [1]), (19, wordB 19, [])]

theorem shapes_any (w : World) :
  Calls Tryz.prog 96 #[] w fun e w' => e = .returned (.map (some w.heap.size)) ∧ ShpAt w.heap.size shps w' ∧ Below w.heap.size w w' := by
 have hmm := @run_makeMap Tryz.prog
 have hs0 : ShpAt w.heap.size (shps.take 0) (w.alloc (.map #[] 0)) := ⟨by simpa [shpEntries] using (MapKept.heap_alloc w (.map #[] 0)).1, fun j h => absurd h (by simp)⟩
 have hz0 : (w.alloc (.map #[] 0)).heap.size = w.heap.size + 1 := by simp
 have hb0 : Below w.heap.size w (w.alloc (.map #[] 0)) := (Below.refl _ _).alloc (Nat.le_refl _) _
 go_enter Tryz.func96, Tryz.ntmps96
 go_wp2_with (first
  | (refine wpList_insert_shp (N := w.heap.size) (l := shps.take 0) (wx := (w.alloc (.map #[] 0))) (w0 := w) (B := w.heap.size) rfl _ _ _ 127 3 153 rfl Tryz.underlying127 Tryz.underlying3 1 (wordB 1) [0, 4] rfl rfl rfl rfl hs0 hz0 hb0 (Nat.le_refl _) (by decide) ?_; intro w1 hs1 hz1 hb1; replace hs1 : ShpAt w.heap.size (shps.take 1) w1 := hs1; replace hz1 : w1.heap.size = w.heap.size + 2 := by simpa [hz0] using hz1)
  | (refine wpList_insert_shp (N := w.heap.size) (l := shps.take 1) (wx := w1) (w0 := w) (B := w.heap.size) rfl _ _ _ 127 3 153 rfl Tryz.underlying127 Tryz.underlying3 2 (wordB 2) [0, 5] rfl rfl rfl rfl hs1 hz1 hb1 (Nat.le_refl _) (by decide) ?_; intro w2 hs2 hz2 hb2; replace hs2 : ShpAt w.heap.size (shps.take 2) w2 := hs2; replace hz2 : w2.heap.size = w.heap.size + 3 := by simpa [hz1] using hz2)
  | (refine wpList_insert_shp (N := w.heap.size) (l := shps.take 2) (wx := w2) (w0 := w) (B := w.heap.size) rfl _ _ _ 127 3 153 rfl Tryz.underlying127 Tryz.underlying3 3 (wordB 3) [0] rfl rfl rfl rfl hs2 hz2 hb2 (Nat.le_refl _) (by decide) ?_; intro w3 hs3 hz3 hb3; replace hs3 : ShpAt w.heap.size (shps.take 3) w3 := hs3; replace hz3 : w3.heap.size = w.heap.size + 4 := by simpa [hz2] using hz3)
  | (refine wpList_insert_shp (N := w.heap.size) (l := shps.take 3) (wx := w3) (w0 := w) (B := w.heap.size) rfl _ _ _ 127 3 153 rfl Tryz.underlying127 Tryz.underlying3 4 (wordB 4) [0, 1] rfl rfl rfl rfl hs3 hz3 hb3 (Nat.le_refl _) (by decide) ?_; intro w4 hs4 hz4 hb4; replace hs4 : ShpAt w.heap.size (shps.take 4) w4 := hs4; replace hz4 : w4.heap.size = w.heap.size + 5 := by simpa [hz3] using hz4)
  | (refine wpList_insert_shp (N := w.heap.size) (l := shps.take 4) (wx := w4) (w0 := w) (B := w.heap.size) rfl _ _ _ 127 3 153 rfl Tryz.underlying127 Tryz.underlying3 5 (wordB 5) [0, 1, 2] rfl rfl rfl rfl hs4 hz4 hb4 (Nat.le_refl _) (by decide) ?_; intro w5 hs5 hz5 hb5; replace hs5 : ShpAt w.heap.size (shps.take 5) w5 := hs5; replace hz5 : w5.heap.size = w.heap.size + 6 := by simpa [hz4] using hz5)
  | (refine wpList_insert_shp (N := w.heap.size) (l := shps.take 5) (wx := w5) (w0 := w) (B := w.heap.size) rfl _ _ _ 127 3 153 rfl Tryz.underlying127 Tryz.underlying3 6 (wordB 6) [0, 1, 2] rfl rfl rfl rfl hs5 hz5 hb5 (Nat.le_refl _) (by decide) ?_; intro w6 hs6 hz6 hb6; replace hs6 : ShpAt w.heap.size (shps.take 6) w6 := hs6; replace hz6 : w6.heap.size = w.heap.size + 7 := by simpa [hz5] using hz6)
  | (refine wpList_insert_shp (N := w.heap.size) (l := shps.take 6) (wx := w6) (w0 := w) (B := w.heap.size) rfl _ _ _ 127 3 153 rfl Tryz.underlying127 Tryz.underlying3 7 (wordB 7) [0, 1, 2] rfl rfl rfl rfl hs6 hz6 hb6 (Nat.le_refl _) (by decide) ?_; intro w7 hs7 hz7 hb7; replace hs7 : ShpAt w.heap.size (shps.take 7) w7 := hs7; replace hz7 : w7.heap.size = w.heap.size + 8 := by simpa [hz6] using hz7)
  | (refine wpList_insert_shp (N := w.heap.size) (l := shps.take 7) (wx := w7) (w0 := w) (B := w.heap.size) rfl _ _ _ 127 3 153 rfl Tryz.underlying127 Tryz.underlying3 8 (wordB 8) [0, 1, 2] rfl rfl rfl rfl hs7 hz7 hb7 (Nat.le_refl _) (by decide) ?_; intro w8 hs8 hz8 hb8; replace hs8 : ShpAt w.heap.size (shps.take 8) w8 := hs8; replace hz8 : w8.heap.size = w.heap.size + 9 := by simpa [hz7] using hz8)
  | (refine wpList_insert_shp (N := w.heap.size) (l := shps.take 8) (wx := w8) (w0 := w) (B := w.heap.size) rfl _ _ _ 127 3 153 rfl Tryz.underlying127 Tryz.underlying3 9 (wordB 9) [0, 1, 2] rfl rfl rfl rfl hs8 hz8 hb8 (Nat.le_refl _) (by decide) ?_; intro w9 hs9 hz9 hb9; replace hs9 : ShpAt w.heap.size (shps.take 9) w9 := hs9; replace hz9 : w9.heap.size = w.heap.size + 10 := by simpa [hz8] using hz9)
  | (refine wpList_insert_shp (N := w.heap.size) (l := shps.take 9) (wx := w9) (w0 := w) (B := w.heap.size) rfl _ _ _ 127 3 153 rfl Tryz.underlying127 Tryz.underlying3 10 (wordB 10) [0, 1] rfl rfl rfl rfl hs9 hz9 hb9 (Nat.le_refl _) (by decide) ?_; intro w10 hs10 hz10 hb10; replace hs10 : ShpAt w.heap.size (shps.take 10) w10 := hs10; replace hz10 : w10.heap.size = w.heap.size + 11 := by simpa [hz9] using hz10)
  | (refine wpList_insert_shp (N := w.heap.size) (l := shps.take 10) (wx := w10) (w0 := w) (B := w.heap.size) rfl _ _ _ 127 3 153 rfl Tryz.underlying127 Tryz.underlying3 11 (wordB 11) [0] rfl rfl rfl rfl hs10 hz10 hb10 (Nat.le_refl _) (by decide) ?_; intro w11 hs11 hz11 hb11; replace hs11 : ShpAt w.heap.size (shps.take 11) w11 := hs11; replace hz11 : w11.heap.size = w.heap.size + 12 := by simpa [hz10] using hz11)
  | (refine wpList_insert_shp (N := w.heap.size) (l := shps.take 11) (wx := w11) (w0 := w) (B := w.heap.size) rfl _ _ _ 127 3 153 rfl Tryz.underlying127 Tryz.underlying3 12 (wordB 12) [0, 1, 7] rfl rfl rfl rfl hs11 hz11 hb11 (Nat.le_refl _) (by decide) ?_; intro w12 hs12 hz12 hb12; replace hs12 : ShpAt w.heap.size (shps.take 12) w12 := hs12; replace hz12 : w12.heap.size = w.heap.size + 13 := by simpa [hz11] using hz12)
  | (refine wpList_insert_shp (N := w.heap.size) (l := shps.take 12) (wx := w12) (w0 := w) (B := w.heap.size) rfl _ _ _ 127 3 153 rfl Tryz.underlying127 Tryz.underlying3 13 (wordB 13) [1, 7, 2] rfl rfl rfl rfl hs12 hz12 hb12 (Nat.le_refl _) (by decide) ?_; intro w13 hs13 hz13 hb13; replace hs13 : ShpAt w.heap.size (shps.take 13) w13 := hs13; replace hz13 : w13.heap.size = w.heap.size + 14 := by simpa [hz12] using hz13)
  | (refine wpList_insert_shp (N := w.heap.size) (l := shps.take 13) (wx := w13) (w0 := w) (B := w.heap.size) rfl _ _ _ 127 3 153 rfl Tryz.underlying127 Tryz.underlying3 14 (wordB 14) [0, 6] rfl rfl rfl rfl hs13 hz13 hb13 (Nat.le_refl _) (by decide) ?_; intro w14 hs14 hz14 hb14; replace hs14 : ShpAt w.heap.size (shps.take 14) w14 := hs14; replace hz14 : w14.heap.size = w.heap.size + 15 := by simpa [hz13] using hz14)
  | (refine wpList_insert_shp (N := w.heap.size) (l := shps.take 14) (wx := w14) (w0 := w) (B := w.heap.size) rfl _ _ _ 127 3 153 rfl Tryz.underlying127 Tryz.underlying3 15 (wordB 15) [1, 3] rfl rfl rfl rfl hs14 hz14 hb14 (Nat.le_refl _) (by decide) ?_; intro w15 hs15 hz15 hb15; replace hs15 : ShpAt w.heap.size (shps.take 15) w15 := hs15; replace hz15 : w15.heap.size = w.heap.size + 16 := by simpa [hz14] using hz15)
  | (refine wpList_insert_shp (N := w.heap.size) (l := shps.take 15) (wx := w15) (w0 := w) (B := w.heap.size) rfl _ _ _ 127 3 153 rfl Tryz.underlying127 Tryz.underlying3 16 (wordB 16) [3] rfl rfl rfl rfl hs15 hz15 hb15 (Nat.le_refl _) (by decide) ?_; intro w16 hs16 hz16 hb16; replace hs16 : ShpAt w.heap.size (shps.take 16) w16 := hs16; replace hz16 : w16.heap.size = w.heap.size + 17 := by simpa [hz15] using hz16)
  | (refine wpList_insert_shp (N := w.heap.size) (l := shps.take 16) (wx := w16) (w0 := w) (B := w.heap.size) rfl _ _ _ 127 3 153 rfl Tryz.underlying127 Tryz.underlying3 17 (wordB 17) [1] rfl rfl rfl rfl hs16 hz16 hb16 (Nat.le_refl _) (by decide) ?_; intro w17 hs17 hz17 hb17; replace hs17 : ShpAt w.heap.size (shps.take 17) w17 := hs17; replace hz17 : w17.heap.size = w.heap.size + 18 := by simpa [hz16] using hz17)
  | (refine wpList_insert_shp (N := w.heap.size) (l := shps.take 17) (wx := w17) (w0 := w) (B := w.heap.size) rfl _ _ _ 127 3 153 rfl Tryz.underlying127 Tryz.underlying3 18 (wordB 18) [1] rfl rfl rfl rfl hs17 hz17 hb17 (Nat.le_refl _) (by decide) ?_; intro w18 hs18 hz18 hb18; replace hs18 : ShpAt w.heap.size (shps.take 18) w18 := hs18; replace hz18 : w18.heap.size = w.heap.size + 19 := by simpa [hz17] using hz18)
  | (refine wpList_insert_shp (N := w.heap.size) (l := shps.take 18) (wx := w18) (w0 := w) (B := w.heap.size) rfl _ _ _ 127 3 153 rfl Tryz.underlying127 Tryz.underlying3 19 (wordB 19) [] rfl rfl rfl rfl hs18 hz18 hb18 (Nat.le_refl _) (by decide) ?_; intro w19 hs19 hz19 hb19; replace hs19 : ShpAt w.heap.size (shps.take 19) w19 := hs19; replace hz19 : w19.heap.size = w.heap.size + 19 := by simpa [hz18] using hz19))
 go_ret
 exact ⟨rfl, hs19, hb19⟩

theorem ShpAt.below {B N : Nat} {l : List Shp} {w w' : World} (h : ShpAt N l w) (hb : Below B w w') (hB : w.heap.size ≤ B) : ShpAt N l w' := by
 have lt : ∀ {i : Nat} {o : Obj}, w.heap[i]? = some o → i < w.heap.size := fun h => (Array.getElem?_eq_some_iff.1 h).1
 exact ⟨by rw [hb.block _ (by have := lt h.map; omega)]; exact h.map, fun j hj hne => by rw [hb.block _ (by have := lt (h.parts j hj hne); omega)]; exact h.parts j hj hne⟩

theorem run_look {P : Program} {N : Nat} {w : World} {es : Array MapEntry} {clock : Nat} (t kt et : TypeId) (ht : P.underlying t = some (.map kt et)) (hk : P.underlying kt = some (.int .i64)) (hmap : w.heap[N]? = some (.map es clock))
  (k : Int) (i : Nat) (v : Value) (hf : Instr.findNow (.int .i64) (.int .i64 k) es.toList 0 = some (some (i, v))) : (Instr.lookup t (.map (some N)) (.int .i64 k) true).run P w = .ok (.tuple #[v, .bool true]) w := by
 have hc : ∀ e, (Instr.checkKey e 10000 kt (.int .i64 k)).run P w = .ok () w := fun e => MapKept.run_checkKey (k := .int .i64 k) hk rfl e 9999
 simp [Instr.lookup, run_underlying ht, MapKept.run_getObj_map hmap, hc, MapKept.run_findKey hk hf, Result.andThen]

theorem run_look_none {P : Program} {N : Nat} {w : World} {es : Array MapEntry} {clock : Nat} (t kt et : TypeId) (ht : P.underlying t = some (.map kt et)) (hk : P.underlying kt = some (.int .i64)) (hmap : w.heap[N]? = some (.map es clock))
  (z : Value) (hz : (zeroValue et).run P w = .ok z w) (k : Int) (hf : Instr.findNow (.int .i64) (.int .i64 k) es.toList 0 = some none) : (Instr.lookup t (.map (some N)) (.int .i64 k) true).run P w = .ok (.tuple #[z, .bool false]) w := by
 have hc : ∀ e, (Instr.checkKey e 10000 kt (.int .i64 k)).run P w = .ok () w := fun e => MapKept.run_checkKey (k := .int .i64 k) hk rfl e 9999
 simp [Instr.lookup, run_underlying ht, MapKept.run_getObj_map hmap, hc, MapKept.run_findKey hk hf, hz, Result.andThen]

theorem zeroShape (w : World) : (zeroValue 153).run Tryz.prog w = .ok (.agg #[.string ⟨#[]⟩, .slice none 0 0]) w := by kernel_rfl

/-- Of no kind there is no shape. -/
theorem look_no {N : Nat} {w : World} (h : ShpAt N shps w) (k : Int) (hk : btw k 1 19 = false) : (Instr.lookup 127 (.map (some N)) (.int .i64 k) true).run Tryz.prog w = .ok (.tuple #[.agg #[.string ⟨#[]⟩, .slice none 0 0], .bool false]) w := by
 refine run_look_none _ 3 153 Tryz.underlying127 Tryz.underlying3 h.map _ (zeroShape w) k (findNow_new N k shps 0 0 ?_)
 have : ¬ (1 ≤ k ∧ k ≤ 19) := by simpa [btw] using hk
 intro s hs
 simp only [shps, List.mem_cons, List.not_mem_nil, or_false] at hs
 rcases hs with rfl | rfl | rfl | rfl | rfl | rfl | rfl | rfl | rfl | rfl | rfl | rfl | rfl | rfl | rfl | rfl | rfl | rfl | rfl <;> simp only <;> omega

/-- Of kind k there is its own. -/
theorem look_at {N : Nat} {w : World} (h : ShpAt N shps w) (k : Int) (i : Nat) (v : Value) (hf : Instr.findNow (.int .i64) (.int .i64 k) (shpEntries N 0 shps) 0 = some (some (i, v))) : (Instr.lookup 127 (.map (some N)) (.int .i64 k) true).run Tryz.prog w = .ok (.tuple #[v, .bool true]) w :=
 run_look _ 3 153 Tryz.underlying127 Tryz.underlying3 h.map k i v hf
end
end Go.Proofs.YtmapdpcfanecdabGreat
