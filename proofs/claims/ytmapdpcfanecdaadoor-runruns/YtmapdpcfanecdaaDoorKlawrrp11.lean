/- The document's own answer: are two runs the same? -/
import Derived.Deep.AppendLies
import Derived.Laws.OwnMore
import Derived.Test.YtmapdpcfanecdaaDoorKlawrrp09
import Derived.Test.YtmapdpcfanecdaaDoorKlawrrp03
import Derived.Deep.QuietTactic
import Derived.BigQuiet
import Derived.Test.YtmapdpcfanecdaaDoorKlawrrp08
import Derived.Deep.RegionHeld3
import Derived.Deep.RegionHeldLaw
namespace Go.Proofs.YtmapdpcfanecdaaDoor
set_option linter.unusedVariables false
set_option linter.unusedSimpArgs false
open Go

section
variable {P : Program} (w : World)
theorem run_append_any (t ty : TypeId) (base : Nat) (e : TypeId) (i : TypeInfo) (z : Value) (size bytes : Nat) (ht : P.underlying t = some (.slice e)) (hi : P.info? e = some i) (hz : i.zero = some z)
    (hsize : i.size = size) (hby : i.bytes = bytes) (hzs : z.cells.size = size) (hsz : 0 < size)
    (v : Value) (n : Nat) (xs : List Value) (hown : w.ownsRow base e size v n xs)
    (ao : Option Addr) (m c : Nat) (news : List Value) (hl : news.length = m * size) (hao : ao = none → m = 0) (hnews : ∀ ad, ao = some ad → ∀ j u, news[j]? = some u → w.cell? (ad.add j) = some u) (h1 : ∀ u ∈ news, u.oneCell' = true)
    (h63 : n + m ≤ maxLen) (hbytes : (n + m) * bytes ≤ 140737488355328) (hbase : base ≤ w.heap.size) :
    ∃ v' w', (Builtin.append_ #[t, t] ty #[v, .slice ao m c]).run P w = .ok v' w' ∧ w'.ownsRow base e size v' (n + m) (xs ++ news) ∧ w.grownBy w' v.ownBlock ∧ (v'.ownBlock = v.ownBlock ∨ v'.ownBlock = some w.heap.size) := by
  cases ao with
  | some ad =>
    obtain ⟨v', w', hr, h2, h3, _, h5⟩ := run_append_own_at (P := P) w base t ty e i z size bytes ht hi hz hsize hby hzs hsz v n xs hown ad m c news hl (hnews ad rfl) h1 h63 hbytes hbase
    exact ⟨v', w', hr, h2, h3, h5⟩
  | none =>
    obtain rfl := hao rfl
    obtain rfl : news = [] := List.eq_nil_of_length_eq_zero (by simpa using hl)
    refine ⟨v, w, ?_, by simpa using hown, ⟨rfl, rfl, rfl, Nat.le_refl _, fun _ _ _ => rfl⟩, .inl rfl⟩
    rcases hown.2 with ⟨rfl, rfl⟩ | ⟨g, cap, cur, rfl, _, _, hnc, _⟩
    · simp [Builtin.append_, run_underlying ht, sizeOf, typeInfo, hi, Builtin.lenOf, Builtin.firstCells]
    · simp [Builtin.append_, run_underlying ht, sizeOf, typeInfo, hi, Builtin.lenOf, Builtin.firstCells, hnc, storeCells]

theorem wp_append_any {o : Oper} {a : Act} {K : Act → World → Prop} {Q : Exit → Act → World → Prop} (s x : Operand) (t : TypeId)
    (ho : o.op = .call { callee := .builtin .append, args := #[s, x], argTypes := #[t, t] })
    (base : Nat) (e : TypeId) (i : TypeInfo) (z : Value) (size bytes : Nat) (ht : P.underlying t = some (.slice e)) (hi : P.info? e = some i) (hz : i.zero = some z)
    (hsize : i.size = size) (hby : i.bytes = bytes) (hzs : z.cells.size = size) (hsz : 0 < size)
    (v : Value) (n : Nat) (xs : List Value) (hs : a.eval s = v) (hown : w.ownsRow base e size v n xs)
    (ao : Option Addr) (m c : Nat) (news : List Value) (hx : a.eval x = .slice ao m c) (hl : news.length = m * size) (hao : ao = none → m = 0) (hnews : ∀ ad, ao = some ad → ∀ j u, news[j]? = some u → w.cell? (ad.add j) = some u) (h1 : ∀ u ∈ news, u.oneCell' = true)
    (h63 : n + m ≤ maxLen) (hbytes : (n + m) * bytes ≤ 140737488355328) (hbase : base ≤ w.heap.size)
    (h : ∀ v' w', w'.ownsRow base e size v' (n + m) (xs ++ news) → w.grownBy w' v.ownBlock → (v'.ownBlock = v.ownBlock ∨ v'.ownBlock = some w.heap.size) → K (a.put o.dst v') w') : o.wp P a w K Q := by
  obtain ⟨v', w', hr, h2, h3, h4⟩ := run_append_any (P := P) w t o.type base e i z size bytes ht hi hz hsize hby hzs hsz v n xs hown ao m c news hl hao hnews h1 h63 hbytes hbase
  unfold Oper.wp execOp
  simp only [ho, resolve, invoke, builtin, Sem.run_bind, Sem.run_pure, Result.andThen_ok, List.map_toArray, List.map_cons, List.map_nil, hs, hx, hr]
  exact h v' w' h2 h3 h4

theorem wpList_append_any {ops : Array Oper} {rest : List Oper} {o : Oper} {a : Act} {Q : Exit → Act → World → Prop} (hgd : o.guard = none) (s x : Operand) (t : TypeId)
    (ho : o.op = .call { callee := .builtin .append, args := #[s, x], argTypes := #[t, t] })
    (base : Nat) (e : TypeId) (i : TypeInfo) (z : Value) (size bytes : Nat) (ht : P.underlying t = some (.slice e)) (hi : P.info? e = some i) (hz : i.zero = some z)
    (hsize : i.size = size) (hby : i.bytes = bytes) (hzs : z.cells.size = size) (hsz : 0 < size)
    (v : Value) (n : Nat) (xs : List Value) (hs : a.eval s = v) (hown : w.ownsRow base e size v n xs)
    (ao : Option Addr) (m c : Nat) (news : List Value) (hx : a.eval x = .slice ao m c) (hl : news.length = m * size) (hao : ao = none → m = 0) (hnews : ∀ ad, ao = some ad → ∀ j u, news[j]? = some u → w.cell? (ad.add j) = some u) (h1 : ∀ u ∈ news, u.oneCell' = true)
    (h63 : n + m ≤ maxLen) (hbytes : (n + m) * bytes ≤ 140737488355328) (hbase : base ≤ w.heap.size)
    (h : ∀ v' w', w'.ownsRow base e size v' (n + m) (xs ++ news) → w.grownBy w' v.ownBlock → (v'.ownBlock = v.ownBlock ∨ v'.ownBlock = some w.heap.size) → wpList P ops Q rest (a.put o.dst v') w') : wpList P ops Q (o :: rest) a w :=
  wpList_plain hgd fun _ hK => wp_append_any w s x t ho base e i z size bytes ht hi hz hsize hby hzs hsz v n xs hs hown ao m c news hx hl hao hnews h1 h63 hbytes hbase fun v' w' h2 h3 h4 => hK _ _ (h v' w' h2 h3 h4)

/-- At a step of a region that draws its order. -/
theorem step_append_any {ops : Array Oper} {o : Oper} {a : Act} {K : Act → World → Prop} {Q : Exit → Act → World → Prop} {E : Prop} (hgd : o.guard = none) (s x : Operand) (t : TypeId)
    (ho : o.op = .call { callee := .builtin .append, args := #[s, x], argTypes := #[t, t] })
    (base : Nat) (e : TypeId) (i : TypeInfo) (z : Value) (size bytes : Nat) (ht : P.underlying t = some (.slice e)) (hi : P.info? e = some i) (hz : i.zero = some z)
    (hsize : i.size = size) (hby : i.bytes = bytes) (hzs : z.cells.size = size) (hsz : 0 < size)
    (v : Value) (n : Nat) (xs : List Value) (hs : a.eval s = v) (hown : w.ownsRow base e size v n xs)
    (ao : Option Addr) (m c : Nat) (news : List Value) (hx : a.eval x = .slice ao m c) (hl : news.length = m * size) (hao : ao = none → m = 0) (hnews : ∀ ad, ao = some ad → ∀ j u, news[j]? = some u → w.cell? (ad.add j) = some u) (h1 : ∀ u ∈ news, u.oneCell' = true)
    (h63 : n + m ≤ maxLen) (hbytes : (n + m) * bytes ≤ 140737488355328) (hbase : base ≤ w.heap.size)
    (h : ∀ v' w', w'.ownsRow base e size v' (n + m) (xs ++ news) → w.grownBy w' v.ownBlock → (v'.ownBlock = v.ownBlock ∨ v'.ownBlock = some w.heap.size) → K (a.put o.dst v') w') :
    if Region.wanted o (yielded ops a.tmps) = true then Oper.wp P o a w K Q else E := by
  have hw : Region.wanted o (yielded ops a.tmps) = true := by simp [Region.wanted, hgd]
  rw [if_pos hw]
  exact wp_append_any w s x t ho base e i z size bytes ht hi hz hsize hby hzs hsz v n xs hs hown ao m c news hx hl hao hnews h1 h63 hbytes hbase h
end
end Go.Proofs.YtmapdpcfanecdaaDoor

namespace Go.Proofs.YtmapdpcfanecdaaDoor
set_option linter.unusedVariables false
set_option linter.unusedSimpArgs false
open Go.RowKit

/-- A value lies in block b, which may be written. -/
def VAt (w : World) (b : Nat) (v : Val) : Prop := (w.cell? ⟨b, 0, none⟩ = some (.int .i64 v.k) ∧ w.cell? ⟨b, 1, none⟩ = some (.int .i64 v.n)) ∧ b < w.heap.size ∧ ∀ j, w.frozen? ⟨b, j, none⟩ = false
section
variable {w w' : World} {B b c : Nat} {v u : Val}
theorem VAt.same (h : VAt w b v) (hb : w'.heap[b]? = w.heap[b]?) (hz : w.heap.size ≤ w'.heap.size) : VAt w' b v := by
  obtain ⟨⟨h0, h1⟩, h2, h3⟩ := h
  exact ⟨⟨by rw [World.cell?_of_block (a := ⟨b, 0, none⟩) hb]; exact h0, by rw [World.cell?_of_block (a := ⟨b, 1, none⟩) hb]; exact h1⟩, Nat.lt_of_lt_of_le h2 hz, fun j => by rw [World.frozen?_of_block (a := ⟨b, j, none⟩) hb]; exact h3 j⟩
theorem VAt.below (h : VAt w b v) (hb : Below B w w') (hB : b < B) : VAt w' b v := h.same (hb.block b hB) hb.size
theorem VAt.call (h : VAt w b v) (hb : Below w.heap.size w w') : VAt w' b v := h.below hb h.2.1
theorem VAt.new (w : World) (v : Val) : VAt (w.alloc (.cells #[.int .i64 v.k, .int .i64 v.n] 94)) w.heap.size v := by
  refine ⟨⟨?_, ?_⟩, by simp, fun j => ?_⟩ <;> simp [go_sem]
theorem VAt.put (h : VAt w b v) (u : Val) : VAt ((w.setCell ⟨b, 0, none⟩ (.int .i64 u.k)).setCell ⟨b, 1, none⟩ (.int .i64 u.n)) b u := by
  obtain ⟨⟨h0, h1⟩, h2, h3⟩ := h
  have e1 : (w.setCell ⟨b, 0, none⟩ (.int .i64 u.k)).cell? ⟨b, 1, none⟩ = some (.int .i64 v.n) := by rw [World.cell?_setCell_other _ _ _ _ (by intro e; cases e)]; exact h1
  refine ⟨⟨?_, World.cell?_setCell_same _ _ _ e1⟩, by simpa [World.setCell] using h2, fun j => by rw [World.frozen?_setCell, World.frozen?_setCell]; exact h3 j⟩
  rw [World.cell?_setCell_other _ _ _ _ (by intro e; cases e)]
  exact World.cell?_setCell_same _ _ _ h0
theorem VAt.set (h : VAt w b v) {a : Addr} (ha : a.block ≠ b) (x : Value) : VAt (w.setCell a x) b v := h.same (Below.heap_setCell _ _ _ _ (Ne.symm ha)) (by simp [World.setCell])
end
end Go.Proofs.YtmapdpcfanecdaaDoor

namespace Go.Proofs.YtmapdpcfanecdaaDoor
set_option linter.unusedVariables false
set_option linter.unusedSimpArgs false
open Go.RowKit

set_option maxHeartbeats 1000000 in
theorem sameInts_loop (b1 o1 c1 b2 o2 c2 : Nat) (l : List Int) (w : World) (h63 : l.length ≤ maxLen) (b1lt : b1 < w.heap.size) (b2lt : b2 < w.heap.size)
    (h1 : ∀ k (h : k < l.length), w.cell? ⟨b1, o1 + k, none⟩ = some (.int .i64 l[k])) (h2 : ∀ k (h : k < l.length), w.cell? ⟨b2, o2 + k, none⟩ = some (.int .i64 l[k])) :
    Calls Tryd.prog 15 #[.slice (some ⟨b1, o1, none⟩) l.length c1, .slice (some ⟨b2, o2, none⟩) l.length c2] w fun e w' => e = .returned (.bool true) ∧ Below w.heap.size w w' := by
  unfold maxLen at h63
  go_enter Tryd.func15, Tryd.ntmps15
  go_wp2
  go_loopw [5] (fun i wr => ∃ k : Nat, k ≤ l.length ∧ i = .int .i64 k ∧ Below w.heap.size w wr) (fun i _ => l.length - (intOf i).toNat)
  case atStart => exact ⟨0, Nat.zero_le _, rfl, Below.refl _ _⟩
  case round =>
    obtain ⟨k, hk, rfl, hb⟩ := hrel
    by_cases hlt : k < l.length
    · have n0 : (0 : Int) ≤ (k : Int) := by omega
      have n1 : (k : Int) < (l.length : Int) := by omega
      have q0 : wr.cell? ⟨b1, o1 + k, none⟩ = some (.int .i64 l[k]) := by rw [hb.cell (p := ⟨b1, _, none⟩) b1lt]; exact h1 k hlt
      have r0 : wr.cell? ⟨b2, o2 + k, none⟩ = some (.int .i64 l[k]) := by rw [hb.cell (p := ⟨b2, _, none⟩) b2lt]; exact h2 k hlt
      clear h1 h2
      go_wp2
      go_quiet (fail)
      go_wp2
      go_roundw
      case rel => exact ⟨k + 1, by omega, by go_num, below_drewN hb _⟩
      case measure => simp [intOf]; omega
    · go_wp2
      go_ret
      exact ⟨rfl, hb⟩

set_option maxHeartbeats 1000000 in
theorem sameInts_nil (s1 s2 : Option Addr) (c1 c2 : Nat) (w : World) :
    Calls Tryd.prog 15 #[.slice s1 0 c1, .slice s2 0 c2] w fun e w' => e = .returned (.bool true) ∧ Below w.heap.size w w' := by
  go_enter Tryd.func15, Tryd.ntmps15
  go_wp2
  go_rounds 1
  go_ret
  exact ⟨rfl, Below.refl _ _⟩

theorem sameInts_any (s1 s2 : Option Addr) (c1 c2 : Nat) (l : List Int) (w : World) (h63 : l.length ≤ maxLen) (h1 : IntsAt w s1 l) (h2 : IntsAt w s2 l) :
    Calls Tryd.prog 15 #[.slice s1 l.length c1, .slice s2 l.length c2] w fun e w' => e = .returned (.bool true) ∧ Below w.heap.size w w' := by
  rcases h1 with rfl | ⟨b1, o1, rfl, hb1, h1⟩
  · exact sameInts_nil s1 s2 c1 c2 w
  · rcases h2 with rfl | ⟨b2, o2, rfl, hb2, h2⟩
    · exact sameInts_nil _ s2 c1 c2 w
    · exact sameInts_loop b1 o1 c1 b2 o2 c2 l w h63 hb1 hb2 h1 h2

end Go.Proofs.YtmapdpcfanecdaaDoor

namespace Go.Proofs.YtmapdpcfanecdaaDoor
set_option linter.unusedVariables false
set_option linter.unusedSimpArgs false
open Go.RowKit

set_option maxHeartbeats 1000000 in
theorem sameValues_loop (b1 o1 c1 b2 o2 c2 : Nat) (l : List Val) (w : World) (h63 : l.length ≤ maxLen) (b1lt : b1 < w.heap.size) (b2lt : b2 < w.heap.size)
    (h1 : ∀ k (h : k < l.length), w.cell? ⟨b1, o1 + k * 2, none⟩ = some (.int .i64 l[k].k) ∧ w.cell? ⟨b1, o1 + k * 2 + 1, none⟩ = some (.int .i64 l[k].n)) (h2 : ∀ k (h : k < l.length), w.cell? ⟨b2, o2 + k * 2, none⟩ = some (.int .i64 l[k].k) ∧ w.cell? ⟨b2, o2 + k * 2 + 1, none⟩ = some (.int .i64 l[k].n)) :
    Calls Tryd.prog 86 #[.slice (some ⟨b1, o1, none⟩) l.length c1, .slice (some ⟨b2, o2, none⟩) l.length c2] w fun e w' => e = .returned (.bool true) ∧ Below w.heap.size w w' := by
  unfold maxLen at h63
  go_enter Tryd.func86, Tryd.ntmps86
  go_wp2
  go_loopw [5] (fun i wr => ∃ k : Nat, k ≤ l.length ∧ i = .int .i64 k ∧ Below w.heap.size w wr) (fun i _ => l.length - (intOf i).toNat)
  case atStart => exact ⟨0, Nat.zero_le _, rfl, Below.refl _ _⟩
  case round =>
    obtain ⟨k, hk, rfl, hb⟩ := hrel
    by_cases hlt : k < l.length
    · have n0 : (0 : Int) ≤ (k : Int) := by omega
      have n1 : (k : Int) < (l.length : Int) := by omega
      have ⟨q0, q1⟩ : wr.cell? ⟨b1, o1 + k * 2, none⟩ = some (.int .i64 l[k].k) ∧ wr.cell? ⟨b1, o1 + k * 2 + 1, none⟩ = some (.int .i64 l[k].n) := by rw [hb.cell (p := ⟨b1, _, none⟩) b1lt, hb.cell (p := ⟨b1, _, none⟩) b1lt]; exact h1 k hlt
      have ⟨r0, r1⟩ : wr.cell? ⟨b2, o2 + k * 2, none⟩ = some (.int .i64 l[k].k) ∧ wr.cell? ⟨b2, o2 + k * 2 + 1, none⟩ = some (.int .i64 l[k].n) := by rw [hb.cell (p := ⟨b2, _, none⟩) b2lt, hb.cell (p := ⟨b2, _, none⟩) b2lt]; exact h2 k hlt
      clear h1 h2
      go_wp2
      go_quiet (fail)
      go_wp2
      go_roundw
      case rel => exact ⟨k + 1, by omega, by go_num, below_drewN hb _⟩
      case measure => simp [intOf]; omega
    · go_wp2
      go_ret
      exact ⟨rfl, hb⟩

set_option maxHeartbeats 1000000 in
theorem sameValues_nil (s1 s2 : Option Addr) (c1 c2 : Nat) (w : World) :
    Calls Tryd.prog 86 #[.slice s1 0 c1, .slice s2 0 c2] w fun e w' => e = .returned (.bool true) ∧ Below w.heap.size w w' := by
  go_enter Tryd.func86, Tryd.ntmps86
  go_wp2
  go_rounds 1
  go_ret
  exact ⟨rfl, Below.refl _ _⟩

theorem sameValues_any (s1 s2 : Option Addr) (c1 c2 : Nat) (l : List Val) (w : World) (h63 : l.length ≤ maxLen) (h1 : ValsAt w s1 l) (h2 : ValsAt w s2 l) :
    Calls Tryd.prog 86 #[.slice s1 l.length c1, .slice s2 l.length c2] w fun e w' => e = .returned (.bool true) ∧ Below w.heap.size w w' := by
  rcases h1 with rfl | ⟨b1, o1, rfl, hb1, h1⟩
  · exact sameValues_nil s1 s2 c1 c2 w
  · rcases h2 with rfl | ⟨b2, o2, rfl, hb2, h2⟩
    · exact sameValues_nil _ s2 c1 c2 w
    · exact sameValues_loop b1 o1 c1 b2 o2 c2 l w h63 hb1 hb2 h1 h2
end Go.Proofs.YtmapdpcfanecdaaDoor

namespace Go.Proofs.YtmapdpcfanecdaaDoor
set_option linter.unusedVariables false
set_option linter.unusedSimpArgs false
open Go.RowKit

theorem intsAt_own {w : World} {B : Nat} {v : Value} {l : List Int} (h : w.ownsRow B 3 1 v l.length (l.map (.int .i64))) : ∃ s cap, v = .slice s l.length cap ∧ IntsAt w s l := by
  cases l with
  | nil =>
    rcases h.2 with ⟨rfl, _⟩ | ⟨g, cap, cur, rfl, _⟩
    · exact ⟨_, _, rfl, .inl rfl⟩
    · exact ⟨_, _, rfl, .inl rfl⟩
  | cons x r =>
    obtain ⟨g, cap, rfl, hb, hlt⟩ := h.form (by simp)
    refine ⟨_, _, rfl, .inr ⟨g, 0, rfl, hlt, fun k hk => ?_⟩⟩
    rw [h.cellAt _ (by omega), Nat.zero_add, List.getElem?_map, List.getElem?_eq_getElem hk]
    rfl

set_option maxHeartbeats 2000000 in
set_option maxRecDepth 20000 in
theorem codePrints_of (V F : Int) (s : Option Addr) (len cap : Nat) (ck : Int) (TA : ByteArray) (HL : List Int) (w : World) (hlen : HL.length ≤ maxLen)
    (hBe : ∀ w', Below w.heap.size w w' → Calls Tryd.prog 13 #[] w' fun e w'' => e = .returned (.bool true) ∧ Below w'.heap.size w' w'')
    (hPr : ∀ w', Below w.heap.size w w' → Calls Tryd.prog 8 #[.agg #[.int .i64 V, .int .i64 F, .slice s len cap]] w' fun e w'' => e = .returned (.tuple #[.string TA, .int .i64 ck]) ∧ Below w'.heap.size w' w'')
    (hHd : ∀ w', Below w.heap.size w w' → Calls Tryd.prog 9 #[.agg #[.int .i64 V, .int .i64 F, .slice s len cap]] w' fun e w'' => ∃ v, e = .returned (.tuple #[v, .int .i64 ck]) ∧ w''.ownsRow w'.heap.size 3 1 v HL.length (HL.map (.int .i64)) ∧ Below w'.heap.size w' w'')
    (hCp : ∀ w', Below w.heap.size w w' → Calls Tryd.prog 10 #[.agg #[.int .i64 V, .int .i64 F, .slice s len cap]] w' fun e w'' => e = .returned (.int .i64 ck) ∧ Below w'.heap.size w' w'')
    (hCk : ∀ w', Below w.heap.size w w' → Calls Tryd.prog 14 #[.agg #[.int .i64 V, .int .i64 F, .slice s len cap]] w' fun e w'' => e = .returned (.int .i64 ck) ∧ Below w'.heap.size w' w'')
    (hPo : ck = 0 → ∀ w', Below w.heap.size w w' → Calls Tryd.prog 11 #[.agg #[.int .i64 V, .int .i64 F, .slice s len cap]] w' fun e w'' => e = .returned (.string TA) ∧ Below w'.heap.size w' w'')
    (hHo : ck = 0 → ∀ w', Below w.heap.size w w' → Calls Tryd.prog 12 #[.agg #[.int .i64 V, .int .i64 F, .slice s len cap]] w' fun e w'' => ∃ v, e = .returned v ∧ w''.ownsRow w'.heap.size 3 1 v HL.length (HL.map (.int .i64)) ∧ Below w'.heap.size w' w'')
    (hne : ck ≠ 0 → TA = ⟨#[]⟩ ∧ HL = []) :
    Calls Tryd.prog 3 #[.agg #[.int .i64 V, .int .i64 F, .slice s len cap]] w fun e w' => e = .returned (.bool true) ∧ Below w.heap.size w w' := by
  have h0 : Below w.heap.size w (w.alloc (.cells #[.int .i64 V, .int .i64 F, .slice s len cap] 24)) := by go_grown
  have K : ∀ wx, Below (w.heap.size + 1) (w.alloc (.cells #[.int .i64 V, .int .i64 F, .slice s len cap] 24)) wx → wx.cell? ⟨w.heap.size, 0, none⟩ = some (.int .i64 V) ∧ wx.cell? ⟨w.heap.size, 1, none⟩ = some (.int .i64 F) ∧ wx.cell? ⟨w.heap.size, 2, none⟩ = some (.slice s len cap) := by
    intro wx hb
    rw [hb.cell (by simp), hb.cell (by simp), hb.cell (by simp)]
    simp [go_sem]
  go_enter Tryd.func3, Tryd.ntmps3
  go_wp2_with (go_at_call 8; fail)
  refine (hPr _ h0).mono ?_
  rintro e w1 ⟨rfl, hb1⟩
  have HB1 : Below (w.heap.size + 1) (w.alloc (.cells #[.int .i64 V, .int .i64 F, .slice s len cap] 24)) w1 := hb1.mono (by simp)
  have H1 : Below w.heap.size w w1 := h0.trans (HB1.mono (by omega))
  have z1 : w.heap.size < w1.heap.size := by have := HB1.size; simp at this; omega
  obtain ⟨p0, p1, p2⟩ := K w1 HB1
  go_wp2_with (go_at_call 9; fail)
  refine (hHd _ H1).mono ?_
  rintro e w2 ⟨v2, rfl, hown2, hb2⟩
  have HB2 : Below (w.heap.size + 1) (w.alloc (.cells #[.int .i64 V, .int .i64 F, .slice s len cap] 24)) w2 := HB1.trans (hb2.mono (by omega))
  have H2 : Below w.heap.size w w2 := h0.trans (HB2.mono (by omega))
  have z2 : w.heap.size < w2.heap.size := by have := HB2.size; simp at this; omega
  clear p0 p1 p2
  obtain ⟨p0, p1, p2⟩ := K w2 HB2
  obtain ⟨s2, cap2, rfl, hi2⟩ := intsAt_own hown2
  clear hPr hHd hb1 hb2
  go_wp2_with (go_at_call 10; fail)
  refine (hCp _ H2).mono ?_
  rintro e w3 ⟨rfl, hb3⟩
  have HB3 : Below (w.heap.size + 1) (w.alloc (.cells #[.int .i64 V, .int .i64 F, .slice s len cap] 24)) w3 := HB2.trans (hb3.mono (by omega))
  have H3 : Below w.heap.size w w3 := h0.trans (HB3.mono (by omega))
  have z3 : w.heap.size < w3.heap.size := by have := HB3.size; simp at this; omega
  have hi3 : IntsAt w3 s2 HL := hi2.below hb3 (Nat.le_refl _)
  clear p0 p1 p2
  obtain ⟨p0, p1, p2⟩ := K w3 HB3
  clear hCp hb3 hi2 hown2
  by_cases hz : ck = 0
  · subst hz
    have hPz := hPo rfl
    have hHz := hHo rfl
    clear hne hPo hHo
    go_wp2
    go_region_held3 (fun w' => w'.cell? ⟨w.heap.size, 0, none⟩ = some (.int .i64 V) ∧ w'.cell? ⟨w.heap.size, 1, none⟩ = some (.int .i64 F) ∧ w'.cell? ⟨w.heap.size, 2, none⟩ = some (.slice s len cap))
      (first | exact K _ HB3.drew | exact K _ HB5 | exact K _ HB4)
      (first
        | (go_at_call 11; refine (hPz _ H3.drew).mono ?_; rintro e w4 ⟨rfl, hb4⟩; have HB4 : Below (w.heap.size + 1) (w.alloc (.cells #[.int .i64 V, .int .i64 F, .slice s len cap] 24)) w4 := HB3.drew.trans (hb4.mono z3))
        | (go_at_call 12; refine (hHz _ (h0.trans (HB4.mono (Nat.le_succ _)))).mono ?_; rintro e w5 ⟨v5, rfl, hown5, hb5⟩; obtain ⟨s5, cap5, rfl, hi5⟩ := intsAt_own hown5; have HB5 : Below (w.heap.size + 1) (w.alloc (.cells #[.int .i64 V, .int .i64 F, .slice s len cap] 24)) w5 := HB4.trans (hb5.mono (by have := HB4.size; simp at this; omega))))
    have H5 : Below w.heap.size w w5 := h0.trans (HB5.mono (by omega))
    have z5 : w.heap.size < w5.heap.size := by have := HB5.size; simp at this; omega
    have hi3' : IntsAt w5 s2 HL := (hi3.below ((Below.refl w3.heap.size w3).drew.trans hb4) (Nat.le_refl _)).below hb5 (Nat.le_refl _)
    clear p0 p1 p2 hPz hHz hb4 hb5 hi3
    go_wp2_with (go_at_call 13; fail)
    refine (hBe _ H5).mono ?_
    rintro e w6 ⟨rfl, hb6⟩
    have HB6 : Below (w.heap.size + 1) (w.alloc (.cells #[.int .i64 V, .int .i64 F, .slice s len cap] 24)) w6 := HB5.trans (hb6.mono (by omega))
    have H6 : Below w.heap.size w w6 := h0.trans (HB6.mono (by omega))
    have z6 : w.heap.size < w6.heap.size := by have := HB6.size; simp at this; omega
    obtain ⟨p0, p1, p2⟩ := K w6 HB6
    go_wp2_with (go_at_call 14; fail)
    refine (hCk _ H6).mono ?_
    rintro e w7 ⟨rfl, hb7⟩
    have HB7 : Below (w.heap.size + 1) (w.alloc (.cells #[.int .i64 V, .int .i64 F, .slice s len cap] 24)) w7 := HB6.trans (hb7.mono (by omega))
    have H7 : Below w.heap.size w w7 := h0.trans (HB7.mono (by omega))
    clear hBe hCk p0 p1 p2
    have i1 : IntsAt w7 s2 HL := (hi3'.below hb6 (Nat.le_refl _)).below hb7 (Nat.le_refl _)
    have i2 : IntsAt w7 s5 HL := (hi5.below hb6 (Nat.le_refl _)).below hb7 (Nat.le_refl _)
    go_wp2_with (go_at_call 15; fail)
    refine (sameInts_any _ _ _ _ HL _ hlen i1 i2).mono ?_
    rintro e w8 ⟨rfl, hb8⟩
    go_wp2
    go_ret
    exact ⟨rfl, H7.trans (hb8.mono H7.size)⟩
  · obtain ⟨rfl, rfl⟩ := hne hz
    clear hPo hHo hne p0 p1 p2
    go_wp2_with (go_at_call 13; fail)
    refine (hBe _ H3).mono ?_
    rintro e w6 ⟨rfl, hb6⟩
    have HB6 : Below (w.heap.size + 1) (w.alloc (.cells #[.int .i64 V, .int .i64 F, .slice s len cap] 24)) w6 := HB3.trans (hb6.mono (by omega))
    have H6 : Below w.heap.size w w6 := h0.trans (HB6.mono (by omega))
    have z6 : w.heap.size < w6.heap.size := by have := HB6.size; simp at this; omega
    obtain ⟨p0, p1, p2⟩ := K w6 HB6
    go_wp2_with (go_at_call 14; fail)
    refine (hCk _ H6).mono ?_
    rintro e w7 ⟨rfl, hb7⟩
    have HB7 : Below (w.heap.size + 1) (w.alloc (.cells #[.int .i64 V, .int .i64 F, .slice s len cap] 24)) w7 := HB6.trans (hb7.mono (by omega))
    have H7 : Below w.heap.size w w7 := h0.trans (HB7.mono (by omega))
    clear hBe hCk p0 p1 p2
    go_wp2_with (go_at_call 15; fail)
    refine (sameInts_nil _ _ _ _ _).mono ?_
    rintro e w8 ⟨rfl, hb8⟩
    go_wp2
    go_ret
    exact ⟨rfl, H7.trans (hb8.mono H7.size)⟩
end Go.Proofs.YtmapdpcfanecdaaDoor

namespace Go.Proofs.YtmapdpcfanecdaaDoor
set_option linter.unusedVariables false
set_option linter.unusedSimpArgs false
open Go.RowKit

set_option maxHeartbeats 4000000 in
set_option maxRecDepth 20000 in
theorem sameRun_any (r : St) (vs1 : Option Addr) (vc1 : Nat) (ts1 : Option Addr) (tc1 : Nat) (ls1 : Option Addr) (lc1 : Nat) (vs2 : Option Addr) (vc2 : Nat) (ts2 : Option Addr) (tc2 : Nat) (ls2 : Option Addr) (lc2 : Nat) (w : World) (hl : LenSt r) (h1 : RunAt w r vs1 ts1 ls1) (h2 : RunAt w r vs2 ts2 ls2) :
    Calls Tryd.prog 59 #[runV r vs1 vc1 ts1 tc1 ls1 lc1, runV r vs2 vc2 ts2 tc2 ls2 lc2] w fun e w' => e = .returned (.bool true) ∧ Below w.heap.size w w' := by
  obtain ⟨hl1, hl2, hl3, hl4⟩ := hl
  have hm : maxLen ≤ 9223372036854775807 := by decide
  have hb0 : Below w.heap.size w ((w.alloc (.cells #[.int .i64 r.at_, .slice vs1 r.vars.length vc1, .slice ts1 r.things.length tc1, .int .i64 r.taken, .slice ls1 r.lines.length lc1, .int .i64 r.fin] 46)).alloc (.cells #[.int .i64 r.at_, .slice vs2 r.vars.length vc2, .slice ts2 r.things.length tc2, .int .i64 r.taken, .slice ls2 r.lines.length lc2, .int .i64 r.fin] 46)) := by go_grown
  have hA : ∀ wx, Below ((w.alloc (.cells #[.int .i64 r.at_, .slice vs1 r.vars.length vc1, .slice ts1 r.things.length tc1, .int .i64 r.taken, .slice ls1 r.lines.length lc1, .int .i64 r.fin] 46)).alloc (.cells #[.int .i64 r.at_, .slice vs2 r.vars.length vc2, .slice ts2 r.things.length tc2, .int .i64 r.taken, .slice ls2 r.lines.length lc2, .int .i64 r.fin] 46)).heap.size ((w.alloc (.cells #[.int .i64 r.at_, .slice vs1 r.vars.length vc1, .slice ts1 r.things.length tc1, .int .i64 r.taken, .slice ls1 r.lines.length lc1, .int .i64 r.fin] 46)).alloc (.cells #[.int .i64 r.at_, .slice vs2 r.vars.length vc2, .slice ts2 r.things.length tc2, .int .i64 r.taken, .slice ls2 r.lines.length lc2, .int .i64 r.fin] 46)) wx → (wx.cell? ⟨w.heap.size, 2, none⟩ = some (.slice ts1 r.things.length tc1) ∧ wx.cell? ⟨w.heap.size + 1, 2, none⟩ = some (.slice ts2 r.things.length tc2)) ∧ (wx.cell? ⟨w.heap.size, 4, none⟩ = some (.slice ls1 r.lines.length lc1) ∧ wx.cell? ⟨w.heap.size + 1, 4, none⟩ = some (.slice ls2 r.lines.length lc2)) := by
    intro wx hx
    rw [hx.cell (by simp; omega), hx.cell (by simp), hx.cell (by simp; omega), hx.cell (by simp)]
    refine ⟨⟨?_, ?_⟩, ?_, ?_⟩ <;> simp [go_sem]
  have hR1 := h1.below hb0 (Nat.le_refl _)
  have hR2 := h2.below hb0 (Nat.le_refl _)
  clear h1 h2
  unfold runV
  go_enter Tryd.func59, Tryd.ntmps59
  go_wp2_with (go_at_call 86; fail)
  have hS := sameValues_any vs1 vs2 vc1 vc2 r.vars _ hl1 hR1.1 hR2.1
  refine hS.mono ?_
  rintro e w1 ⟨rfl, hb1⟩
  clear hS
  have T1 := hR1.2.1.below hb1 (Nat.le_refl _)
  have T2 := hR2.2.1.below hb1 (Nat.le_refl _)
  have L1 := hR1.2.2.below hb1 (Nat.le_refl _)
  have L2 := hR2.2.2.below hb1 (Nat.le_refl _)
  have H1 := hb0.trans (hb1.mono hb0.size)
  have z1 : w.heap.size + 1 < w1.heap.size := by have := hb1.size; simp at this; omega
  obtain ⟨⟨a2, b2⟩, a4, b4⟩ := hA w1 hb1
  clear hA hR1 hR2 hb1 hb0
  go_wp2
  go_loopw [5] (fun i wr => ∃ k : Nat, k ≤ r.things.length ∧ i = .int .i64 k ∧ Below w1.heap.size w1 wr) (fun i _ => r.things.length - (intOf i).toNat)
  case atStart => exact ⟨0, Nat.zero_le _, rfl, Below.refl _ _⟩
  case round =>
    obtain ⟨k, hk, rfl, hbr⟩ := hrel
    have a2r : wr.cell? ⟨w.heap.size, 2, none⟩ = some (.slice ts1 r.things.length tc1) := by rw [hbr.cell (by simp; omega)]; exact a2
    have b2r : wr.cell? ⟨w.heap.size + 1, 2, none⟩ = some (.slice ts2 r.things.length tc2) := by rw [hbr.cell (by simpa using z1)]; exact b2
    by_cases hlt : k < r.things.length
    · have n0 : (0 : Int) ≤ (k : Int) := by omega
      have n1 : (k : Int) < (r.things.length : Int) := by omega
      rcases T1 with T1 | ⟨p1, q1, rfl, hp1, hT1⟩
      · rw [T1] at hlt; simp at hlt
      rcases T2 with T2 | ⟨p2, q2, rfl, hp2, hT2⟩
      · rw [T2] at hlt; simp at hlt
      obtain ⟨s1, f1, fc1, g1, V1⟩ := hT1 k hlt
      obtain ⟨s2, f2, fc2, g2, V2⟩ := hT2 k hlt
      have hfl := hl4 _ (List.getElem_mem hlt)
      generalize r.things[k].site = st at *
      generalize r.things[k].fs = fl at *
      have KS : ∀ wx, Below w1.heap.size w1 wx → (fun wx => wx.cell? ⟨w.heap.size, 2, none⟩ = some (.slice (some ⟨p1, q1, none⟩) r.things.length tc1) ∧ wx.cell? ⟨w.heap.size + 1, 2, none⟩ = some (.slice (some ⟨p2, q2, none⟩) r.things.length tc2) ∧ wx.cell? ⟨p1, q1 + k * 2, none⟩ = some (.int .i64 st) ∧ wx.cell? ⟨p2, q2 + k * 2, none⟩ = some (.int .i64 st) ∧ wx.cell? ⟨p1, q1 + k * 2 + 1, none⟩ = some (.slice f1 fl.length fc1) ∧ wx.cell? ⟨p2, q2 + k * 2 + 1, none⟩ = some (.slice f2 fl.length fc2)) wx := fun wx hx => ⟨by rw [hx.cell (by simp; omega)]; exact a2, by rw [hx.cell (by simpa using z1)]; exact b2, by rw [hx.cell (by simpa using hp1)]; exact s1, by rw [hx.cell (by simpa using hp2)]; exact s2, by rw [hx.cell (by simpa using hp1)]; exact g1, by rw [hx.cell (by simpa using hp2)]; exact g2⟩
      clear hT1 hT2 s1 s2 g1 g2
      go_wp2
      refine wp_region_held_drew (S := fun wx => wx.cell? ⟨w.heap.size, 2, none⟩ = some (.slice (some ⟨p1, q1, none⟩) r.things.length tc1) ∧ wx.cell? ⟨w.heap.size + 1, 2, none⟩ = some (.slice (some ⟨p2, q2, none⟩) r.things.length tc2) ∧ wx.cell? ⟨p1, q1 + k * 2, none⟩ = some (.int .i64 st) ∧ wx.cell? ⟨p2, q2 + k * 2, none⟩ = some (.int .i64 st) ∧ wx.cell? ⟨p1, q1 + k * 2 + 1, none⟩ = some (.slice f1 fl.length fc1) ∧ wx.cell? ⟨p2, q2 + k * 2 + 1, none⟩ = some (.slice f2 fl.length fc2)) (by kernel_rfl) (KS _ hbr.drew) (fun hHeld => ?_)
      have hbd := hbr.drew
      clear hbr a2r b2r
      generalize wr.drew = wd at *
      refine wpAnyH_take (i := 0) (v := ?_) rfl (by kernel_rfl) (by kernel_rfl) (by kernel_rfl) (fun _ _ _ h => h) (Or.inl ⟨?_, ?_⟩) (by assumption) ?_
      rotate_left
      · rfl
      · (intro w hSw; (try dsimp only at hSw); first | (go_simp; done) | (go_simp; with_reducible rfl))
      (try simp only [Act.put, List.getElem_toArray, List.getElem_cons_zero, List.getElem_cons_succ, List.setIfInBounds_toArray, List.set_cons_zero, List.set_cons_succ])
      refine wpAnyH_take (i := 1) (v := ?_) rfl (by kernel_rfl) (by kernel_rfl) (by kernel_rfl) (fun _ _ _ h => h) (Or.inl ⟨?_, ?_⟩) (by assumption) ?_
      rotate_left
      · rfl
      · (intro w hSw; (try dsimp only at hSw); first | (go_simp; done) | (go_simp; with_reducible rfl))
      (try simp only [Act.put, List.getElem_toArray, List.getElem_cons_zero, List.getElem_cons_succ, List.setIfInBounds_toArray, List.set_cons_zero, List.set_cons_succ])
      refine wpAnyH_take (i := 2) (v := ?_) rfl (by kernel_rfl) (by kernel_rfl) (by kernel_rfl) (fun _ _ _ h => h) (Or.inl ⟨?_, ?_⟩) (by assumption) ?_
      rotate_left
      · rfl
      · (intro w hSw; (try dsimp only at hSw); first | (go_simp; done) | (go_simp; with_reducible rfl))
      (try simp only [Act.put, List.getElem_toArray, List.getElem_cons_zero, List.getElem_cons_succ, List.setIfInBounds_toArray, List.set_cons_zero, List.set_cons_succ])
      refine wpAnyH_take (i := 3) (v := ?_) rfl (by kernel_rfl) (by kernel_rfl) (by kernel_rfl) (fun _ _ _ h => h) (Or.inl ⟨?_, ?_⟩) (by assumption) ?_
      rotate_left
      · rfl
      · (intro w hSw; (try dsimp only at hSw); first | (go_simp; done) | (go_simp; with_reducible rfl))
      (try simp only [Act.put, List.getElem_toArray, List.getElem_cons_zero, List.getElem_cons_succ, List.setIfInBounds_toArray, List.set_cons_zero, List.set_cons_succ])
      refine wpAnyH_take (i := 4) (v := ?_) rfl (by kernel_rfl) (by kernel_rfl) (by kernel_rfl) (fun _ _ _ h => h) (Or.inl ⟨?_, ?_⟩) (by assumption) ?_
      rotate_left
      · rfl
      · (intro w hSw; (try dsimp only at hSw); first | (go_simp; done) | (go_simp; with_reducible rfl))
      (try simp only [Act.put, List.getElem_toArray, List.getElem_cons_zero, List.getElem_cons_succ, List.setIfInBounds_toArray, List.set_cons_zero, List.set_cons_succ])
      refine wpAnyH_take (i := 5) (v := ?_) rfl (by kernel_rfl) (by kernel_rfl) (by kernel_rfl) (fun _ _ _ h => h) (Or.inl ⟨?_, ?_⟩) (by assumption) ?_
      rotate_left
      · rfl
      · (intro w hSw; (try dsimp only at hSw); first | (go_simp; done) | (go_simp; with_reducible rfl))
      (try simp only [Act.put, List.getElem_toArray, List.getElem_cons_zero, List.getElem_cons_succ, List.setIfInBounds_toArray, List.set_cons_zero, List.set_cons_succ])
      refine wpAnyH_take (i := 6) (v := ?_) rfl (by kernel_rfl) (by kernel_rfl) (by kernel_rfl) (fun _ _ _ h => h) (Or.inl ⟨?_, ?_⟩) (by assumption) ?_
      rotate_left
      · rfl
      · (intro w hSw; (try dsimp only at hSw); first | (go_simp; done) | (go_simp; with_reducible rfl))
      (try simp only [Act.put, List.getElem_toArray, List.getElem_cons_zero, List.getElem_cons_succ, List.setIfInBounds_toArray, List.set_cons_zero, List.set_cons_succ])
      refine wpAnyH_take (i := 7) (v := ?_) rfl (by kernel_rfl) (by kernel_rfl) (by kernel_rfl) (fun _ _ _ h => h) (Or.inl ⟨?_, ?_⟩) (by assumption) ?_
      rotate_left
      · rfl
      · (intro w hSw; (try dsimp only at hSw); first | (go_simp; done) | (go_simp; with_reducible rfl))
      (try simp only [Act.put, List.getElem_toArray, List.getElem_cons_zero, List.getElem_cons_succ, List.setIfInBounds_toArray, List.set_cons_zero, List.set_cons_succ])
      refine wpAnyH_take (i := 8) (v := ?_) rfl (by kernel_rfl) (by kernel_rfl) (by kernel_rfl) (fun _ _ _ h => h) (Or.inl ⟨?_, ?_⟩) (by assumption) ?_
      rotate_left
      · rfl
      · (intro w hSw; (try dsimp only at hSw); first | (go_simp; done) | (go_simp; with_reducible rfl))
      (try simp only [Act.put, List.getElem_toArray, List.getElem_cons_zero, List.getElem_cons_succ, List.setIfInBounds_toArray, List.set_cons_zero, List.set_cons_succ])
      refine wpAnyH_take (i := 9) (v := ?_) rfl (by kernel_rfl) (by kernel_rfl) (by kernel_rfl) (fun _ _ _ h => h) (Or.inl ⟨?_, ?_⟩) (by assumption) ?_
      rotate_left
      · rfl
      · (intro w hSw; (try dsimp only at hSw); first | (go_simp; done) | (go_simp; with_reducible rfl))
      (try simp only [Act.put, List.getElem_toArray, List.getElem_cons_zero, List.getElem_cons_succ, List.setIfInBounds_toArray, List.set_cons_zero, List.set_cons_succ])
      refine wpAnyH_take (i := 10) (v := ?_) rfl (by kernel_rfl) (by kernel_rfl) (by kernel_rfl) (fun _ _ _ h => h) (Or.inl ⟨?_, ?_⟩) (by assumption) ?_
      rotate_left
      · rfl
      · (intro w hSw; (try dsimp only at hSw); first | (go_simp; done) | (go_simp; with_reducible rfl))
      (try simp only [Act.put, List.getElem_toArray, List.getElem_cons_zero, List.getElem_cons_succ, List.setIfInBounds_toArray, List.set_cons_zero, List.set_cons_succ])
      refine wpAnyH_take (i := 11) (v := ?_) rfl (by kernel_rfl) (by kernel_rfl) (by kernel_rfl) (fun _ _ _ h => h) (Or.inl ⟨?_, ?_⟩) (by assumption) ?_
      rotate_left
      · rfl
      · (intro w hSw; (try dsimp only at hSw); first | (go_simp; done) | (go_simp; with_reducible rfl))
      (try simp only [Act.put, List.getElem_toArray, List.getElem_cons_zero, List.getElem_cons_succ, List.setIfInBounds_toArray, List.set_cons_zero, List.set_cons_succ])
      refine wpAnyH_take (i := 12) (v := ?_) rfl (by kernel_rfl) (by kernel_rfl) (by kernel_rfl) (fun _ _ _ h => h) (Or.inl ⟨?_, ?_⟩) (by assumption) ?_
      rotate_left
      · rfl
      · (intro w hSw; (try dsimp only at hSw); first | (go_simp; done) | (go_simp; with_reducible rfl))
      (try simp only [Act.put, List.getElem_toArray, List.getElem_cons_zero, List.getElem_cons_succ, List.setIfInBounds_toArray, List.set_cons_zero, List.set_cons_succ])
      refine wpAnyH_take (i := 13) (v := ?_) rfl (by kernel_rfl) (by kernel_rfl) (by kernel_rfl) (fun _ _ _ h => h) (Or.inl ⟨?_, ?_⟩) (by assumption) ?_
      rotate_left
      · rfl
      · (intro w hSw; (try dsimp only at hSw); first | (go_simp; done) | (go_simp; with_reducible rfl))
      (try simp only [Act.put, List.getElem_toArray, List.getElem_cons_zero, List.getElem_cons_succ, List.setIfInBounds_toArray, List.set_cons_zero, List.set_cons_succ])
      refine wpAnyH_take (i := 14) (v := ?_) rfl (by kernel_rfl) (by kernel_rfl) (by kernel_rfl) (fun _ _ _ h => h) (Or.inl ⟨?_, ?_⟩) (by assumption) ?_
      rotate_left
      · rfl
      · (intro w hSw; (try dsimp only at hSw); first | (go_simp; done) | (go_simp; with_reducible rfl))
      (try simp only [Act.put, List.getElem_toArray, List.getElem_cons_zero, List.getElem_cons_succ, List.setIfInBounds_toArray, List.set_cons_zero, List.set_cons_succ])
      refine wpAnyH_take (i := 15) (v := ?_) rfl (by kernel_rfl) (by kernel_rfl) (by kernel_rfl) (fun _ _ _ h => h) (Or.inl ⟨?_, ?_⟩) (by assumption) ?_
      rotate_left
      · rfl
      · (intro w hSw; (try dsimp only at hSw); first | (go_simp; done) | (go_simp; with_reducible rfl))
      (try simp only [Act.put, List.getElem_toArray, List.getElem_cons_zero, List.getElem_cons_succ, List.setIfInBounds_toArray, List.set_cons_zero, List.set_cons_succ])
      refine wpAnyH_take (i := 16) (v := ?_) rfl (by kernel_rfl) (by kernel_rfl) (by kernel_rfl) (fun _ _ _ h => h) (Or.inl ⟨?_, ?_⟩) (by assumption) ?_
      rotate_left
      · rfl
      · (intro w hSw; (try dsimp only at hSw); first | (go_simp; done) | (go_simp; with_reducible rfl))
      (try simp only [Act.put, List.getElem_toArray, List.getElem_cons_zero, List.getElem_cons_succ, List.setIfInBounds_toArray, List.set_cons_zero, List.set_cons_succ])
      refine wpAnyH_take (i := 17) (v := ?_) rfl (by kernel_rfl) (by kernel_rfl) (by kernel_rfl) (fun _ _ _ h => h) (Or.inl ⟨?_, ?_⟩) (by assumption) ?_
      rotate_left
      · rfl
      · (intro w hSw; (try dsimp only at hSw); first | (go_simp; done) | (go_simp; with_reducible rfl))
      (try simp only [Act.put, List.getElem_toArray, List.getElem_cons_zero, List.getElem_cons_succ, List.setIfInBounds_toArray, List.set_cons_zero, List.set_cons_succ])
      refine wpAnyH_take (i := 18) (v := ?_) rfl (by kernel_rfl) (by kernel_rfl) (by kernel_rfl) (fun _ _ _ h => h) (Or.inl ⟨?_, ?_⟩) (by assumption) ?_
      rotate_left
      · rfl
      · (intro w hSw; (try dsimp only at hSw); first | (go_simp; done) | (go_simp; with_reducible rfl))
      (try simp only [Act.put, List.getElem_toArray, List.getElem_cons_zero, List.getElem_cons_succ, List.setIfInBounds_toArray, List.set_cons_zero, List.set_cons_succ])
      refine wpAnyH_take (i := 19) (v := ?_) rfl (by kernel_rfl) (by kernel_rfl) (by kernel_rfl) (fun _ _ _ h => h) (Or.inl ⟨?_, ?_⟩) (by assumption) ?_
      rotate_left
      · rfl
      · (intro w hSw; (try dsimp only at hSw); first | (go_simp; done) | (go_simp; with_reducible rfl))
      (try simp only [Act.put, List.getElem_toArray, List.getElem_cons_zero, List.getElem_cons_succ, List.setIfInBounds_toArray, List.set_cons_zero, List.set_cons_succ])
      refine wpAnyH_take (i := 20) (v := ?_) rfl (by kernel_rfl) (by kernel_rfl) (by kernel_rfl) (fun _ _ _ h => h) (Or.inl ⟨?_, ?_⟩) (by assumption) ?_
      rotate_left
      · rfl
      · (intro w hSw; (try dsimp only at hSw); first | (go_simp; done) | (go_simp; with_reducible rfl))
      (try simp only [Act.put, List.getElem_toArray, List.getElem_cons_zero, List.getElem_cons_succ, List.setIfInBounds_toArray, List.set_cons_zero, List.set_cons_succ])
      refine wpAnyH_take (i := 21) (v := ?_) rfl (by kernel_rfl) (by kernel_rfl) (by kernel_rfl) (fun _ _ _ h => h) (Or.inl ⟨?_, ?_⟩) (by assumption) ?_
      rotate_left
      · rfl
      · (intro w hSw; (try dsimp only at hSw); first | (go_simp; done) | (go_simp; with_reducible rfl))
      (try simp only [Act.put, List.getElem_toArray, List.getElem_cons_zero, List.getElem_cons_succ, List.setIfInBounds_toArray, List.set_cons_zero, List.set_cons_succ])
      refine wpAnyH_take (i := 22) (v := ?_) rfl (by kernel_rfl) (by kernel_rfl) (by kernel_rfl) (fun _ _ _ h => h) (Or.inl ⟨?_, ?_⟩) (by assumption) ?_
      rotate_left
      · rfl
      · (intro w hSw; (try dsimp only at hSw); first | (go_simp; done) | (go_simp; with_reducible rfl))
      (try simp only [Act.put, List.getElem_toArray, List.getElem_cons_zero, List.getElem_cons_succ, List.setIfInBounds_toArray, List.set_cons_zero, List.set_cons_succ])
      refine wpAnyH_take (i := 23) (v := ?_) rfl (by kernel_rfl) (by kernel_rfl) (by kernel_rfl) (fun _ _ _ h => h) (Or.inl ⟨?_, ?_⟩) (by assumption) ?_
      rotate_left
      · rfl
      · (intro w hSw; (try dsimp only at hSw); first | (go_simp; done) | (go_simp; with_reducible rfl))
      (try simp only [Act.put, List.getElem_toArray, List.getElem_cons_zero, List.getElem_cons_succ, List.setIfInBounds_toArray, List.set_cons_zero, List.set_cons_succ])
      refine wpAnyH_take (i := 24) (v := ?_) rfl (by kernel_rfl) (by kernel_rfl) (by kernel_rfl) (fun _ _ _ h => h) (Or.inl ⟨?_, ?_⟩) (by assumption) ?_
      rotate_left
      · rfl
      · (intro w hSw; (try dsimp only at hSw); first | (go_simp; done) | (go_simp; with_reducible rfl))
      (try simp only [Act.put, List.getElem_toArray, List.getElem_cons_zero, List.getElem_cons_succ, List.setIfInBounds_toArray, List.set_cons_zero, List.set_cons_succ])
      refine wpAnyH_take (i := 25) (v := ?_) rfl (by kernel_rfl) (by kernel_rfl) (by kernel_rfl) (fun _ _ _ h => h) (Or.inl ⟨?_, ?_⟩) (by assumption) ?_
      rotate_left
      · rfl
      · (intro w hSw; (try dsimp only at hSw); first | (go_simp; done) | (go_simp; with_reducible rfl))
      (try simp only [Act.put, List.getElem_toArray, List.getElem_cons_zero, List.getElem_cons_succ, List.setIfInBounds_toArray, List.set_cons_zero, List.set_cons_succ])
      refine wpAnyH_ready (rs := [26]) (by kernel_rfl) (by simp) ?_
      refine AllReadyH.cons rfl (fun K hK => ?_) AllReadyH.nil
      go_simp
      refine (sameValues_any f1 f2 fc1 fc2 fl _ hfl (V1.below hbd (Nat.le_refl _)) (V2.below hbd (Nat.le_refl _))).mono ?_
      rintro e we ⟨rfl, hbe⟩
      have hbf := hbd.trans (hbe.mono hbd.size)
      refine hK.out _ _ (KS _ hbf) (fun hHeld2 => ?_)
      clear hK K hbe hbd
      (try simp only [Act.put, List.getElem_toArray, List.getElem_cons_zero, List.getElem_cons_succ, List.setIfInBounds_toArray, List.set_cons_zero, List.set_cons_succ])
      refine wpAnyH_take (i := 27) (v := ?_) rfl (by kernel_rfl) (by kernel_rfl) (by kernel_rfl) (fun _ _ _ h => h) (Or.inl ⟨?_, ?_⟩) (by assumption) ?_
      rotate_left
      · rfl
      · (intro w hSw; (try dsimp only at hSw); first | (go_simp; done) | (go_simp; with_reducible rfl))
      (try simp only [Act.put, List.getElem_toArray, List.getElem_cons_zero, List.getElem_cons_succ, List.setIfInBounds_toArray, List.set_cons_zero, List.set_cons_succ])
      refine wpAnyH_take (i := 28) (v := ?_) rfl (by kernel_rfl) (by kernel_rfl) (by kernel_rfl) (fun _ _ _ h => h) (Or.inl ⟨?_, ?_⟩) (by assumption) ?_
      rotate_left
      · rfl
      · (intro w hSw; (try dsimp only at hSw); first | (go_simp; done) | (go_simp; with_reducible rfl))
      (try simp only [Act.put, List.getElem_toArray, List.getElem_cons_zero, List.getElem_cons_succ, List.setIfInBounds_toArray, List.set_cons_zero, List.set_cons_succ])
      refine wpAnyH_done (by kernel_rfl) ?_ _
      go_wp2
      go_roundw
      case rel => exact ⟨k + 1, by omega, by go_num, hbf⟩
      case measure => simp [intOf]; omega
    · have H2 := H1.trans (hbr.mono H1.size)
      have L1r := L1.below hbr (Nat.le_refl _)
      have L2r := L2.below hbr (Nat.le_refl _)
      have a4r : wr.cell? ⟨w.heap.size, 4, none⟩ = some (.slice ls1 r.lines.length lc1) := by rw [hbr.cell (by simp; omega)]; exact a4
      have b4r : wr.cell? ⟨w.heap.size + 1, 4, none⟩ = some (.slice ls2 r.lines.length lc2) := by rw [hbr.cell (by simpa using z1)]; exact b4
      have z2 : w.heap.size + 1 < wr.heap.size := Nat.lt_of_lt_of_le z1 hbr.size
      have m0 : ¬ (k : Int) < (r.things.length : Int) := by omega
      clear L1 L2 a4 b4 T1 T2 a2 b2 z1 H1
      generalize wr = wp at *
      go_wp2
      go_loopw [6] (fun i wr => ∃ k : Nat, k ≤ r.lines.length ∧ i = .int .i64 k ∧ Below wp.heap.size wp wr) (fun i _ => r.lines.length - (intOf i).toNat)
      case atStart => exact ⟨0, Nat.zero_le _, rfl, Below.refl _ _⟩
      case round =>
        clear hk m0
        obtain ⟨k, hk, rfl, hbq⟩ := hrel
        have a4q : wr.cell? ⟨w.heap.size, 4, none⟩ = some (.slice ls1 r.lines.length lc1) := by rw [hbq.cell (by simp; omega)]; exact a4r
        have b4q : wr.cell? ⟨w.heap.size + 1, 4, none⟩ = some (.slice ls2 r.lines.length lc2) := by rw [hbq.cell (by simpa using z2)]; exact b4r
        by_cases hlt2 : k < r.lines.length
        · have n0 : (0 : Int) ≤ (k : Int) := by omega
          have n1 : (k : Int) < (r.lines.length : Int) := by omega
          rcases L1r with T1 | ⟨p1, q1, rfl, hp1, hT1⟩
          · rw [T1] at hlt2; simp at hlt2
          rcases L2r with T2 | ⟨p2, q2, rfl, hp2, hT2⟩
          · rw [T2] at hlt2; simp at hlt2
          have s1 := hT1 k hlt2
          have s2 := hT2 k hlt2
          generalize r.lines[k] = y at *
          have s1q : wr.cell? ⟨p1, q1 + k, none⟩ = some (.string y) := by rw [hbq.cell (by simpa using hp1)]; exact s1
          have s2q : wr.cell? ⟨p2, q2 + k, none⟩ = some (.string y) := by rw [hbq.cell (by simpa using hp2)]; exact s2
          clear hT1 hT2 s1 s2
          go_wp2
          go_quiet (fail)
          go_wp2
          go_roundw
          case rel => exact ⟨k + 1, by omega, by go_num, below_drewN hbq _⟩
          case measure => simp [intOf]; omega
        · have m0 : ¬ (k : Int) < (r.lines.length : Int) := by omega
          go_wp2
          go_ret
          exact ⟨rfl, H2.trans (hbq.mono H2.size)⟩
end Go.Proofs.YtmapdpcfanecdaaDoor
