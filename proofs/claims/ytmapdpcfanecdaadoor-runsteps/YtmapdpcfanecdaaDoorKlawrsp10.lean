/- Walks over the document's own answers: are two lists the same? Where both read alike they are told to be. -/
import Derived.Test.YtmapdpcfanecdaaDoorKlawrsp08
import Derived.Test.YtmapdpcfanecdaaDoorKlawrsp07
import Derived.Test.YtmapdpcfanecdaaDoorKlawrsp09
import Derived.Deep.AppendLies
import Derived.Laws.OwnMore
import Derived.Test.YtmapdpcfanecdaaDoorKlawrsp03
import Derived.Deep.QuietTactic
import Derived.BigQuiet
namespace Go.Proofs.YtmapdpcfanecdaaDoor
set_option linter.unusedVariables false
set_option linter.unusedSimpArgs false
open Go.RowKit
attribute [local go_sem ↓] Go.wp_at_zero Go.wp_at_succ
theorem hideK {p : Prop} (h : p) : Hid p := h

/-- What a call of the machine's leaves: the run, in memory of its own; all else as it was. -/
def MStep (w w' : World) (B m : Nat) (bs : List (Option Nat)) (s : St) : Prop := (∃ vv tv lv fv, OwnRun w' B m s vv tv lv fv) ∧ Below B w w' ∧ (∀ j, 6 ≤ j → w'.cell? ⟨m, j, none⟩ = w.cell? ⟨m, j, none⟩) ∧ ∀ k, k < w.heap.size → some k ∉ bs → w'.heap[k]? = w.heap[k]?
theorem frame_put {w wl : World} {bs : List (Option Nat)} (HW : Below w.heap.size w wl) {g : Nat} (hg : some g ∈ bs) (j j' : Nat) (u u' : Value) : ∀ k, k < w.heap.size → some k ∉ bs → ((wl.setCell ⟨g, j, none⟩ u).setCell ⟨g, j', none⟩ u').heap[k]? = w.heap[k]? := fun k hk hn => by
  rw [heap_set2 _ _ _ _ _ _ k (fun e => hn (by rw [e]; exact hg))]
  exact HW.block k hk
theorem frame_same {w wl : World} {bs : List (Option Nat)} (HW : Below w.heap.size w wl) : ∀ k, k < w.heap.size → some k ∉ bs → wl.heap[k]? = w.heap[k]? := fun k hk _ => HW.block k hk
theorem frame_trans {w w1 w2 : World} {bs : List (Option Nat)} (h1 : ∀ k, k < w.heap.size → some k ∉ bs → w1.heap[k]? = w.heap[k]?) (hs : w.heap.size ≤ w1.heap.size) (h2 : ∀ k, k < w1.heap.size → some k ∉ bs → w2.heap[k]? = w1.heap[k]?) : ∀ k, k < w.heap.size → some k ∉ bs → w2.heap[k]? = w.heap[k]? := fun k hk hn => by
  rw [h2 k (Nat.lt_of_lt_of_le hk hs) hn, h1 k hk hn]
theorem frame_grow {w w3 : World} {bs : List (Option Nat)} {row : Option Nat} (hg : w.grownBy w3 row) (hr : ∀ k, row = some k → some k ∈ bs) {m : Nat} (hm : some m ∈ bs) (j : Nat) (u : Value) : ∀ k, k < w.heap.size → some k ∉ bs → (w3.setCell ⟨m, j, none⟩ u).heap[k]? = w.heap[k]? := fun k hk hn => by
  rw [Below.heap_setCell _ _ _ _ (fun e => hn (by rw [e]; exact hm))]
  exact hg.block k hk (fun e => hn (hr k e.symm))
theorem frame_set {w : World} {bs : List (Option Nat)} {m : Nat} (hm : some m ∈ bs) (j : Nat) (u : Value) : ∀ k, k < w.heap.size → some k ∉ bs → (w.setCell ⟨m, j, none⟩ u).heap[k]? = w.heap[k]? := fun k hk hn =>
  Below.heap_setCell _ _ _ _ (fun e => hn (by rw [e]; exact hm))
theorem w64_wrap (n : Int) : wrap64 n = w64 n := by unfold wrap64 w64; omega
/-- The input that is taken, held within its limit. -/
def inputOf (ins : List Int) (tk lim : Int) : Int := if tk < ins.length then clamp lim (ins.getD tk.toNat 0) else 0
set_option maxHeartbeats 2000000 in
set_option maxRecDepth 20000 in
theorem takeM_any (m B : Nat) (s : St) (vv tv lv : Value) (fv : List Value) (lim : Int) (is : Option Addr) (ic : Nat) (ins : List Int) (w : World) (h : OwnRun w B m s vv tv lv fv) (hl0 : 0 ≤ lim) (hl1 : lim ≤ 1000000) (h9 : w.cell? ⟨m, 9, none⟩ = some (.slice is ins.length ic)) (hi : IntsAt w is ins) (htk : 0 ≤ s.taken) :
    Calls Tryd.prog 101 #[.pointer (some ⟨m, 0, none⟩), .int .i64 lim] w fun e w' => e = .returned (.int .i64 (inputOf ins s.taken lim)) ∧ ∃ w1, Below w.heap.size w w1 ∧ w' = w1.setCell ⟨m, 3, none⟩ (.int .i64 (w64 (s.taken + 1))) := by
  have q3 := h.taken_
  have fz := h.thaw 3
  have g0 : -9223372036854775808 ≤ -lim := by omega
  have g1 : -lim ≤ 9223372036854775807 := by omega
  by_cases hlt : s.taken < ins.length
  · obtain ⟨k, hk⟩ := Int.eq_ofNat_of_zero_le htk
    have hkl : k < ins.length := by omega
    rcases hi with hi | ⟨b, off, rfl, hb, hi⟩
    · rw [hi] at hkl; simp at hkl
    have c0 := hi k hkl
    have n0 : (0 : Int) ≤ (k : Int) := by omega
    have n1 : (k : Int) < (ins.length : Int) := by omega
    have HR : Hid (inputOf ins s.taken lim = clamp lim ins[k]) := by
      show _ = _
      unfold inputOf
      rw [if_pos hlt, hk]
      simp [List.getD, List.getElem?_eq_getElem hkl]
    have HT : Hid (w64 (s.taken + 1) = wrap64 (k + 1)) := by show _ = _; rw [hk, w64_wrap]
    rw [hk] at q3
    rw [HT.out]
    clear hi hlt hk htk h HT
    go_enter Tryd.func101, Tryd.ntmps101
    go_wp2
    go_quiet (fail)
    go_wp2
    go_quiet (fail)
    go_wp2
    all_goals
      go_ret
      refine ⟨ret_int ?_, _, ?_, rfl⟩
      · rw [HR.out]
        unfold clamp
        first | omega | (split <;> first | omega | (split <;> omega))
      · exact below_drewN (Below.refl _ _) _
  · have HR : Hid (inputOf ins s.taken lim = 0) := by show _ = _; unfold inputOf; rw [if_neg hlt]
    rw [HR.out]
    have HT : Hid (w64 (s.taken + 1) = wrap64 (s.taken + 1)) := by show _ = _; rw [w64_wrap]
    rw [HT.out]
    have hnl : ¬ (s.taken < (ins.length : Int)) := hlt
    clear hi htk h HT
    go_enter Tryd.func101, Tryd.ntmps101
    go_wp2
    go_quiet (fail)
    go_wp2
    all_goals
      go_ret
      refine ⟨ret_int ?_, _, ?_, rfl⟩
      · first | rfl | omega
      · exact below_drewN (Below.refl _ _) _
end Go.Proofs.YtmapdpcfanecdaaDoor

namespace Go.Proofs.YtmapdpcfanecdaaDoor
set_option linter.unusedVariables false
set_option linter.unusedSimpArgs false
open Go.RowKit
attribute [local go_sem ↓] Go.wp_at_zero Go.wp_at_succ

/-- The things' field slices, written out. -/
theorem ThgsAt.list {w : World} {s : Option Addr} {l : List Thg} (h : ThgsAt w s l) : ∃ fo : List Value, fo.length = l.length ∧ (∀ k (h : k < l.length) (h' : k < fo.length), ∃ f fc, fo[k] = .slice f l[k].fs.length fc ∧ ValsAt w f l[k].fs) ∧ (l = [] ∨ ∃ b off, s = some ⟨b, off, none⟩ ∧ b < w.heap.size ∧ ∀ k (h : k < l.length) (h' : k < fo.length), w.cell? ⟨b, off + k * 2, none⟩ = some (.int .i64 l[k].site) ∧ w.cell? ⟨b, off + k * 2 + 1, none⟩ = some fo[k]) := by
  rcases h with rfl | ⟨b, off, rfl, hb, hi⟩
  · exact ⟨[], rfl, fun k h => by simp at h, .inl rfl⟩
  · have each : ∀ k, ∃ v : Value, ∀ h : k < l.length, (∃ f fc, v = .slice f l[k].fs.length fc ∧ ValsAt w f l[k].fs) ∧ w.cell? ⟨b, off + k * 2 + 1, none⟩ = some v := by
      intro k
      by_cases hk : k < l.length
      · obtain ⟨-, f, fc, h2, h3⟩ := hi k hk
        exact ⟨.slice f l[k].fs.length fc, fun _ => ⟨⟨f, fc, rfl, h3⟩, h2⟩⟩
      · exact ⟨.int .i64 0, fun h => absurd h hk⟩
    refine ⟨(List.range l.length).map fun k => Classical.choose (each k), by simp, fun k h h' => ?_, .inr ⟨b, off, rfl, hb, fun k h h' => ⟨(hi k h).1, ?_⟩⟩⟩
    · simp only [List.getElem_map, List.getElem_range]
      exact (Classical.choose_spec (each k) h).1
    · simp only [List.getElem_map, List.getElem_range]
      exact (Classical.choose_spec (each k) h).2
theorem thgCells_get (ss : List Int) (fs : List Value) (h : fs.length = ss.length) (j : Nat) (u : Value) (hu : (thgCells ss fs)[j]? = some u) : ∃ k, ∃ h1 : k < ss.length, ∃ h2 : k < fs.length, (j = k * 2 ∧ u = .int .i64 ss[k]) ∨ (j = k * 2 + 1 ∧ u = fs[k]) := by
  have hj : j < ss.length * 2 := by
    have := (List.getElem?_eq_some_iff.1 hu).1
    rw [thgCells_length ss fs h] at this
    exact this
  have hk : j / 2 < ss.length := by omega
  have hk' : j / 2 < fs.length := by omega
  refine ⟨j / 2, hk, hk', ?_⟩
  rcases Nat.mod_two_eq_zero_or_one j with hm | hm
  · left
    have e : j = j / 2 * 2 := by omega
    refine ⟨e, ?_⟩
    have := thgCells_site ss fs h (j / 2) hk
    rw [← e, hu] at this
    exact Option.some.inj this
  · right
    have e : j = j / 2 * 2 + 1 := by omega
    refine ⟨e, ?_⟩
    have := thgCells_field ss fs h (j / 2) hk'
    rw [← e, hu] at this
    exact Option.some.inj this
theorem valCells_get (l : List Val) (j : Nat) (u : Value) (hu : (valCells l)[j]? = some u) : ∃ k, ∃ h : k < l.length, (j = k * 2 ∧ u = .int .i64 l[k].k) ∨ (j = k * 2 + 1 ∧ u = .int .i64 l[k].n) := by
  have hj : j < l.length * 2 := by
    have := (List.getElem?_eq_some_iff.1 hu).1
    rw [valCells_length l] at this
    exact this
  have hk : j / 2 < l.length := by omega
  refine ⟨j / 2, hk, ?_⟩
  rcases Nat.mod_two_eq_zero_or_one j with hm | hm
  · left
    have e : j = j / 2 * 2 := by omega
    refine ⟨e, ?_⟩
    have := valCells_k l (j / 2) hk
    rw [← e, hu] at this
    exact Option.some.inj this
  · right
    have e : j = j / 2 * 2 + 1 := by omega
    refine ⟨e, ?_⟩
    have := valCells_n l (j / 2) hk
    rw [← e, hu] at this
    exact Option.some.inj this
theorem thgCells_set : ∀ (ss : List Int) (fs : List Value) (_ : fs.length = ss.length) (i : Nat) (_ : i < fs.length) (v : Value), (thgCells ss fs).set (i * 2 + 1) v = thgCells ss (fs.set i v)
  | [], [], _, _, h, _ => by simp at h
  | [], _ :: _, h, _, _, _ => by simp at h
  | _ :: _, [], h, _, _, _ => by simp at h
  | _ :: _, _ :: _, _, 0, _, _ => rfl
  | a :: ss, b :: fs, h, i + 1, hi, v => by
    have := thgCells_set ss fs (by simpa using h) i (by simpa using hi) v
    rw [show (i + 1) * 2 + 1 = (i * 2 + 1) + 1 + 1 by omega]
    simp only [thgCells, List.set_cons_succ, this]
/-- The cells of a list of values are read behind its address. -/
theorem ValsAt.news {w : World} {s : Option Addr} {l : List Val} (h : ValsAt w s l) : ∀ ad, s = some ad → ∀ j u, (valCells l)[j]? = some u → w.cell? (ad.add j) = some u := by
  intro ad hs j u hu
  rcases h with rfl | ⟨b, off, rfl, hb, hi⟩
  · simp [valCells] at hu
  · cases hs
    obtain ⟨k, hk, ⟨rfl, rfl⟩ | ⟨rfl, rfl⟩⟩ := valCells_get l j u hu
    · have e : (⟨b, off, none⟩ : Addr).add (k * 2) = ⟨b, off + k * 2, none⟩ := by unfold Addr.add; split <;> simp_all
      rw [e]; exact (hi k hk).1
    · have e : (⟨b, off, none⟩ : Addr).add (k * 2 + 1) = ⟨b, off + k * 2 + 1, none⟩ := by unfold Addr.add; split <;> simp_all [Nat.add_assoc]
      rw [e]; exact (hi k hk).2
theorem ValsAt.nil {w : World} {s : Option Addr} {l : List Val} (h : ValsAt w s l) : s = none → l.length = 0 := by
  rintro rfl
  rcases h with rfl | ⟨b, off, h, _⟩
  · rfl
  · cases h
theorem StrsAt.news {w : World} {s : Option Addr} {l : List ByteArray} (h : StrsAt w s l) : ∀ ad, s = some ad → ∀ j u, (l.map Value.string)[j]? = some u → w.cell? (ad.add j) = some u := by
  intro ad hs j u hu
  rcases h with rfl | ⟨b, off, rfl, hb, hi⟩
  · simp at hu
  · cases hs
    have hj : j < l.length := by have := (List.getElem?_eq_some_iff.1 hu).1; simpa using this
    have e : (⟨b, off, none⟩ : Addr).add j = ⟨b, off + j, none⟩ := by unfold Addr.add; split <;> simp_all
    rw [e, hi j hj]
    simpa [hj] using hu
theorem StrsAt.nil {w : World} {s : Option Addr} {l : List ByteArray} (h : StrsAt w s l) : s = none → l.length = 0 := by
  rintro rfl
  rcases h with rfl | ⟨b, off, h, _⟩
  · rfl
  · cases h
theorem ThgsAt.nil {w : World} {s : Option Addr} {l : List Thg} (h : ThgsAt w s l) : s = none → l.length = 0 := by
  rintro rfl
  rcases h with rfl | ⟨b, off, h, _⟩
  · rfl
  · cases h
theorem one_vals (l : List Val) : ∀ u ∈ valCells l, u.oneCell' = true := by
  induction l with
  | nil => intro u hu; cases hu
  | cons v r ih =>
    intro u hu
    simp only [valCells, List.mem_cons] at hu
    rcases hu with rfl | rfl | hu
    · rfl
    · rfl
    · exact ih u hu
theorem one_strs (l : List ByteArray) : ∀ u ∈ l.map Value.string, u.oneCell' = true := by
  intro u hu
  obtain ⟨x, _, rfl⟩ := List.mem_map.1 hu
  rfl
theorem one_thgs : ∀ (ss : List Int) (fs : List Value) (_ : ∀ v ∈ fs, v.oneCell' = true), ∀ u ∈ thgCells ss fs, u.oneCell' = true
  | [], _, _, u, hu => by simp [thgCells] at hu
  | _ :: _, [], _, u, hu => by simp [thgCells] at hu
  | a :: ss, b :: fs, h, u, hu => by
    simp only [thgCells, List.mem_cons] at hu
    rcases hu with rfl | rfl | hu
    · rfl
    · exact h _ (by simp)
    · exact one_thgs ss fs (fun v hv => h v (by simp [hv])) u hu
end Go.Proofs.YtmapdpcfanecdaaDoor

namespace Go.Proofs.YtmapdpcfanecdaaDoor
set_option linter.unusedVariables false
set_option linter.unusedSimpArgs false
open Go

section
variable {P : Program} (w : World)
theorem run_append_any (t ty : TypeId) (base : Nat) (e : TypeId) (i : TypeInfo) (z : Value) (size bytes : Nat) (ht : P.underlying t = some (.slice e)) (hi : P.info? e = some i) (hz : i.zero = some z)
    (hsize : i.size = size) (hby : i.bytes = bytes) (hzs : z.cells.size = size) (hsz : 0 < size)
    (v : Value) (n : Nat) (xs : List Value) (hown : w.ownsRow base e size v n xs)
    (ao : Option Addr) (m c : Nat) (news : List Value) (hl : news.length = m * size) (hao : ao = none → m = 0) (hnews : ∀ ad, ao = some ad → ∀ j u, news[j]? = some u → w.cell? (ad.add j) = some u) (h1 : ∀ u ∈ news, u.oneCell' = true)
    (h63 : n + m ≤ maxLen) (hbytes : (n + m) * bytes ≤ 140737488355328) (hbase : base ≤ w.heap.size) :
    ∃ v' w', (Builtin.append_ #[t, t] ty #[v, .slice ao m c]).run P w = .ok v' w' ∧ w'.ownsRow base e size v' (n + m) (xs ++ news) ∧ w.grownBy w' v.ownBlock ∧ (v'.ownBlock = v.ownBlock ∨ v'.ownBlock = some w.heap.size) := by
  cases ao with
  | some ad =>
    obtain ⟨v', w', hr, h2, h3, _, h5⟩ := run_append_own_at (P := P) w base t ty e i z size bytes ht hi hz hsize hby hzs hsz v n xs hown ad m c news hl (hnews ad rfl) h1 h63 hbytes hbase
    exact ⟨v', w', hr, h2, h3, h5⟩
  | none =>
    obtain rfl := hao rfl
    obtain rfl : news = [] := List.eq_nil_of_length_eq_zero (by simpa using hl)
    refine ⟨v, w, ?_, by simpa using hown, ⟨rfl, rfl, rfl, Nat.le_refl _, fun _ _ _ => rfl⟩, .inl rfl⟩
    rcases hown.2 with ⟨rfl, rfl⟩ | ⟨g, cap, cur, rfl, _, _, hnc, _⟩
    · simp [Builtin.append_, run_underlying ht, sizeOf, typeInfo, hi, Builtin.lenOf, Builtin.firstCells]
    · simp [Builtin.append_, run_underlying ht, sizeOf, typeInfo, hi, Builtin.lenOf, Builtin.firstCells, hnc, storeCells]

theorem wp_append_any {o : Oper} {a : Act} {K : Act → World → Prop} {Q : Exit → Act → World → Prop} (s x : Operand) (t : TypeId)
    (ho : o.op = .call { callee := .builtin .append, args := #[s, x], argTypes := #[t, t] })
    (base : Nat) (e : TypeId) (i : TypeInfo) (z : Value) (size bytes : Nat) (ht : P.underlying t = some (.slice e)) (hi : P.info? e = some i) (hz : i.zero = some z)
    (hsize : i.size = size) (hby : i.bytes = bytes) (hzs : z.cells.size = size) (hsz : 0 < size)
    (v : Value) (n : Nat) (xs : List Value) (hs : a.eval s = v) (hown : w.ownsRow base e size v n xs)
    (ao : Option Addr) (m c : Nat) (news : List Value) (hx : a.eval x = .slice ao m c) (hl : news.length = m * size) (hao : ao = none → m = 0) (hnews : ∀ ad, ao = some ad → ∀ j u, news[j]? = some u → w.cell? (ad.add j) = some u) (h1 : ∀ u ∈ news, u.oneCell' = true)
    (h63 : n + m ≤ maxLen) (hbytes : (n + m) * bytes ≤ 140737488355328) (hbase : base ≤ w.heap.size)
    (h : ∀ v' w', w'.ownsRow base e size v' (n + m) (xs ++ news) → w.grownBy w' v.ownBlock → (v'.ownBlock = v.ownBlock ∨ v'.ownBlock = some w.heap.size) → K (a.put o.dst v') w') : o.wp P a w K Q := by
  obtain ⟨v', w', hr, h2, h3, h4⟩ := run_append_any (P := P) w t o.type base e i z size bytes ht hi hz hsize hby hzs hsz v n xs hown ao m c news hl hao hnews h1 h63 hbytes hbase
  unfold Oper.wp execOp
  simp only [ho, resolve, invoke, builtin, Sem.run_bind, Sem.run_pure, Result.andThen_ok, List.map_toArray, List.map_cons, List.map_nil, hs, hx, hr]
  exact h v' w' h2 h3 h4

theorem wpList_append_any {ops : Array Oper} {rest : List Oper} {o : Oper} {a : Act} {Q : Exit → Act → World → Prop} (hgd : o.guard = none) (s x : Operand) (t : TypeId)
    (ho : o.op = .call { callee := .builtin .append, args := #[s, x], argTypes := #[t, t] })
    (base : Nat) (e : TypeId) (i : TypeInfo) (z : Value) (size bytes : Nat) (ht : P.underlying t = some (.slice e)) (hi : P.info? e = some i) (hz : i.zero = some z)
    (hsize : i.size = size) (hby : i.bytes = bytes) (hzs : z.cells.size = size) (hsz : 0 < size)
    (v : Value) (n : Nat) (xs : List Value) (hs : a.eval s = v) (hown : w.ownsRow base e size v n xs)
    (ao : Option Addr) (m c : Nat) (news : List Value) (hx : a.eval x = .slice ao m c) (hl : news.length = m * size) (hao : ao = none → m = 0) (hnews : ∀ ad, ao = some ad → ∀ j u, news[j]? = some u → w.cell? (ad.add j) = some u) (h1 : ∀ u ∈ news, u.oneCell' = true)
    (h63 : n + m ≤ maxLen) (hbytes : (n + m) * bytes ≤ 140737488355328) (hbase : base ≤ w.heap.size)
    (h : ∀ v' w', w'.ownsRow base e size v' (n + m) (xs ++ news) → w.grownBy w' v.ownBlock → (v'.ownBlock = v.ownBlock ∨ v'.ownBlock = some w.heap.size) → wpList P ops Q rest (a.put o.dst v') w') : wpList P ops Q (o :: rest) a w :=
  wpList_plain hgd fun _ hK => wp_append_any w s x t ho base e i z size bytes ht hi hz hsize hby hzs hsz v n xs hs hown ao m c news hx hl hao hnews h1 h63 hbytes hbase fun v' w' h2 h3 h4 => hK _ _ (h v' w' h2 h3 h4)

/-- At a step of a region that draws its order. -/
theorem step_append_any {ops : Array Oper} {o : Oper} {a : Act} {K : Act → World → Prop} {Q : Exit → Act → World → Prop} {E : Prop} (hgd : o.guard = none) (s x : Operand) (t : TypeId)
    (ho : o.op = .call { callee := .builtin .append, args := #[s, x], argTypes := #[t, t] })
    (base : Nat) (e : TypeId) (i : TypeInfo) (z : Value) (size bytes : Nat) (ht : P.underlying t = some (.slice e)) (hi : P.info? e = some i) (hz : i.zero = some z)
    (hsize : i.size = size) (hby : i.bytes = bytes) (hzs : z.cells.size = size) (hsz : 0 < size)
    (v : Value) (n : Nat) (xs : List Value) (hs : a.eval s = v) (hown : w.ownsRow base e size v n xs)
    (ao : Option Addr) (m c : Nat) (news : List Value) (hx : a.eval x = .slice ao m c) (hl : news.length = m * size) (hao : ao = none → m = 0) (hnews : ∀ ad, ao = some ad → ∀ j u, news[j]? = some u → w.cell? (ad.add j) = some u) (h1 : ∀ u ∈ news, u.oneCell' = true)
    (h63 : n + m ≤ maxLen) (hbytes : (n + m) * bytes ≤ 140737488355328) (hbase : base ≤ w.heap.size)
    (h : ∀ v' w', w'.ownsRow base e size v' (n + m) (xs ++ news) → w.grownBy w' v.ownBlock → (v'.ownBlock = v.ownBlock ∨ v'.ownBlock = some w.heap.size) → K (a.put o.dst v') w') :
    if Region.wanted o (yielded ops a.tmps) = true then Oper.wp P o a w K Q else E := by
  have hw : Region.wanted o (yielded ops a.tmps) = true := by simp [Region.wanted, hgd]
  rw [if_pos hw]
  exact wp_append_any w s x t ho base e i z size bytes ht hi hz hsize hby hzs hsz v n xs hs hown ao m c news hx hl hao hnews h1 h63 hbytes hbase h
end
end Go.Proofs.YtmapdpcfanecdaaDoor

namespace Go.Proofs.YtmapdpcfanecdaaDoor
set_option linter.unusedVariables false
set_option linter.unusedSimpArgs false
open Go.RowKit

/-- A value lies in block b, which may be written. -/
def VAt (w : World) (b : Nat) (v : Val) : Prop := (w.cell? ⟨b, 0, none⟩ = some (.int .i64 v.k) ∧ w.cell? ⟨b, 1, none⟩ = some (.int .i64 v.n)) ∧ b < w.heap.size ∧ ∀ j, w.frozen? ⟨b, j, none⟩ = false
section
variable {w w' : World} {B b c : Nat} {v u : Val}
theorem VAt.same (h : VAt w b v) (hb : w'.heap[b]? = w.heap[b]?) (hz : w.heap.size ≤ w'.heap.size) : VAt w' b v := by
  obtain ⟨⟨h0, h1⟩, h2, h3⟩ := h
  exact ⟨⟨by rw [World.cell?_of_block (a := ⟨b, 0, none⟩) hb]; exact h0, by rw [World.cell?_of_block (a := ⟨b, 1, none⟩) hb]; exact h1⟩, Nat.lt_of_lt_of_le h2 hz, fun j => by rw [World.frozen?_of_block (a := ⟨b, j, none⟩) hb]; exact h3 j⟩
theorem VAt.below (h : VAt w b v) (hb : Below B w w') (hB : b < B) : VAt w' b v := h.same (hb.block b hB) hb.size
theorem VAt.call (h : VAt w b v) (hb : Below w.heap.size w w') : VAt w' b v := h.below hb h.2.1
theorem VAt.new (w : World) (v : Val) : VAt (w.alloc (.cells #[.int .i64 v.k, .int .i64 v.n] 94)) w.heap.size v := by
  refine ⟨⟨?_, ?_⟩, by simp, fun j => ?_⟩ <;> simp [go_sem]
theorem VAt.put (h : VAt w b v) (u : Val) : VAt ((w.setCell ⟨b, 0, none⟩ (.int .i64 u.k)).setCell ⟨b, 1, none⟩ (.int .i64 u.n)) b u := by
  obtain ⟨⟨h0, h1⟩, h2, h3⟩ := h
  have e1 : (w.setCell ⟨b, 0, none⟩ (.int .i64 u.k)).cell? ⟨b, 1, none⟩ = some (.int .i64 v.n) := by rw [World.cell?_setCell_other _ _ _ _ (by intro e; cases e)]; exact h1
  refine ⟨⟨?_, World.cell?_setCell_same _ _ _ e1⟩, by simpa [World.setCell] using h2, fun j => by rw [World.frozen?_setCell, World.frozen?_setCell]; exact h3 j⟩
  rw [World.cell?_setCell_other _ _ _ _ (by intro e; cases e)]
  exact World.cell?_setCell_same _ _ _ h0
theorem VAt.set (h : VAt w b v) {a : Addr} (ha : a.block ≠ b) (x : Value) : VAt (w.setCell a x) b v := h.same (Below.heap_setCell _ _ _ _ (Ne.symm ha)) (by simp [World.setCell])
end
end Go.Proofs.YtmapdpcfanecdaaDoor

namespace Go.Proofs.YtmapdpcfanecdaaDoor
set_option linter.unusedVariables false
set_option linter.unusedSimpArgs false
open Go.RowKit

set_option maxHeartbeats 1000000 in
theorem sameValues_loop (b1 o1 c1 b2 o2 c2 : Nat) (l : List Val) (w : World) (h63 : l.length ≤ maxLen) (b1lt : b1 < w.heap.size) (b2lt : b2 < w.heap.size)
    (h1 : ∀ k (h : k < l.length), w.cell? ⟨b1, o1 + k * 2, none⟩ = some (.int .i64 l[k].k) ∧ w.cell? ⟨b1, o1 + k * 2 + 1, none⟩ = some (.int .i64 l[k].n)) (h2 : ∀ k (h : k < l.length), w.cell? ⟨b2, o2 + k * 2, none⟩ = some (.int .i64 l[k].k) ∧ w.cell? ⟨b2, o2 + k * 2 + 1, none⟩ = some (.int .i64 l[k].n)) :
    Calls Tryd.prog 86 #[.slice (some ⟨b1, o1, none⟩) l.length c1, .slice (some ⟨b2, o2, none⟩) l.length c2] w fun e w' => e = .returned (.bool true) ∧ Below w.heap.size w w' := by
  unfold maxLen at h63
  go_enter Tryd.func86, Tryd.ntmps86
  go_wp2
  go_loopw [5] (fun i wr => ∃ k : Nat, k ≤ l.length ∧ i = .int .i64 k ∧ Below w.heap.size w wr) (fun i _ => l.length - (intOf i).toNat)
  case atStart => exact ⟨0, Nat.zero_le _, rfl, Below.refl _ _⟩
  case round =>
    obtain ⟨k, hk, rfl, hb⟩ := hrel
    by_cases hlt : k < l.length
    · have n0 : (0 : Int) ≤ (k : Int) := by omega
      have n1 : (k : Int) < (l.length : Int) := by omega
      have ⟨q0, q1⟩ : wr.cell? ⟨b1, o1 + k * 2, none⟩ = some (.int .i64 l[k].k) ∧ wr.cell? ⟨b1, o1 + k * 2 + 1, none⟩ = some (.int .i64 l[k].n) := by rw [hb.cell (p := ⟨b1, _, none⟩) b1lt, hb.cell (p := ⟨b1, _, none⟩) b1lt]; exact h1 k hlt
      have ⟨r0, r1⟩ : wr.cell? ⟨b2, o2 + k * 2, none⟩ = some (.int .i64 l[k].k) ∧ wr.cell? ⟨b2, o2 + k * 2 + 1, none⟩ = some (.int .i64 l[k].n) := by rw [hb.cell (p := ⟨b2, _, none⟩) b2lt, hb.cell (p := ⟨b2, _, none⟩) b2lt]; exact h2 k hlt
      clear h1 h2
      go_wp2
      go_quiet (fail)
      go_wp2
      go_roundw
      case rel => exact ⟨k + 1, by omega, by go_num, below_drewN hb _⟩
      case measure => simp [intOf]; omega
    · go_wp2
      go_ret
      exact ⟨rfl, hb⟩

set_option maxHeartbeats 1000000 in
theorem sameValues_nil (s1 s2 : Option Addr) (c1 c2 : Nat) (w : World) :
    Calls Tryd.prog 86 #[.slice s1 0 c1, .slice s2 0 c2] w fun e w' => e = .returned (.bool true) ∧ Below w.heap.size w w' := by
  go_enter Tryd.func86, Tryd.ntmps86
  go_wp2
  go_rounds 1
  go_ret
  exact ⟨rfl, Below.refl _ _⟩

theorem sameValues_any (s1 s2 : Option Addr) (c1 c2 : Nat) (l : List Val) (w : World) (h63 : l.length ≤ maxLen) (h1 : ValsAt w s1 l) (h2 : ValsAt w s2 l) :
    Calls Tryd.prog 86 #[.slice s1 l.length c1, .slice s2 l.length c2] w fun e w' => e = .returned (.bool true) ∧ Below w.heap.size w w' := by
  rcases h1 with rfl | ⟨b1, o1, rfl, hb1, h1⟩
  · exact sameValues_nil s1 s2 c1 c2 w
  · rcases h2 with rfl | ⟨b2, o2, rfl, hb2, h2⟩
    · exact sameValues_nil _ s2 c1 c2 w
    · exact sameValues_loop b1 o1 c1 b2 o2 c2 l w h63 hb1 hb2 h1 h2
end Go.Proofs.YtmapdpcfanecdaaDoor
