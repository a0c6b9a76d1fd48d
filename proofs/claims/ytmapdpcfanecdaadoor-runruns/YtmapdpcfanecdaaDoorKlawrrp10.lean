/- Walks over package run: what the machine does, kind by kind. -/
import Derived.Test.YtmapdpcfanecdaaDoorKlawrrp09
import Derived.Test.YtmapdpcfanecdaaDoorKlawrrp08
namespace Go.Proofs.YtmapdpcfanecdaaDoor
set_option linter.unusedVariables false
set_option linter.unusedSimpArgs false

theorem okValB_iff {T : Nat} {v : Val} : okValB T v = true ↔ okVal T v := by
  unfold okValB okVal btw
  simp only [Bool.or_eq_true, Bool.and_eq_true, decide_eq_true_eq]
  constructor
  · rintro (h | h | h | h)
    · exact .inl h
    · exact .inr (.inl ⟨h.1, h.2⟩)
    · exact .inr (.inr (.inl ⟨h.1, by omega⟩))
    · exact .inr (.inr (.inr ⟨h.1, by omega, by omega⟩))
  · rintro (h | h | h | h)
    · exact .inl h
    · exact .inr (.inl ⟨h.1, h.2⟩)
    · exact .inr (.inr (.inl ⟨h.1, by omega⟩))
    · exact .inr (.inr (.inr ⟨h.1, by omega, by omega⟩))

/-- A run that is right. -/
structure RunOk (V F : Int) (c : List Ins) (r : St) : Prop where
  at0 : 0 ≤ r.at_
  at1 : r.at_ ≤ c.length
  tk : 0 ≤ r.taken
  fin0 : 0 ≤ r.fin
  fin5 : r.fin ≤ 5
  vars : (r.vars.length : Int) = V
  things : r.things.length ≤ 100
  sites : ∀ t ∈ r.things, isNew c t.site = true
  fields : ∀ t ∈ r.things, (t.fs.length : Int) = F
  vals : ∀ v ∈ r.vars, okVal r.things.length v
  fvals : ∀ t ∈ r.things, ∀ v ∈ t.fs, okVal r.things.length v

theorem ckRun_ok {V F : Int} {c : List Ins} {r : St} (h : ckRun V F c r = 0) : RunOk V F c r := by
  unfold ckRun at h
  split at h
  · cases h
  rename_i h1
  split at h
  · cases h
  rename_i h2
  split at h
  · cases h
  rename_i h3
  split at h
  · cases h
  rename_i h4
  split at h
  · cases h
  rename_i h5
  split at h
  · cases h
  rename_i h6
  simp only [btw, Bool.or_eq_true, Bool.not_eq_true', decide_eq_false_iff_not, decide_eq_true_eq, not_or, Decidable.not_not] at h1
  simp only [ne_eq, Decidable.not_not] at h2
  simp only [Bool.not_eq_false, List.all_eq_true, decide_eq_true_eq, Bool.and_eq_true] at h4 h5 h6
  exact ⟨by omega, by omega, by omega, by omega, by omega, h2, by omega, h4, h5, fun v hv => okValB_iff.1 (h6.1 v hv), fun t ht v hv => okValB_iff.1 (h6.2 t ht v hv)⟩

section
variable {V F L : Int} {i : Ins}
theorem ckOne_parts (h : ckOne V F L i = 0) : btw i.k 1 19 = true ∧ (nTo i.k = true → 0 ≤ i.to ∧ i.to < V) ∧ (nA i.k = true → 0 ≤ i.a ∧ i.a < V) ∧ (nB i.k = true → 0 ≤ i.b ∧ i.b < V) ∧ (i.k = 12 ∨ i.k = 13 → 0 ≤ i.n ∧ i.n < F) ∧ (nG i.k = true → 0 ≤ i.g ∧ i.g ≤ L) ∧ (i.k = 1 → -2147483648 ≤ i.n ∧ i.n ≤ 2147483647) ∧ (i.k = 2 → i.n = 0 ∨ i.n = 1) ∧ (i.k = 14 → 0 ≤ i.n ∧ i.n ≤ 1000000) := by
  unfold ckOne at h
  split at h
  · cases h
  rename_i h1
  split at h
  · cases h
  rename_i h2
  split at h
  · cases h
  rename_i h3
  simp only [Bool.or_eq_true, Bool.and_eq_true, Bool.not_eq_true', not_or, not_and, Bool.not_eq_false, decide_eq_true_eq, btw] at h2 h3
  obtain ⟨⟨⟨⟨a1, a2⟩, a3⟩, a4⟩, a5⟩ := h2
  obtain ⟨⟨b1, b2⟩, b3⟩ := h3
  refine ⟨by simpa using h1, fun h => ?_, fun h => ?_, fun h => ?_, fun h => ?_, fun h => ?_, fun h => ?_, fun h => ?_, fun h => ?_⟩
  · have := a1 h; omega
  · have := a2 h; omega
  · have := a3 h; omega
  · have := a4 h; omega
  · have := a5 h; omega
  · have := b1 h; omega
  · have := b2 h; omega
  · have := b3 h; omega
end

theorem ckAll_mem {V F L : Int} {c : List Ins} (h : ckAll V F L c = 0) : ∀ i ∈ c, ckOne V F L i = 0 := by
  induction c with
  | nil => intro i hi; cases hi
  | cons x r ih =>
    unfold ckAll at h
    split at h
    · rename_i hx
      intro i hi
      rcases List.mem_cons.1 hi with rfl | hi
      · exact hx
      · exact ih h i hi
    · rename_i hx; exact absurd h hx
structure ProgOk (V F : Int) (c : List Ins) : Prop where
  v1 : 1 ≤ V
  v8 : V ≤ 8
  f0 : 0 ≤ F
  f3 : F ≤ 3
  len : c.length ≤ 60
  each : ∀ i ∈ c, ckOne V F c.length i = 0
theorem progOk_of {V F : Int} {c : List Ins} (h : ckProg V F c = 0) : ProgOk V F c := by
  unfold ckProg at h
  split at h
  · cases h
  rename_i h1
  split at h
  · cases h
  rename_i h2
  simp [btw] at h1
  exact ⟨by omega, by omega, by omega, by omega, by omega, ckAll_mem h⟩

theorem insAt_eq {c : List Ins} {p : Nat} (h : p < c.length) : insAt c (p : Int) = c[p] := by
  unfold insAt
  simp [List.getD, List.getElem?_eq_getElem h]
theorem insAt_mem {c : List Ins} {p : Int} (h0 : 0 ≤ p) (h : p < c.length) : insAt c p ∈ c := by
  obtain ⟨k, rfl⟩ := Int.eq_ofNat_of_zero_le h0
  rw [insAt_eq (by omega)]
  exact List.getElem_mem _

theorem okVal_mono {T T' : Nat} {v : Val} (h : okVal T v) (hT : T ≤ T') : okVal T' v := by
  unfold okVal at h ⊢
  omega
theorem okVal_zero {T : Nat} : okVal T ⟨0, 0⟩ := .inl ⟨rfl, rfl⟩
theorem wr_range (n : Int) : -2147483648 ≤ wr n ∧ wr n ≤ 2147483647 := by unfold wr; omega
theorem okVal_num {T : Nat} (n : Int) : okVal T ⟨1, wr n⟩ := .inr (.inl ⟨rfl, wr_range n⟩)
theorem okVal_tru {T : Nat} (b : Bool) : okVal T (truV b) := .inr (.inr (.inl ⟨rfl, by cases b <;> simp [truV]⟩))
theorem varAt_mem {r : St} {i : Int} (h0 : 0 ≤ i) (h : i < r.vars.length) : varAt r i ∈ r.vars := by
  obtain ⟨k, rfl⟩ := Int.eq_ofNat_of_zero_le h0
  have hk : k < r.vars.length := by omega
  unfold varAt
  simp only [Int.toNat_natCast, List.getD, List.getElem?_eq_getElem hk, Option.getD_some]
  exact List.getElem_mem hk
theorem varAt_eq {r : St} {k : Nat} (h : k < r.vars.length) : varAt r (k : Int) = r.vars[k] := by
  unfold varAt
  simp [List.getD, List.getElem?_eq_getElem h]
theorem fieldAt_eq {r : St} {t f : Nat} (h : t < r.things.length) (hf : f < r.things[t].fs.length) : fieldAt r (t : Int) (f : Int) = r.things[t].fs[f] := by
  unfold fieldAt
  simp [List.getD, List.getElem?_eq_getElem h, List.getElem?_eq_getElem hf]
theorem clamp_range {n x : Int} (h0 : 0 ≤ n) : -n ≤ clamp n x ∧ clamp n x ≤ n := by unfold clamp; split; omega; split <;> omega
theorem mem_set_or {α : Type} {l : List α} {i : Nat} {v x : α} (h : x ∈ l.set i v) : x = v ∨ x ∈ l := (List.mem_or_eq_of_mem_set h).symm

/-- What an instruction makes is a value. -/
theorem makes_ok {V F : Int} {c : List Ins} {r : St} {ins : List Int} (hr : RunOk V F c r) {i : Ins} (hi : ckOne V F c.length i = 0) {a b : Val} (ha : okVal r.things.length a) (he : endOf r.things.length i a b = 0) :
    okVal (if i.k = 11 then r.things.length + 1 else r.things.length) (makes r ins i a b) := by
  obtain ⟨h1, h2, h3, h4, h5, h6, h7, h8, h9⟩ := ckOne_parts hi
  have up : ∀ {v : Val}, okVal r.things.length v → okVal (if i.k = 11 then r.things.length + 1 else r.things.length) v := fun h => okVal_mono h (by split <;> omega)
  unfold makes
  by_cases k1 : i.k = 1
  · rw [if_pos k1]; exact up (.inr (.inl ⟨rfl, h7 k1⟩))
  rw [if_neg k1]
  by_cases k2 : i.k = 2
  · rw [if_pos k2]; exact up (.inr (.inr (.inl ⟨rfl, h8 k2⟩)))
  rw [if_neg k2]
  by_cases k4 : i.k = 4
  · rw [if_pos k4]; exact up ha
  rw [if_neg k4]
  by_cases k5 : i.k = 5
  · rw [if_pos k5]; exact okVal_num _
  rw [if_neg k5]
  by_cases k6 : i.k = 6
  · rw [if_pos k6]; exact okVal_num _
  rw [if_neg k6]
  by_cases k7 : i.k = 7
  · rw [if_pos k7]; exact okVal_num _
  rw [if_neg k7]
  by_cases k8 : i.k = 8
  · rw [if_pos k8]; exact okVal_tru _
  rw [if_neg k8]
  by_cases k9 : i.k = 9
  · rw [if_pos k9]; exact okVal_tru _
  rw [if_neg k9]
  by_cases k10 : i.k = 10
  · rw [if_pos k10]; exact okVal_tru _
  rw [if_neg k10]
  by_cases k11 : i.k = 11
  · rw [if_pos k11, if_pos k11]
    exact .inr (.inr (.inr ⟨rfl, by simp only; omega, by simp only; omega⟩))
  rw [if_neg k11, if_neg k11]
  by_cases k12 : i.k = 12
  · rw [if_pos k12]
    have hk3 : a.k = 3 := by
      unfold endOf at he
      simp [k12, btw] at he
      exact he
    rcases ha with ha | ha | ha | ha
    · omega
    · omega
    · omega
    · obtain ⟨t, ht⟩ := Int.eq_ofNat_of_zero_le ha.2.1
      obtain ⟨f, hf⟩ := Int.eq_ofNat_of_zero_le (h5 (.inl k12)).1
      have htl : t < r.things.length := by omega
      have hfl : f < r.things[t].fs.length := by have := hr.fields _ (List.getElem_mem htl); have := (h5 (.inl k12)).2; omega
      rw [ht, hf, fieldAt_eq htl hfl]
      exact hr.fvals _ (List.getElem_mem htl) _ (List.getElem_mem hfl)
  rw [if_neg k12]
  by_cases k14 : i.k = 14
  · rw [if_pos k14]
    have := clamp_range (x := ins.getD r.taken.toNat 0) (h9 k14).1
    have := (h9 k14).2
    refine .inr (.inl ⟨rfl, ?_⟩)
    simp only
    split <;> omega
  · rw [if_neg k14]; exact okVal_zero

theorem mem_modify_or {α : Type} {l : List α} {i : Nat} {f : α → α} {x : α} (h : x ∈ l.modify i f) : x ∈ l ∨ ∃ y ∈ l, x = f y := by
  obtain ⟨k, hk, rfl⟩ := List.getElem_of_mem h
  rw [List.getElem_modify]
  rw [List.length_modify] at hk
  split
  · exact .inr ⟨_, List.getElem_mem hk, rfl⟩
  · exact .inl (List.getElem_mem hk)

theorem doIns_ok {V F : Int} {c : List Ins} {r : St} {ins : List Int} (hp : ProgOk V F c) (hr : RunOk V F c r) (hat : r.at_ < c.length) (htk : r.taken < 9223372036854775807) {i : Ins} (hii : i = insAt c r.at_) {a b : Val} (ha : okVal r.things.length a) (hb : okVal r.things.length b) (he : endOf r.things.length i a b = 0) :
    RunOk V F c (doIns F ins r i a b) := by
  have hi : ckOne V F c.length i = 0 := hp.each _ (by rw [hii]; exact insAt_mem hr.at0 hat)
  have hm := makes_ok (ins := ins) hr hi (b := b) ha he
  obtain ⟨h1, h2, h3, h4, h5, h6, h7, h8, h9⟩ := ckOne_parts hi
  have HR : ∀ q : St, q.at_ = r.at_ → 0 ≤ q.taken → q.fin = r.fin → (q.vars.length : Int) = V → q.things.length ≤ 100 → (∀ t ∈ q.things, isNew c t.site = true) → (∀ t ∈ q.things, (t.fs.length : Int) = F) → (∀ v ∈ q.vars, okVal q.things.length v) → (∀ t ∈ q.things, ∀ v ∈ t.fs, okVal q.things.length v) → okVal q.things.length (makes r ins i a b) →
      RunOk V F c { (if nTo i.k then putVar q i.to (makes r ins i a b) else q) with at_ := if i.k = 16 ∨ (i.k = 15 ∧ cnt a = true) then i.g else r.at_ + 1 } := by
    intro q q1 q2 q3 q4 q5 q6 q7 q8 q9 q10
    have hg : 0 ≤ (if i.k = 16 ∨ (i.k = 15 ∧ cnt a = true) then i.g else r.at_ + 1) ∧ (if i.k = 16 ∨ (i.k = 15 ∧ cnt a = true) then i.g else r.at_ + 1) ≤ c.length := by
      split
      · rename_i hk
        exact h6 (by unfold nG; rcases hk with hk | hk <;> simp [hk])
      · have := hr.at0; omega
    have f0 := hr.fin0
    have f5 := hr.fin5
    cases hn : nTo i.k with
    | true =>
      simp only [if_true, putVar]
      exact ⟨hg.1, hg.2, q2, by simp only; omega, by simp only; omega, by simpa using q4, q5, q6, q7, fun v hv => by
        rcases mem_set_or hv with rfl | hv
        · exact q10
        · exact q8 v hv, q9⟩
    | false =>
      simp only [Bool.false_eq_true, if_false]
      exact ⟨hg.1, hg.2, q2, by simp only; omega, by simp only; omega, q4, q5, q6, q7, q8, q9⟩
  unfold doIns
  simp only
  by_cases k11 : i.k = 11
  · rw [if_pos k11] at hm
    have hT : r.things.length ≠ 100 := by
      intro h100
      unfold endOf at he
      simp [k11, btw, h100] at he
    have hl := hr.things
    rw [if_pos k11]
    refine HR _ rfl hr.tk rfl hr.vars (by simp; omega) (fun t ht => ?_) (fun t ht => ?_) (fun v hv => ?_) (fun t ht v hv => ?_) (by simpa using hm)
    · rcases List.mem_append.1 ht with ht | ht
      · exact hr.sites t ht
      · obtain rfl := List.mem_singleton.1 ht
        simp only
        unfold isNew
        rw [← hii, k11, btw_true hr.at0 (by omega)]
        rfl
    · rcases List.mem_append.1 ht with ht | ht
      · exact hr.fields t ht
      · obtain rfl := List.mem_singleton.1 ht
        have := hp.f0
        simp; omega
    · exact okVal_mono (hr.vals v hv) (by simp)
    · rcases List.mem_append.1 ht with ht | ht
      · exact okVal_mono (hr.fvals t ht v hv) (by simp)
      · obtain rfl := List.mem_singleton.1 ht
        rw [(List.mem_replicate.1 hv).2]
        exact okVal_zero
  rw [if_neg k11] at hm
  rw [if_neg k11]
  by_cases k13 : i.k = 13
  · rw [if_pos k13]
    unfold putField
    refine HR _ rfl hr.tk rfl hr.vars (by simpa using hr.things) (fun t ht => ?_) (fun t ht => ?_) (fun v hv => ?_) (fun t ht v hv => ?_) (by simpa using hm)
    · rcases mem_modify_or ht with ht | ⟨y, hy, rfl⟩
      · exact hr.sites t ht
      · exact hr.sites y hy
    · rcases mem_modify_or ht with ht | ⟨y, hy, rfl⟩
      · exact hr.fields t ht
      · simpa using hr.fields y hy
    · simpa using hr.vals v hv
    · simp only [List.length_modify]
      rcases mem_modify_or ht with ht | ⟨y, hy, rfl⟩
      · exact hr.fvals t ht v hv
      · rcases mem_set_or hv with rfl | hv
        · exact hb
        · exact hr.fvals y hy v hv
  rw [if_neg k13]
  by_cases k14 : i.k = 14
  · rw [if_pos k14]
    have := hr.tk
    exact HR _ rfl (by simp only; rw [w64_of (by omega) (by omega)]; omega) rfl hr.vars hr.things hr.sites hr.fields hr.vals hr.fvals hm
  rw [if_neg k14]
  by_cases k18 : i.k = 18
  · rw [if_pos k18]
    exact HR _ rfl hr.tk rfl hr.vars hr.things hr.sites hr.fields hr.vals hr.fvals hm
  rw [if_neg k18]
  exact HR _ rfl hr.tk rfl hr.vars hr.things hr.sites hr.fields hr.vals hr.fvals hm

/-- What a step's instruction reads. -/
def aOf (r : St) (i : Ins) : Val := if nA i.k then varAt r i.a else ⟨0, 0⟩
def bOf (r : St) (i : Ins) : Val := if nB i.k then varAt r i.b else ⟨0, 0⟩
theorem aOf_ok {V F : Int} {c : List Ins} {r : St} (hr : RunOk V F c r) {i : Ins} (hi : ckOne V F c.length i = 0) : okVal r.things.length (aOf r i) := by
  unfold aOf
  split
  · rename_i h
    have := (ckOne_parts hi).2.2.1 h
    exact hr.vals _ (varAt_mem this.1 (by rw [hr.vars]; exact this.2))
  · exact okVal_zero
theorem bOf_ok {V F : Int} {c : List Ins} {r : St} (hr : RunOk V F c r) {i : Ins} (hi : ckOne V F c.length i = 0) : okVal r.things.length (bOf r i) := by
  unfold bOf
  split
  · rename_i h
    have := (ckOne_parts hi).2.2.2.1 h
    exact hr.vals _ (varAt_mem this.1 (by rw [hr.vars]; exact this.2))
  · exact okVal_zero
theorem endOf_range (T : Nat) (i : Ins) (a b : Val) : 0 ≤ endOf T i a b ∧ endOf T i a b ≤ 5 := by
  unfold endOf
  split
  · omega
  split
  · omega
  split
  · omega
  split
  · omega
  · omega
theorem RunOk.finish {V F : Int} {c : List Ins} {r : St} (hr : RunOk V F c r) (x : Int) (h0 : 0 ≤ x) (h5 : x ≤ 5) : RunOk V F c { r with fin := x } :=
  ⟨hr.at0, hr.at1, hr.tk, h0, h5, hr.vars, hr.things, hr.sites, hr.fields, hr.vals, hr.fvals⟩

theorem stepSt_ok {V F : Int} {c : List Ins} {r : St} (ins : List Int) (hp : ProgOk V F c) (hr : RunOk V F c r) (htk : r.taken < 9223372036854775807) : RunOk V F c (stepSt F c ins r) := by
  unfold stepSt
  split
  · exact hr
  split
  · exact hr.finish 1 (by omega) (by omega)
  rename_i h1 h2
  have hat : r.at_ < c.length := by have := hr.at1; omega
  have hi : ckOne V F c.length (insAt c r.at_) = 0 := hp.each _ (insAt_mem hr.at0 hat)
  have e := endOf_range r.things.length (insAt c r.at_) (aOf r (insAt c r.at_)) (bOf r (insAt c r.at_))
  show RunOk V F c (if endOf r.things.length (insAt c r.at_) (aOf r (insAt c r.at_)) (bOf r (insAt c r.at_)) ≠ 0 then _ else doIns F ins r (insAt c r.at_) (aOf r (insAt c r.at_)) (bOf r (insAt c r.at_)))
  split
  · exact hr.finish _ e.1 e.2
  · rename_i h0
    exact doIns_ok hp hr hat htk rfl (aOf_ok hr hi) (bOf_ok hr hi) (by simpa using h0)
end Go.Proofs.YtmapdpcfanecdaaDoor

namespace Go.Proofs.YtmapdpcfanecdaaDoor
set_option linter.unusedVariables false
set_option linter.unusedSimpArgs false
open Go.RowKit
attribute [local go_sem ↓] Go.wp_at_zero Go.wp_at_succ
theorem hideK {p : Prop} (h : p) : Hid p := h

/-- What a call of the machine's leaves: the run, in memory of its own; all else as it was. -/
def MStep (w w' : World) (B m : Nat) (bs : List (Option Nat)) (s : St) : Prop := (∃ vv tv lv fv, OwnRun w' B m s vv tv lv fv) ∧ Below B w w' ∧ (∀ j, 6 ≤ j → w'.cell? ⟨m, j, none⟩ = w.cell? ⟨m, j, none⟩) ∧ ∀ k, k < w.heap.size → some k ∉ bs → w'.heap[k]? = w.heap[k]?
theorem frame_put {w wl : World} {bs : List (Option Nat)} (HW : Below w.heap.size w wl) {g : Nat} (hg : some g ∈ bs) (j j' : Nat) (u u' : Value) : ∀ k, k < w.heap.size → some k ∉ bs → ((wl.setCell ⟨g, j, none⟩ u).setCell ⟨g, j', none⟩ u').heap[k]? = w.heap[k]? := fun k hk hn => by
  rw [heap_set2 _ _ _ _ _ _ k (fun e => hn (by rw [e]; exact hg))]
  exact HW.block k hk
theorem frame_same {w wl : World} {bs : List (Option Nat)} (HW : Below w.heap.size w wl) : ∀ k, k < w.heap.size → some k ∉ bs → wl.heap[k]? = w.heap[k]? := fun k hk _ => HW.block k hk
theorem frame_trans {w w1 w2 : World} {bs : List (Option Nat)} (h1 : ∀ k, k < w.heap.size → some k ∉ bs → w1.heap[k]? = w.heap[k]?) (hs : w.heap.size ≤ w1.heap.size) (h2 : ∀ k, k < w1.heap.size → some k ∉ bs → w2.heap[k]? = w1.heap[k]?) : ∀ k, k < w.heap.size → some k ∉ bs → w2.heap[k]? = w.heap[k]? := fun k hk hn => by
  rw [h2 k (Nat.lt_of_lt_of_le hk hs) hn, h1 k hk hn]
theorem frame_grow {w w3 : World} {bs : List (Option Nat)} {row : Option Nat} (hg : w.grownBy w3 row) (hr : ∀ k, row = some k → some k ∈ bs) {m : Nat} (hm : some m ∈ bs) (j : Nat) (u : Value) : ∀ k, k < w.heap.size → some k ∉ bs → (w3.setCell ⟨m, j, none⟩ u).heap[k]? = w.heap[k]? := fun k hk hn => by
  rw [Below.heap_setCell _ _ _ _ (fun e => hn (by rw [e]; exact hm))]
  exact hg.block k hk (fun e => hn (hr k e.symm))
theorem frame_set {w : World} {bs : List (Option Nat)} {m : Nat} (hm : some m ∈ bs) (j : Nat) (u : Value) : ∀ k, k < w.heap.size → some k ∉ bs → (w.setCell ⟨m, j, none⟩ u).heap[k]? = w.heap[k]? := fun k hk hn =>
  Below.heap_setCell _ _ _ _ (fun e => hn (by rw [e]; exact hm))
theorem cells_apart {w : World} {g k : Nat} (hk : k ≠ g) (j j' : Nat) (u u' : Value) (i : Nat) : ((w.setCell ⟨g, j, none⟩ u).setCell ⟨g, j', none⟩ u').cell? ⟨k, i, none⟩ = w.cell? ⟨k, i, none⟩ := cell_set2 w g j j' u u' k i hk

theorem w64_wrap (n : Int) : wrap64 n = w64 n := by unfold wrap64 w64; omega
theorem clamp_max {n x : Int} (h : 0 ≤ n) : max (-n) (min x n) = clamp n x := by
  unfold clamp
  split
  · omega
  · split <;> omega
/-- The input that is taken, held within its limit. -/
def inputOf (ins : List Int) (tk lim : Int) : Int := if tk < ins.length then clamp lim (ins.getD tk.toNat 0) else 0
set_option maxHeartbeats 2000000 in
set_option maxRecDepth 20000 in
theorem takeM_any (m B : Nat) (s : St) (vv tv lv : Value) (fv : List Value) (lim : Int) (is : Option Addr) (ic : Nat) (ins : List Int) (w : World) (h : OwnRun w B m s vv tv lv fv) (hl0 : 0 ≤ lim) (hl1 : lim ≤ 1000000) (h9 : w.cell? ⟨m, 9, none⟩ = some (.slice is ins.length ic)) (hi : IntsAt w is ins) (htk : 0 ≤ s.taken) :
    Calls Tryd.prog 101 #[.pointer (some ⟨m, 0, none⟩), .int .i64 lim] w fun e w' => e = .returned (.int .i64 (inputOf ins s.taken lim)) ∧ ∃ w1, Below w.heap.size w w1 ∧ w' = w1.setCell ⟨m, 3, none⟩ (.int .i64 (w64 (s.taken + 1))) := by
  have q3 := h.taken_
  have fz := h.thaw 3
  have g0 : -9223372036854775808 ≤ -lim := by omega
  have g1 : -lim ≤ 9223372036854775807 := by omega
  by_cases hlt : s.taken < ins.length
  · obtain ⟨k, hk⟩ := Int.eq_ofNat_of_zero_le htk
    have hkl : k < ins.length := by omega
    rcases hi with hi | ⟨b, off, rfl, hb, hi⟩
    · rw [hi] at hkl; simp at hkl
    have c0 := hi k hkl
    have n0 : (0 : Int) ≤ (k : Int) := by omega
    have n1 : (k : Int) < (ins.length : Int) := by omega
    have HR : Hid (inputOf ins s.taken lim = clamp lim ins[k]) := by
      show _ = _
      unfold inputOf
      rw [if_pos hlt, hk]
      simp [List.getD, List.getElem?_eq_getElem hkl]
    have HT : Hid (w64 (s.taken + 1) = wrap64 (k + 1)) := by show _ = _; rw [hk, w64_wrap]
    rw [hk] at q3
    rw [HT.out]
    clear hi hlt hk htk h HT
    go_enter Tryd.func101, Tryd.ntmps101
    go_wp2
    go_quiet (fail)
    go_wp2
    go_quiet (fail)
    go_wp2
    all_goals
      go_ret
      refine ⟨ret_int ?_, _, ?_, rfl⟩
      · rw [HR.out]
        unfold clamp
        first | omega | (split <;> first | omega | (split <;> omega))
      · exact below_drewN (Below.refl _ _) _
  · have HR : Hid (inputOf ins s.taken lim = 0) := by show _ = _; unfold inputOf; rw [if_neg hlt]
    rw [HR.out]
    have HT : Hid (w64 (s.taken + 1) = wrap64 (s.taken + 1)) := by show _ = _; rw [w64_wrap]
    rw [HT.out]
    have hnl : ¬ (s.taken < (ins.length : Int)) := hlt
    clear hi htk h HT
    go_enter Tryd.func101, Tryd.ntmps101
    go_wp2
    go_quiet (fail)
    go_wp2
    all_goals
      go_ret
      refine ⟨ret_int ?_, _, ?_, rfl⟩
      · first | rfl | omega
      · exact below_drewN (Below.refl _ _) _
end Go.Proofs.YtmapdpcfanecdaaDoor

namespace Go.Proofs.YtmapdpcfanecdaaDoor
set_option linter.unusedVariables false
set_option linter.unusedSimpArgs false
open Go.RowKit
attribute [local go_sem ↓] Go.wp_at_zero Go.wp_at_succ

/-- Slices as they are held. -/
def slV (p : Option Addr × Nat) (n : Nat) : Value := .slice p.1 n p.2
/-- The things' field slices, written out. -/
theorem ThgsAt.list {w : World} {s : Option Addr} {l : List Thg} (h : ThgsAt w s l) : ∃ fo : List Value, fo.length = l.length ∧ (∀ k (h : k < l.length) (h' : k < fo.length), ∃ f fc, fo[k] = .slice f l[k].fs.length fc ∧ ValsAt w f l[k].fs) ∧ (l = [] ∨ ∃ b off, s = some ⟨b, off, none⟩ ∧ b < w.heap.size ∧ ∀ k (h : k < l.length) (h' : k < fo.length), w.cell? ⟨b, off + k * 2, none⟩ = some (.int .i64 l[k].site) ∧ w.cell? ⟨b, off + k * 2 + 1, none⟩ = some fo[k]) := by
  rcases h with rfl | ⟨b, off, rfl, hb, hi⟩
  · exact ⟨[], rfl, fun k h => by simp at h, .inl rfl⟩
  · have each : ∀ k, ∃ v : Value, ∀ h : k < l.length, (∃ f fc, v = .slice f l[k].fs.length fc ∧ ValsAt w f l[k].fs) ∧ w.cell? ⟨b, off + k * 2 + 1, none⟩ = some v := by
      intro k
      by_cases hk : k < l.length
      · obtain ⟨-, f, fc, h2, h3⟩ := hi k hk
        exact ⟨.slice f l[k].fs.length fc, fun _ => ⟨⟨f, fc, rfl, h3⟩, h2⟩⟩
      · exact ⟨.int .i64 0, fun h => absurd h hk⟩
    refine ⟨(List.range l.length).map fun k => Classical.choose (each k), by simp, fun k h h' => ?_, .inr ⟨b, off, rfl, hb, fun k h h' => ⟨(hi k h).1, ?_⟩⟩⟩
    · simp only [List.getElem_map, List.getElem_range]
      exact (Classical.choose_spec (each k) h).1
    · simp only [List.getElem_map, List.getElem_range]
      exact (Classical.choose_spec (each k) h).2
theorem thgCells_get (ss : List Int) (fs : List Value) (h : fs.length = ss.length) (j : Nat) (u : Value) (hu : (thgCells ss fs)[j]? = some u) : ∃ k, ∃ h1 : k < ss.length, ∃ h2 : k < fs.length, (j = k * 2 ∧ u = .int .i64 ss[k]) ∨ (j = k * 2 + 1 ∧ u = fs[k]) := by
  have hj : j < ss.length * 2 := by
    have := (List.getElem?_eq_some_iff.1 hu).1
    rw [thgCells_length ss fs h] at this
    exact this
  have hk : j / 2 < ss.length := by omega
  have hk' : j / 2 < fs.length := by omega
  refine ⟨j / 2, hk, hk', ?_⟩
  rcases Nat.mod_two_eq_zero_or_one j with hm | hm
  · left
    have e : j = j / 2 * 2 := by omega
    refine ⟨e, ?_⟩
    have := thgCells_site ss fs h (j / 2) hk
    rw [← e, hu] at this
    exact Option.some.inj this
  · right
    have e : j = j / 2 * 2 + 1 := by omega
    refine ⟨e, ?_⟩
    have := thgCells_field ss fs h (j / 2) hk'
    rw [← e, hu] at this
    exact Option.some.inj this
theorem valCells_get (l : List Val) (j : Nat) (u : Value) (hu : (valCells l)[j]? = some u) : ∃ k, ∃ h : k < l.length, (j = k * 2 ∧ u = .int .i64 l[k].k) ∨ (j = k * 2 + 1 ∧ u = .int .i64 l[k].n) := by
  have hj : j < l.length * 2 := by
    have := (List.getElem?_eq_some_iff.1 hu).1
    rw [valCells_length l] at this
    exact this
  have hk : j / 2 < l.length := by omega
  refine ⟨j / 2, hk, ?_⟩
  rcases Nat.mod_two_eq_zero_or_one j with hm | hm
  · left
    have e : j = j / 2 * 2 := by omega
    refine ⟨e, ?_⟩
    have := valCells_k l (j / 2) hk
    rw [← e, hu] at this
    exact Option.some.inj this
  · right
    have e : j = j / 2 * 2 + 1 := by omega
    refine ⟨e, ?_⟩
    have := valCells_n l (j / 2) hk
    rw [← e, hu] at this
    exact Option.some.inj this
theorem thgCells_set : ∀ (ss : List Int) (fs : List Value) (_ : fs.length = ss.length) (i : Nat) (_ : i < fs.length) (v : Value), (thgCells ss fs).set (i * 2 + 1) v = thgCells ss (fs.set i v)
  | [], [], _, _, h, _ => by simp at h
  | [], _ :: _, h, _, _, _ => by simp at h
  | _ :: _, [], h, _, _, _ => by simp at h
  | _ :: _, _ :: _, _, 0, _, _ => rfl
  | a :: ss, b :: fs, h, i + 1, hi, v => by
    have := thgCells_set ss fs (by simpa using h) i (by simpa using hi) v
    rw [show (i + 1) * 2 + 1 = (i * 2 + 1) + 1 + 1 by omega]
    simp only [thgCells, List.set_cons_succ, this]
/-- The cells of a list of values are read behind its address. -/
theorem ValsAt.news {w : World} {s : Option Addr} {l : List Val} (h : ValsAt w s l) : ∀ ad, s = some ad → ∀ j u, (valCells l)[j]? = some u → w.cell? (ad.add j) = some u := by
  intro ad hs j u hu
  rcases h with rfl | ⟨b, off, rfl, hb, hi⟩
  · simp [valCells] at hu
  · cases hs
    obtain ⟨k, hk, ⟨rfl, rfl⟩ | ⟨rfl, rfl⟩⟩ := valCells_get l j u hu
    · have e : (⟨b, off, none⟩ : Addr).add (k * 2) = ⟨b, off + k * 2, none⟩ := by unfold Addr.add; split <;> simp_all
      rw [e]; exact (hi k hk).1
    · have e : (⟨b, off, none⟩ : Addr).add (k * 2 + 1) = ⟨b, off + k * 2 + 1, none⟩ := by unfold Addr.add; split <;> simp_all [Nat.add_assoc]
      rw [e]; exact (hi k hk).2
theorem ValsAt.nil {w : World} {s : Option Addr} {l : List Val} (h : ValsAt w s l) : s = none → l.length = 0 := by
  rintro rfl
  rcases h with rfl | ⟨b, off, h, _⟩
  · rfl
  · cases h
theorem StrsAt.news {w : World} {s : Option Addr} {l : List ByteArray} (h : StrsAt w s l) : ∀ ad, s = some ad → ∀ j u, (l.map Value.string)[j]? = some u → w.cell? (ad.add j) = some u := by
  intro ad hs j u hu
  rcases h with rfl | ⟨b, off, rfl, hb, hi⟩
  · simp at hu
  · cases hs
    have hj : j < l.length := by have := (List.getElem?_eq_some_iff.1 hu).1; simpa using this
    have e : (⟨b, off, none⟩ : Addr).add j = ⟨b, off + j, none⟩ := by unfold Addr.add; split <;> simp_all
    rw [e, hi j hj]
    simpa [hj] using hu
theorem StrsAt.nil {w : World} {s : Option Addr} {l : List ByteArray} (h : StrsAt w s l) : s = none → l.length = 0 := by
  rintro rfl
  rcases h with rfl | ⟨b, off, h, _⟩
  · rfl
  · cases h
theorem ThgsAt.nil {w : World} {s : Option Addr} {l : List Thg} (h : ThgsAt w s l) : s = none → l.length = 0 := by
  rintro rfl
  rcases h with rfl | ⟨b, off, h, _⟩
  · rfl
  · cases h
theorem one_vals (l : List Val) : ∀ u ∈ valCells l, u.oneCell' = true := by
  induction l with
  | nil => intro u hu; cases hu
  | cons v r ih =>
    intro u hu
    simp only [valCells, List.mem_cons] at hu
    rcases hu with rfl | rfl | hu
    · rfl
    · rfl
    · exact ih u hu
theorem one_strs (l : List ByteArray) : ∀ u ∈ l.map Value.string, u.oneCell' = true := by
  intro u hu
  obtain ⟨x, _, rfl⟩ := List.mem_map.1 hu
  rfl
theorem one_thgs : ∀ (ss : List Int) (fs : List Value) (_ : ∀ v ∈ fs, v.oneCell' = true), ∀ u ∈ thgCells ss fs, u.oneCell' = true
  | [], _, _, u, hu => by simp [thgCells] at hu
  | _ :: _, [], _, u, hu => by simp [thgCells] at hu
  | a :: ss, b :: fs, h, u, hu => by
    simp only [thgCells, List.mem_cons] at hu
    rcases hu with rfl | rfl | hu
    · rfl
    · exact h _ (by simp)
    · exact one_thgs ss fs (fun v hv => h v (by simp [hv])) u hu
end Go.Proofs.YtmapdpcfanecdaaDoor
