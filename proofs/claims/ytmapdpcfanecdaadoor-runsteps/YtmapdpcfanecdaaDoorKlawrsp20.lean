/- Walks over runs: the beginning of one. -/
import Derived.Test.YtmapdpcfanecdaaDoorKlawrsp04
import Derived.Lib.SplitLaws
import Derived.Lib.AtoiTie
import Derived.Lib.ItoaNum
import Derived.Test.YtmapdpcfanecdaaDoorKlawrsp11
import Derived.Test.YtmapdpcfanecdaaDoorKlawrsp13
import Derived.Test.YtmapdpcfanecdaaDoorKlawrsp19
import Derived.OwnWalk
namespace Go.Proofs.YtmapdpcfanecdaaDoor
set_option linter.unusedVariables false
set_option linter.unusedSimpArgs false

/-- A row of bytes cut at every sign c. -/
def cutAll (c : UInt8) : List UInt8 → List (List UInt8)
  | [] => [[]]
  | b :: l => if b = c then [] :: cutAll c l else match cutAll c l with
    | [] => [[b]]
    | x :: r => (b :: x) :: r
/-- .. and put together again. -/
def glue (c : UInt8) : List (List UInt8) → List UInt8
  | [] => []
  | x :: r => x ++ r.flatMap fun y => c :: y

theorem cutAll_form (c : UInt8) (l : List UInt8) : ∃ x r, cutAll c l = x :: r := by
  cases l with
  | nil => exact ⟨_, _, rfl⟩
  | cons b l =>
    unfold cutAll
    split
    · exact ⟨_, _, rfl⟩
    · split <;> exact ⟨_, _, rfl⟩
theorem glue_cut (c : UInt8) : ∀ l, glue c (cutAll c l) = l
  | [] => rfl
  | b :: l => by
    have ih := glue_cut c l
    obtain ⟨x, r, h⟩ := cutAll_form c l
    rw [h] at ih
    unfold cutAll
    split
    · rename_i e
      rw [h]
      simp only [glue, List.flatMap_cons, List.nil_append] at ih ⊢
      rw [e, List.cons_append, ih]
    · rw [h]
      simp only [glue] at ih ⊢
      rw [List.cons_append, ih]
theorem cutAll_free (c : UInt8) : ∀ l, ∀ x ∈ cutAll c l, c ∉ x
  | [], x, hx => by simp [cutAll] at hx; simp [hx]
  | b :: l, x, hx => by
    have ih := cutAll_free c l
    obtain ⟨y, r, h⟩ := cutAll_form c l
    unfold cutAll at hx
    rw [h] at hx ih
    split at hx
    · rcases List.mem_cons.1 hx with rfl | hx
      · simp
      · exact ih x hx
    · rename_i hne
      rcases List.mem_cons.1 hx with rfl | hx
      · intro hm
        rcases List.mem_cons.1 hm with e | hm
        · exact hne e.symm
        · exact ih y (List.mem_cons_self ..) hm
      · exact ih x (List.mem_cons_of_mem _ hx)
theorem cutAll_one (c : UInt8) : ∀ x : List UInt8, c ∉ x → cutAll c x = [x]
  | [], _ => rfl
  | b :: l, h => by
    have hb : ¬ b = c := fun e => h (by simp [e])
    unfold cutAll
    rw [if_neg hb, cutAll_one c l (fun hm => h (List.mem_cons_of_mem _ hm))]
theorem cutAll_app (c : UInt8) (m : List UInt8) : ∀ x : List UInt8, c ∉ x → cutAll c (x ++ c :: m) = x :: cutAll c m
  | [], _ => by show cutAll c (c :: m) = _; unfold cutAll; rw [if_pos rfl]; cases m <;> rfl
  | b :: l, h => by
    have hb : ¬ b = c := fun e => h (by simp [e])
    show cutAll c (b :: (l ++ c :: m)) = _
    unfold cutAll
    rw [if_neg hb, cutAll_app c m l (fun hm => h (List.mem_cons_of_mem _ hm))]
    cases m <;> rfl
theorem cut_glue (c : UInt8) : ∀ (r : List (List UInt8)) (x : List UInt8), (∀ y ∈ x :: r, c ∉ y) → cutAll c (glue c (x :: r)) = x :: r
  | [], x, h => by simp only [glue, List.flatMap_nil, List.append_nil]; exact cutAll_one c x (h x (by simp))
  | y :: r, x, h => by
    have ih := cut_glue c r y (fun z hz => h z (List.mem_cons_of_mem _ hz))
    simp only [glue] at ih
    simp only [glue, List.flatMap_cons, List.cons_append]
    rw [cutAll_app c _ x (h x (by simp)), ih]

/-- What the library's split gives is this. -/
theorem splitK_all (c : UInt8) : ∀ s : List UInt8, Lib.splitK [c] 0 (Lib.count s [c]) s = cutAll c s
  | [] => by rw [Lib.count_miss (by simp [Lib.index])]; rfl
  | b :: l => by
    have ih := splitK_all c l
    by_cases hb : b = c
    · subst hb
      have hix : Lib.index (b :: l) [b] = ((0 : Nat) : Int) := by rw [Lib.index]; simp [List.isPrefixOf]
      rw [Lib.count_cons_eq, Nat.add_comm, Lib.splitK, if_neg (by rw [hix]; decide), hix]
      unfold cutAll
      rw [if_pos rfl, ← ih]
      simp
    · have hp : ([c] : List UInt8).isPrefixOf (b :: l) = false := by simp [List.isPrefixOf, Ne.symm hb]
      have hix : Lib.index (b :: l) [c] = if Lib.index l [c] == -1 then -1 else Lib.index l [c] + 1 := by rw [Lib.index, hp]; simp
      rw [Lib.count_cons_ne b c l hb]
      unfold cutAll
      rw [if_neg hb, ← ih]
      by_cases hm : Lib.index l [c] = -1
      · rw [Lib.count_miss hm]; rfl
      · have hge := Lib.index_ge l [c]
        obtain ⟨j, hj⟩ : ∃ j : Nat, Lib.index l [c] = j := ⟨(Lib.index l [c]).toNat, by omega⟩
        have hix' : Lib.index (b :: l) [c] = ((j + 1 : Nat) : Int) := by rw [hix, if_neg (fun e => hm (beq_iff_eq.1 e)), hj]; omega
        rw [Lib.count_hit (by simp) hj, Nat.add_comm, Lib.splitK, if_neg (by rw [hix']; intro e; have := beq_iff_eq.1 e; omega), hix', Lib.splitK, if_neg (by rw [hj]; intro e; have := beq_iff_eq.1 e; omega), hj]
        simp
/-- .. and its cut: .. -/
theorem cut_none (c : UInt8) : ∀ x : List UInt8, c ∉ x → Lib.index x [c] = -1
  | [], _ => by simp [Lib.index]
  | b :: l, h => by
    have hb : ¬ b = c := fun e => h (by simp [e])
    have hp : ([c] : List UInt8).isPrefixOf (b :: l) = false := by simp [List.isPrefixOf, Ne.symm hb]
    rw [Lib.index, hp]
    have := cut_none c l (fun hm => h (List.mem_cons_of_mem _ hm))
    simp [this]
theorem index_app (c : UInt8) (m : List UInt8) : ∀ x : List UInt8, c ∉ x → Lib.index (x ++ c :: m) [c] = (x.length : Int)
  | [], _ => by show Lib.index (c :: m) [c] = _; rw [Lib.index]; simp [List.isPrefixOf]
  | b :: l, h => by
    have hb : ¬ b = c := fun e => h (by simp [e])
    have hp : ([c] : List UInt8).isPrefixOf (b :: (l ++ c :: m)) = false := by simp [List.isPrefixOf, Ne.symm hb]
    show Lib.index (b :: (l ++ c :: m)) [c] = _
    rw [Lib.index, hp]
    have := index_app c m l (fun hm => h (List.mem_cons_of_mem _ hm))
    rw [this]
    have e1 : ¬ ((l.length : Int) == -1) = true := by intro e; have := beq_iff_eq.1 e; omega
    simp only [Bool.false_eq_true, if_false]
    rw [if_neg e1]
    simp
theorem cut_miss (c : UInt8) (x : List UInt8) (h : c ∉ x) : Lib.cut x [c] = (x, [], false) := by
  unfold Lib.cut
  rw [cut_none c x h, if_neg (by decide)]
theorem cut_hit (c : UInt8) (x m : List UInt8) (h : c ∉ x) : Lib.cut (x ++ c :: m) [c] = (x, m, true) := by
  unfold Lib.cut
  rw [index_app c m x h, if_pos (by omega)]
  simp

/-- A number's word. -/
def numOf (s : List UInt8) : Option Int := if s.length ≤ 11 then (match Lib.atoi s with | some v => if Lib.itoa v = s then some v else none | none => none) else none
theorem numOf_itoa {s : List UInt8} {v : Int} (h : numOf s = some v) : Lib.itoa v = s := by
  unfold numOf at h
  split at h
  · split at h
    · split at h
      · cases h; assumption
      · cases h
    · cases h
  · cases h
theorem decFrom_app (m : List UInt8) : ∀ (l : List UInt8) (acc : Nat), Lib.decFrom acc (l ++ m) = (Lib.decFrom acc l).bind fun n => Lib.decFrom n m
  | [], acc => rfl
  | b :: l, acc => by
    show Lib.decFrom acc (b :: (l ++ m)) = _
    simp only [Lib.decFrom]
    cases Lib.digitVal b with
    | none => rfl
    | some d => exact decFrom_app m l _
theorem digit_one : ∀ d : Fin 10, Lib.digitVal (UInt8.ofNat (48 + d.val)) = some d.val := by decide +kernel
theorem decFrom_dec (u : Nat) : Lib.decFrom 0 (Lib.decDigits u) = some u := by
  induction u using Nat.strongRecOn with
  | _ u ih =>
    by_cases h : u < 10
    · rw [Lib.decDigits, dif_pos h]
      simp only [Lib.decFrom]
      have := digit_one ⟨u, h⟩
      simp only at this
      rw [this]
      simp
    · rw [Lib.decDigits, dif_neg h, decFrom_app, ih (u / 10) (by omega)]
      have := digit_one ⟨u % 10, by omega⟩
      simp only at this
      simp only [Option.bind, Lib.decFrom]
      rw [this]
      simp
      omega
theorem decDigits_ne (u : Nat) : (Lib.decDigits u).isEmpty = false := by
  have := Lib.decDigits_length u
  have h1 := Lib.nDigits_pos u
  cases h : Lib.decDigits u with
  | nil => rw [h] at this; simp at this; omega
  | cons _ _ => rfl
theorem dig_byte : ∀ d : Fin 10, (UInt8.ofNat (48 + d.val)).toNat = 48 + d.val := by decide +kernel
theorem decDigits_digit (u : Nat) : ∀ b ∈ Lib.decDigits u, 48 ≤ b.toNat ∧ b.toNat ≤ 57 := by
  induction u using Nat.strongRecOn with
  | _ u ih =>
    intro b hb
    by_cases h : u < 10
    · rw [Lib.decDigits, dif_pos h] at hb
      have := dig_byte ⟨u, h⟩
      simp only at this
      simp only [List.mem_singleton] at hb
      rw [hb, this]; omega
    · rw [Lib.decDigits, dif_neg h] at hb
      rcases List.mem_append.1 hb with hb | hb
      · exact ih (u / 10) (by omega) b hb
      · have := dig_byte ⟨u % 10, by omega⟩
        simp only at this
        simp only [List.mem_singleton] at hb
        rw [hb, this]; omega
theorem itoa_byte (v : Int) : ∀ b ∈ Lib.itoa v, b.toNat = 45 ∨ (48 ≤ b.toNat ∧ b.toNat ≤ 57) := by
  intro b hb
  unfold Lib.itoa at hb
  split at hb
  · rcases List.mem_cons.1 hb with rfl | hb
    · exact .inl rfl
    · exact .inr (decDigits_digit _ b hb)
  · exact .inr (decDigits_digit _ b hb)
theorem itoa_free (v : Int) : (32 : UInt8) ∉ Lib.itoa v ∧ (10 : UInt8) ∉ Lib.itoa v := by
  refine ⟨fun h => ?_, fun h => ?_⟩ <;>
  · have := itoa_byte v _ h
    revert this
    decide
theorem atoi_itoa (v : Int) : Lib.atoi (Lib.itoa v) = some v := by
  unfold Lib.itoa
  split
  · have : Lib.atoi (45 :: Lib.decDigits v.natAbs) = (Lib.decNat (Lib.decDigits v.natAbs)).map fun (m : Nat) => -(m : Int) := rfl
    rw [this, Lib.decNat, if_neg (by rw [decDigits_ne]; simp), decFrom_dec]
    simp only [Option.map]
    congr 1
    omega
  · cases h : Lib.decDigits v.toNat with
    | nil => have := decDigits_ne v.toNat; rw [h] at this; cases this
    | cons b r =>
      have hb := decDigits_digit v.toNat b (by rw [h]; simp)
      have e1 : (b == 45) = false := by rw [beq_eq_false_iff_ne]; intro e; rw [e] at hb; revert hb; decide
      have e2 : (b == 43) = false := by rw [beq_eq_false_iff_ne]; intro e; rw [e] at hb; revert hb; decide
      have e3 := decFrom_dec v.toNat
      rw [h] at e3
      simp only [Lib.atoi, e1, e2, Bool.false_eq_true, if_false, Lib.decNat, List.isEmpty_cons, e3, Option.map]
      congr 1
      omega
theorem nDigits_le (k u : Nat) (h : u < 10 ^ (k + 1)) : Lib.nDigits u ≤ k + 1 := by
  induction k generalizing u with
  | zero => rw [Lib.nDigits_small (by simpa using h)]; exact Nat.le_refl _
  | succ k ih =>
    by_cases h1 : u < 10
    · rw [Lib.nDigits_small h1]; omega
    · rw [Lib.nDigits_big h1]
      have := ih (u / 10) (by rw [Nat.pow_succ] at h; omega)
      omega
theorem itoa_len {v : Int} (h0 : -9999999999 ≤ v) (h1 : v ≤ 9999999999) : (Lib.itoa v).length ≤ 11 := by
  unfold Lib.itoa
  split
  · have := nDigits_le 9 v.natAbs (by omega)
    rw [List.length_cons, Lib.decDigits_length]; omega
  · have := nDigits_le 9 v.toNat (by omega)
    rw [Lib.decDigits_length]; omega
theorem numOf_of {v : Int} (h0 : -9999999999 ≤ v) (h1 : v ≤ 9999999999) : numOf (Lib.itoa v) = some v := by
  unfold numOf
  rw [if_pos (itoa_len h0 h1), atoi_itoa]
  simp
/-- The parts that a kind names, in their order: 0 to, 1 a, 2 b, 3 goto, and more: n. -/
def prt (k : Nat) : List Nat := match k with
  | 1 => [0, 4] | 2 => [0, 5] | 3 => [0] | 4 => [0, 1] | 5 => [0, 1, 2] | 6 => [0, 1, 2] | 7 => [0, 1, 2] | 8 => [0, 1, 2] | 9 => [0, 1, 2] | 10 => [0, 1]
  | 11 => [0] | 12 => [0, 1, 7] | 13 => [1, 7, 2] | 14 => [0, 6] | 15 => [1, 3] | 16 => [3] | 17 => [1] | 18 => [1] | _ => []
/-- A part is laid into an instruction. -/
def putP (q : Nat) (v : Int) (i : Ins) : Ins := match q with
  | 0 => ⟨i.k, v, i.a, i.b, i.n, i.g⟩
  | 1 => ⟨i.k, i.to, v, i.b, i.n, i.g⟩
  | 2 => ⟨i.k, i.to, i.a, v, i.n, i.g⟩
  | 3 => ⟨i.k, i.to, i.a, i.b, i.n, v⟩
  | _ => ⟨i.k, i.to, i.a, i.b, v, i.g⟩
def putAll : List Nat → List Int → Ins → Ins
  | q :: r, v :: t, i => putAll r t (putP q v i)
  | _, _, i => i
/-- Every word is a number, or none. -/
def numsOf : List (List UInt8) → Option (List Int)
  | [] => some []
  | x :: r => match numOf x with
    | none => none
    | some v => match numsOf r with
      | none => none
      | some t => some (v :: t)
def isKind (w : List UInt8) (n k : Nat) : Bool := (wordB k).data.toList == w && (prt k).length == n
/-- The kind that has this word and so many parts. -/
def kindOf (w : List UInt8) (n : Nat) : Option Nat := [1, 2, 3, 4, 5, 6, 7, 8, 9, 10, 11, 12, 13, 14, 15, 16, 17, 18, 19].find? (isKind w n)
/-- The instruction of a line. -/
def insOf (l : List UInt8) : Option Ins := match cutAll 32 l with
  | [] => none
  | w :: ns => match kindOf w ns.length with
    | none => none
    | some k => match numsOf ns with
      | none => none
      | some vs => some (putAll (prt k) vs ⟨k, 0, 0, 0, 0, 0⟩)
def varsW : List UInt8 := [118, 97, 114, 115]
def fieldsW : List UInt8 := [102, 105, 101, 108, 100, 115]
/-- The two numbers of a first line. -/
def headOf (l : List UInt8) : Option (Int × Int) := match cutAll 32 l with
  | [a, b, c, d] => if a = varsW ∧ c = fieldsW then (match numOf b with
    | none => none
    | some v => match numOf d with
      | none => none
      | some f => some (v, f)) else none
  | _ => none
/-- The instructions of lines, from the line of that number on; or the number of the first that is none. -/
def codeOf : Nat → List (List UInt8) → Except Nat (List Ins)
  | k, [] => .error k
  | k, [x] => if x = [] then .ok [] else .error k
  | k, x :: y :: r => match insOf x with
    | none => .error k
    | some i => match codeOf (k + 1) (y :: r) with
      | .error e => .error e
      | .ok c => .ok (i :: c)
/-- A text. -/
def readAll (s : List UInt8) : Except Nat (Int × Int × List Ins) := match cutAll 10 s with
  | h :: y :: r => match headOf h with
    | none => .error 1
    | some (V, F) => match codeOf 2 (y :: r) with
      | .error e => .error e
      | .ok c => .ok (V, F, c)
  | _ => .error 1

theorem numsOf_itoa : ∀ {l : List (List UInt8)} {vs : List Int}, numsOf l = some vs → l = vs.map Lib.itoa
  | [], vs, h => by simp [numsOf] at h; subst h; rfl
  | x :: r, vs, h => by
    unfold numsOf at h
    split at h
    · cases h
    · rename_i v hv
      split at h
      · cases h
      · rename_i t ht
        cases h
        rw [List.map_cons, numOf_itoa hv, ← numsOf_itoa ht]
theorem numsOf_of : ∀ {vs : List Int}, (∀ v ∈ vs, -9999999999 ≤ v ∧ v ≤ 9999999999) → numsOf (vs.map Lib.itoa) = some vs
  | [], _ => rfl
  | v :: t, h => by
    rw [List.map_cons, numsOf, numOf_of (h v (by simp)).1 (h v (by simp)).2, numsOf_of (fun x hx => h x (List.mem_cons_of_mem _ hx))]
theorem line_data (i : Ins) : (lineB i).data.toList = glue 32 ((wordB i.k).data.toList :: (argsOf i).map Lib.itoa) := by
  unfold lineB
  generalize wordB i.k = s
  generalize argsOf i = l
  simp only [glue]
  induction l generalizing s with
  | nil => simp
  | cons x r ih =>
    rw [List.foldl_cons, ih]
    simp [itoaB, ByteArray.data_append]
theorem kind_cases {w : List UInt8} {n k : Nat} (h : kindOf w n = some k) : (1 ≤ k ∧ k ≤ 19) ∧ (wordB k).data.toList = w ∧ (prt k).length = n := by
  have h1 := List.find?_some h
  have h2 := List.mem_of_find?_eq_some h
  unfold isKind at h1
  rw [Bool.and_eq_true, beq_iff_eq, beq_iff_eq] at h1
  refine ⟨?_, h1.1, h1.2⟩
  simp at h2
  omega
theorem args_put {k : Nat} {vs : List Int} (hk : 1 ≤ k ∧ k ≤ 19) (h : (prt k).length = vs.length) : argsOf (putAll (prt k) vs ⟨k, 0, 0, 0, 0, 0⟩) = vs ∧ (putAll (prt k) vs ⟨k, 0, 0, 0, 0, 0⟩).k = k := by
  have hc : k = 1 ∨ k = 2 ∨ k = 3 ∨ k = 4 ∨ k = 5 ∨ k = 6 ∨ k = 7 ∨ k = 8 ∨ k = 9 ∨ k = 10 ∨ k = 11 ∨ k = 12 ∨ k = 13 ∨ k = 14 ∨ k = 15 ∨ k = 16 ∨ k = 17 ∨ k = 18 ∨ k = 19 := by omega
  rcases hc with rfl | rfl | rfl | rfl | rfl | rfl | rfl | rfl | rfl | rfl | rfl | rfl | rfl | rfl | rfl | rfl | rfl | rfl | rfl <;> simp only [prt, List.length_cons, List.length_nil] at h <;>
  first
    | (match vs, h with
      | [], _ => exact ⟨rfl, rfl⟩)
    | (match vs, h with
      | [a], _ => exact ⟨rfl, rfl⟩)
    | (match vs, h with
      | [a, b], _ => exact ⟨rfl, rfl⟩)
    | (match vs, h with
      | [a, b, c], _ => exact ⟨rfl, rfl⟩)
/-- A line that is read is what would be printed. -/
theorem ins_line {l : List UInt8} {i : Ins} (h : insOf l = some i) : (lineB i).data.toList = l := by
  unfold insOf at h
  split at h
  · cases h
  · rename_i w ns hc
    split at h
    · cases h
    · rename_i k hk
      split at h
      · cases h
      · rename_i vs hv
        obtain ⟨h1, h2, h3⟩ := kind_cases hk
        have h4 := numsOf_itoa hv
        obtain ⟨h5, h6⟩ := args_put h1 (vs := vs) (by rw [h3, h4]; simp)
        cases h
        rw [line_data, h5, h6, h2, ← h4, ← hc, glue_cut]
theorem head_line {l : List UInt8} {V F : Int} (h : headOf l = some (V, F)) : (headB V F).data.toList = l ++ [10] := by
  unfold headOf at h
  split at h
  · rename_i a b c d hc
    split at h
    · rename_i hac
      split at h
      · cases h
      · rename_i v hv
        split at h
        · cases h
        · rename_i f hf
          cases h
          have hl := glue_cut 32 l
          rw [hc, hac.1, hac.2, ← numOf_itoa hv, ← numOf_itoa hf] at hl
          rw [← hl]
          simp [headB, itoaB, ByteArray.data_append, glue, varsW, fieldsW]
    · cases h
  · cases h
theorem text_data (V F : Int) (c : List Ins) : (textB V F c).data.toList = (headB V F).data.toList ++ c.flatMap fun i => (lineB i).data.toList ++ [10] := by
  unfold textB
  generalize headB V F = s
  induction c generalizing s with
  | nil => simp
  | cons x r ih => rw [List.foldl_cons, ih]; simp [ByteArray.data_append]
theorem code_line : ∀ {l : List (List UInt8)} {n : Nat} {c : List Ins}, codeOf n l = .ok c → glue 10 l = c.flatMap fun i => (lineB i).data.toList ++ [10]
  | [], _, _, h => by cases h
  | [x], n, c, h => by
    unfold codeOf at h
    split at h
    · rename_i e
      cases h
      rw [e]; rfl
    · cases h
  | x :: y :: r, n, c, h => by
    unfold codeOf at h
    split at h
    · cases h
    · rename_i i hi
      split at h
      · cases h
      · rename_i c' hc
        cases h
        have := code_line hc
        simp only [glue, List.flatMap_cons] at this ⊢
        rw [← this, ins_line hi]
        simp
/-- A text that is read is what would be printed. -/
theorem read_text {s : List UInt8} {V F : Int} {c : List Ins} (h : readAll s = .ok (V, F, c)) : (textB V F c).data.toList = s := by
  unfold readAll at h
  split at h
  · rename_i x y r hc
    split at h
    · cases h
    · rename_i V' F' hh
      split at h
      · cases h
      · rename_i c' hcc
        cases h
        rw [text_data, head_line hh, ← code_line hcc]
        have := glue_cut 10 s
        rw [hc] at this
        rw [← this]
        simp [glue]
  · cases h
/-- What is right in a program, of its instructions' parts. -/
theorem ckOne_ok {V F L : Int} {i : Ins} (h : ckOne V F L i = 0) (hV : V ≤ 8) (hF : F ≤ 3) (hL : L ≤ 60) : (1 ≤ i.k ∧ i.k ≤ 19) ∧ (∀ v ∈ argsOf i, -9999999999 ≤ v ∧ v ≤ 9999999999) ∧ putAll (prt i.k.toNat) (argsOf i) ⟨i.k, 0, 0, 0, 0, 0⟩ = i := by
  obtain ⟨k, to, a, b, n, g⟩ := i
  unfold ckOne at h
  by_cases hk : btw k 1 19 = false
  · rw [if_pos hk] at h; cases h
  · have hk' : btw k 1 19 = true := by simpa using hk
    rw [if_neg hk] at h
    split at h
    · cases h
    · rename_i h5
      split at h
      · cases h
      · rename_i h3
        split at h
        · cases h
        · rename_i h1
          simp only [Bool.or_eq_true, Bool.and_eq_true, Bool.not_eq_true', decide_eq_true_eq, not_or] at h5 h3 h1
          rcases btw_cases hk' with rfl | rfl | rfl | rfl | rfl | rfl | rfl | rfl | rfl | rfl | rfl | rfl | rfl | rfl | rfl | rfl | rfl | rfl | rfl <;>
          · simp [nTo, nA, nB, nN, nG, btw] at h5 h3 h1
            refine ⟨⟨by simp, by simp⟩, ?_, ?_⟩
            · simp [argsOf]
              try omega
            · simp [argsOf, prt, putAll, putP]
              try omega
theorem word_free : ∀ k : Fin 20, (32 : UInt8) ∉ (wordB (k.val : Int)).data.toList ∧ (10 : UInt8) ∉ (wordB (k.val : Int)).data.toList := by decide +kernel
theorem kind_word : ∀ k : Fin 20, 1 ≤ k.val → kindOf (wordB (k.val : Int)).data.toList (prt k.val).length = some k.val := by decide +kernel
theorem args_len : ∀ k : Fin 20, ∀ to a b n g : Int, (argsOf ⟨(k.val : Int), to, a, b, n, g⟩).length = (prt k.val).length := by
  intro k to a b n g
  match k with
  | ⟨0, _⟩ => rfl | ⟨1, _⟩ => rfl | ⟨2, _⟩ => rfl | ⟨3, _⟩ => rfl | ⟨4, _⟩ => rfl | ⟨5, _⟩ => rfl | ⟨6, _⟩ => rfl | ⟨7, _⟩ => rfl | ⟨8, _⟩ => rfl | ⟨9, _⟩ => rfl
  | ⟨10, _⟩ => rfl | ⟨11, _⟩ => rfl | ⟨12, _⟩ => rfl | ⟨13, _⟩ => rfl | ⟨14, _⟩ => rfl | ⟨15, _⟩ => rfl | ⟨16, _⟩ => rfl | ⟨17, _⟩ => rfl | ⟨18, _⟩ => rfl | ⟨19, _⟩ => rfl
  | ⟨k + 20, h⟩ => exact absurd h (by omega)
/-- The line of an instruction that is right is read as it. -/
theorem line_ins {V F L : Int} {i : Ins} (h : ckOne V F L i = 0) (hV : V ≤ 8) (hF : F ≤ 3) (hL : L ≤ 60) : insOf (lineB i).data.toList = some i := by
  obtain ⟨h1, h2, h3⟩ := ckOne_ok h hV hF hL
  obtain ⟨k, hk⟩ : ∃ k : Nat, i.k = (k : Int) := ⟨i.k.toNat, by omega⟩
  have hk20 : k < 20 := by omega
  have hw := word_free ⟨k, hk20⟩
  have hkw := kind_word ⟨k, hk20⟩ (by show 1 ≤ k; omega)
  have hal := args_len ⟨k, hk20⟩ i.to i.a i.b i.n i.g
  simp only at hw hkw hal
  rw [← hk] at hw hkw hal
  rw [hk, Int.toNat_natCast] at h3
  unfold insOf
  rw [line_data, cut_glue 32 _ _ (by
    intro y hy
    rcases List.mem_cons.1 hy with rfl | hy
    · exact hw.1
    · obtain ⟨v, _, rfl⟩ := List.mem_map.1 hy
      exact (itoa_free v).1)]
  have hl : ((argsOf i).map Lib.itoa).length = (prt k).length := by rw [List.length_map]; exact hal
  simp only [hl, hkw, numsOf_of h2]
  rw [h3]
theorem line_free {V F L : Int} {i : Ins} (h : ckOne V F L i = 0) (hV : V ≤ 8) (hF : F ≤ 3) (hL : L ≤ 60) : (10 : UInt8) ∉ (lineB i).data.toList := by
  obtain ⟨h1, -, -⟩ := ckOne_ok h hV hF hL
  obtain ⟨k, hk⟩ : ∃ k : Nat, i.k = (k : Int) := ⟨i.k.toNat, by omega⟩
  have hw := (word_free ⟨k, by omega⟩).2
  simp only at hw
  rw [← hk] at hw
  rw [line_data]
  simp only [glue]
  intro hm
  rcases List.mem_append.1 hm with hm | hm
  · exact hw hm
  · obtain ⟨y, hy, hm⟩ := List.mem_flatMap.1 hm
    rcases List.mem_cons.1 hm with hm | hm
    · revert hm; decide
    · obtain ⟨v, _, rfl⟩ := List.mem_map.1 hy
      exact (itoa_free v).2 hm
theorem ckAll_each {V F L : Int} : ∀ {c : List Ins}, ckAll V F L c = 0 → ∀ i ∈ c, ckOne V F L i = 0
  | [], _, i, hi => by cases hi
  | x :: r, h, i, hi => by
    unfold ckAll at h
    split at h
    · rename_i hx
      rcases List.mem_cons.1 hi with rfl | hi
      · exact hx
      · exact ckAll_each h i hi
    · exact absurd h (by assumption)
theorem ckProg_each {V F : Int} {c : List Ins} (h : ckProg V F c = 0) : (1 ≤ V ∧ V ≤ 8) ∧ (0 ≤ F ∧ F ≤ 3) ∧ c.length ≤ 60 ∧ ∀ i ∈ c, ckOne V F c.length i = 0 := by
  unfold ckProg at h
  split at h
  · cases h
  · rename_i h3
    split at h
    · cases h
    · rename_i h60
      simp [btw] at h3
      exact ⟨⟨by omega, by omega⟩, ⟨by omega, by omega⟩, by omega, ckAll_each h⟩
/-- The first line, without its end. -/
def headL (V F : Int) : List UInt8 := glue 32 [varsW, Lib.itoa V, fieldsW, Lib.itoa F]
theorem headL_data (V F : Int) : (headB V F).data.toList = headL V F ++ [10] := by
  simp [headB, itoaB, ByteArray.data_append, headL, glue, varsW, fieldsW]
theorem headL_free (V F : Int) : (10 : UInt8) ∉ headL V F := by
  simp only [headL, glue, varsW, fieldsW, List.flatMap_cons, List.flatMap_nil, List.append_nil]
  have h1 := (itoa_free V).2
  have h2 := (itoa_free F).2
  simp [h1, h2]
theorem headL_read {V F : Int} (hV : 1 ≤ V ∧ V ≤ 8) (hF : 0 ≤ F ∧ F ≤ 3) : headOf (headL V F) = some (V, F) := by
  unfold headOf headL
  rw [cut_glue 32 _ _ (by
    intro y hy
    simp only [List.mem_cons, List.not_mem_nil, or_false] at hy
    rcases hy with rfl | rfl | rfl | rfl
    · decide
    · exact (itoa_free V).1
    · decide
    · exact (itoa_free F).1)]
  simp [numOf_of (v := V) (by omega) (by omega), numOf_of (v := F) (by omega) (by omega)]
theorem code_read {V F L : Int} (hV : V ≤ 8) (hF : F ≤ 3) (hL : L ≤ 60) : ∀ (c : List Ins) (n : Nat), (∀ i ∈ c, ckOne V F L i = 0) → codeOf n (c.map (fun i => (lineB i).data.toList) ++ [[]]) = .ok c
  | [], n, _ => by simp [codeOf]
  | x :: r, n, h => by
    have hx := line_ins (h x (by simp)) hV hF hL
    have ih := code_read hV hF hL r (n + 1) (fun i hi => h i (List.mem_cons_of_mem _ hi))
    obtain ⟨y, t, ht⟩ : ∃ y t, r.map (fun i => (lineB i).data.toList) ++ [[]] = y :: t := by
      cases r with
      | nil => exact ⟨_, _, rfl⟩
      | cons a b => exact ⟨_, _, rfl⟩
    rw [List.map_cons, List.cons_append, ht]
    rw [ht] at ih
    unfold codeOf
    rw [hx]
    simp only [ih]
/-- A text's lines. -/
theorem text_lines {V F : Int} {c : List Ins} (h : ckProg V F c = 0) : cutAll 10 (textB V F c).data.toList = headL V F :: (c.map (fun i => (lineB i).data.toList) ++ [[]]) := by
  obtain ⟨hV, hF, hl, hc⟩ := ckProg_each h
  rw [text_data, headL_data]
  have e : headL V F ++ [10] ++ (c.flatMap fun i => (lineB i).data.toList ++ [10]) = glue 10 (headL V F :: (c.map (fun i => (lineB i).data.toList) ++ [[]])) := by
    simp only [glue, List.append_assoc]
    congr 1
    clear h hc hl
    induction c with
    | nil => rfl
    | cons x r ih => simp only [List.flatMap_cons, List.map_cons, List.cons_append, List.append_assoc] at ih ⊢; rw [← ih]; simp
  rw [e]
  refine cut_glue 10 _ _ ?_
  intro y hy
  rcases List.mem_cons.1 hy with rfl | hy
  · exact headL_free V F
  · rcases List.mem_append.1 hy with hy | hy
    · obtain ⟨i, hi, rfl⟩ := List.mem_map.1 hy
      exact line_free (hc i hi) hV.2 hF.2 (by omega)
    · simp at hy; simp [hy]
/-- What is printed of a program that is right is read as it. -/
theorem text_read {V F : Int} {c : List Ins} (h : ckProg V F c = 0) : readAll (textB V F c).data.toList = .ok (V, F, c) := by
  obtain ⟨hV, hF, hl, hc⟩ := ckProg_each h
  have hr := code_read (V := V) (F := F) (L := c.length) hV.2 hF.2 (by omega) c 2 hc
  unfold readAll
  rw [text_lines h]
  obtain ⟨y, t, ht⟩ : ∃ y t, c.map (fun i => (lineB i).data.toList) ++ [[]] = y :: t := by
    cases c with
    | nil => exact ⟨_, _, rfl⟩
    | cons a b => exact ⟨_, _, rfl⟩
  rw [ht] at hr ⊢
  simp only [headL_read hV hF, hr]
end Go.Proofs.YtmapdpcfanecdaaDoor

namespace Go.Proofs.YtmapdpcfanecdaaDoor
set_option linter.unusedVariables false
set_option linter.unusedSimpArgs false
open Go.RowKit

theorem info_val : (Tryd.prog.info? 94).map (fun i => (i.zero, i.size, i.bytes)) = some (some (.agg #[.int .i64 0, .int .i64 0]), 2, 16) := by kernel_rfl
/-- A variable of type Run lies as it was made. -/
def ZRun (w : World) (b : Nat) : Prop := w.cell? ⟨b, 0, none⟩ = some (.int .i64 0) ∧ w.cell? ⟨b, 1, none⟩ = some (.slice none 0 0) ∧ w.cell? ⟨b, 2, none⟩ = some (.slice none 0 0) ∧ w.cell? ⟨b, 3, none⟩ = some (.int .i64 0) ∧ w.cell? ⟨b, 4, none⟩ = some (.slice none 0 0) ∧ w.cell? ⟨b, 5, none⟩ = some (.int .i64 0) ∧ (∀ j, w.frozen? ⟨b, j, none⟩ = false) ∧ b < w.heap.size
theorem ZRun.new (w : World) : ZRun (w.alloc (.cells #[.int .i64 0, .slice none 0 0, .slice none 0 0, .int .i64 0, .slice none 0 0, .int .i64 0] 46)) w.heap.size := by
  refine ⟨?_, ?_, ?_, ?_, ?_, ?_, fun j => ?_, ?_⟩ <;> simp [go_sem]
theorem ZRun.block {w w' : World} {b : Nat} (h : ZRun w b) (hb : w'.heap[b]? = w.heap[b]?) : ZRun w' b := by
  have hc : ∀ j, w'.cell? ⟨b, j, none⟩ = w.cell? ⟨b, j, none⟩ := fun j => World.cell?_of_block (a := ⟨b, j, none⟩) hb
  have hf : ∀ j, w'.frozen? ⟨b, j, none⟩ = w.frozen? ⟨b, j, none⟩ := fun j => World.frozen?_of_block (a := ⟨b, j, none⟩) hb
  obtain ⟨h0, h1, h2, h3, h4, h5, h6, hz⟩ := h
  refine ⟨(hc _).trans h0, (hc _).trans h1, (hc _).trans h2, (hc _).trans h3, (hc _).trans h4, (hc _).trans h5, fun j => (hf j).trans (h6 j), ?_⟩
  rw [Array.getElem?_eq_getElem hz] at hb
  exact (Array.getElem?_eq_some_iff.1 hb).1
theorem ZRun.call {w w' : World} {b : Nat} (h : ZRun w b) (hb : Below w.heap.size w w') : ZRun w' b := h.block (hb.block _ h.2.2.2.2.2.2.2)

set_option maxHeartbeats 1000000 in
set_option maxRecDepth 20000 in
theorem beginOf_any (F : Int) (s : Option Addr) (n cap : Nat) (w : World) (v : Nat) (h8 : v ≤ 8) :
    Calls Tryd.prog 22 #[.agg #[.int .i64 v, .int .i64 F, .slice s n cap]] w fun e w' => ∃ g, e = .returned (.agg #[.int .i64 0, .slice (some ⟨g, 0, none⟩) v v, .slice none 0 0, .int .i64 0, .slice none 0 0, .int .i64 0]) ∧ w'.ownsRow w.heap.size 94 2 (.slice (some ⟨g, 0, none⟩) v v) v (madeCells (Value.agg #[.int .i64 0, .int .i64 0]).cells (v * 2)).toList ∧ Below w.heap.size w w' := by
  obtain ⟨ti, hi, hz0, hz1, hz2⟩ := info_parts info_val
  have Z0 := ZRun.new (w.alloc (.cells #[.int .i64 (v : Int), .int .i64 F, .slice s n cap] 24))
  rw [World.size_alloc] at Z0
  have hb0 : Below w.heap.size w ((w.alloc (.cells #[.int .i64 (v : Int), .int .i64 F, .slice s n cap] 24)).alloc (.cells #[.int .i64 0, .slice none 0 0, .slice none 0 0, .int .i64 0, .slice none 0 0, .int .i64 0] 46)) := by go_grown
  go_enter Tryd.func22, Tryd.ntmps22
  go_wp2_with (refine wpList_make_full _ rfl _ _ 42 rfl (w.heap.size + 1 + 1) 94 ti (.agg #[.int .i64 0, .int .i64 0]) 2 Tryd.underlying42 hi hz0 hz1 .i64 .i64 (v : Int) (v : Int) v rfl rfl rfl rfl (by rw [hz2]; omega) (by unfold maxLen; omega) (by simp) ?_; intro wm hown hgrow; obtain ⟨r0, r1, r2, r3, r4, r5, rf, rz⟩ := ZRun.block Z0 (hgrow.block _ (by simp) (fun e => by cases e)))
  simp only [World.size_alloc] at hown
  have hbm : Below w.heap.size w wm := hb0.grown hgrow (by simp; omega) (fun j hj => by cases hj)
  refine bodyPost_ret (v := .agg #[.int .i64 0, .slice (some ⟨w.heap.size + 1 + 1, 0, none⟩) v v, .slice none 0 0, .int .i64 0, .slice none 0 0, .int .i64 0]) (by simp [results, Tryd.results22, go_sem, r0, r1, r2, r3, r4, r5]) rfl ⟨_, rfl, ?_, ?_⟩
  · have hz : w.heap.size + 1 < w.heap.size + 1 + 1 := by omega
    exact ownsRow_lower (ownsRow_setCell_below (a := ⟨w.heap.size + 1, 5, none⟩) (ownsRow_setCell_below (a := ⟨w.heap.size + 1, 4, none⟩) (ownsRow_setCell_below (a := ⟨w.heap.size + 1, 3, none⟩) (ownsRow_setCell_below (a := ⟨w.heap.size + 1, 2, none⟩) (ownsRow_setCell_below (a := ⟨w.heap.size + 1, 1, none⟩) (ownsRow_setCell_below (a := ⟨w.heap.size + 1, 0, none⟩) hown hz _) hz _) hz _) hz _) hz _) hz _) (show w.heap.size ≤ w.heap.size + 1 + 1 by omega)
  · exact (((((hbm.setCell (by simp) _).setCell (by simp) _).setCell (by simp) _).setCell (by simp) _).setCell (by simp) _).setCell (by simp) _
set_option maxHeartbeats 1000000 in
set_option maxRecDepth 20000 in
theorem begin_err (V F : Int) (s : Option Addr) (c : List Ins) (cap : Nat) (w : World) (hc : CodeAt w s c) (h0 : ckProg V F c ≠ 0) :
    Calls Tryd.prog 19 #[.agg #[.int .i64 V, .int .i64 F, .slice s c.length cap]] w fun e w' => e = .returned (.tuple #[.agg #[.int .i64 0, .slice none 0 0, .slice none 0 0, .int .i64 0, .slice none 0 0, .int .i64 0], .int .i64 (ckProg V F c)]) ∧ Below w.heap.size w w' := by
  have Z0 := ZRun.new (w.alloc (.cells #[.int .i64 V, .int .i64 F, .slice s c.length cap] 24))
  rw [World.size_alloc] at Z0
  have hb0 : Below w.heap.size w ((w.alloc (.cells #[.int .i64 V, .int .i64 F, .slice s c.length cap] 24)).alloc (.cells #[.int .i64 0, .slice none 0 0, .slice none 0 0, .int .i64 0, .slice none 0 0, .int .i64 0] 46)) := by go_grown
  have hk : (ckProg V F c != 0) = true := by simpa using h0
  go_enter Tryd.func19, Tryd.ntmps19
  go_wp2_with (go_at_call 14; fail)
  refine (codeCheck_any V F s cap c _ (hc.below hb0 (Nat.le_refl _))).mono ?_
  rintro e w1 ⟨rfl, hb1⟩
  have H1 := hb0.trans (hb1.mono hb0.size)
  obtain ⟨r0, r1, r2, r3, r4, r5, rf, rz⟩ := Z0.call hb1
  go_wp2
  refine bodyPost_ret (v := .tuple #[.agg #[.int .i64 0, .slice none 0 0, .slice none 0 0, .int .i64 0, .slice none 0 0, .int .i64 0], .int .i64 (ckProg V F c)]) (by simp [results, Tryd.results19, go_sem, r0, r1, r2, r3, r4, r5]) rfl ⟨rfl, ?_⟩
  exact (((((H1.setCell (by simp) _).setCell (by simp) _).setCell (by simp) _).setCell (by simp) _).setCell (by simp) _).setCell (by simp) _
set_option maxHeartbeats 1000000 in
set_option maxRecDepth 20000 in
theorem begin_ok (v : Nat) (F : Int) (s : Option Addr) (c : List Ins) (cap : Nat) (w : World) (hc : CodeAt w s c) (h0 : ckProg (v : Int) F c = 0) :
    Calls Tryd.prog 19 #[.agg #[.int .i64 v, .int .i64 F, .slice s c.length cap]] w fun e w' => ∃ g, e = .returned (.tuple #[.agg #[.int .i64 0, .slice (some ⟨g, 0, none⟩) v v, .slice none 0 0, .int .i64 0, .slice none 0 0, .int .i64 0], .int .i64 0]) ∧ w'.ownsRow w.heap.size 94 2 (.slice (some ⟨g, 0, none⟩) v v) v (madeCells (Value.agg #[.int .i64 0, .int .i64 0]).cells (v * 2)).toList ∧ Below w.heap.size w w' := by
  obtain ⟨ti, hi, hz0, hz1, hz2⟩ := info_parts info_val
  have h8 : v ≤ 8 := by have := (ckProg_each h0).1; omega
  have Z0 := ZRun.new (w.alloc (.cells #[.int .i64 (v : Int), .int .i64 F, .slice s c.length cap] 24))
  rw [World.size_alloc] at Z0
  have hb0 : Below w.heap.size w ((w.alloc (.cells #[.int .i64 (v : Int), .int .i64 F, .slice s c.length cap] 24)).alloc (.cells #[.int .i64 0, .slice none 0 0, .slice none 0 0, .int .i64 0, .slice none 0 0, .int .i64 0] 46)) := by go_grown
  have hC := codeCheck_any (v : Int) F s cap c _ (hc.below hb0 (Nat.le_refl _))
  rw [h0] at hC
  have pv : ∀ wx, Below ((w.alloc (.cells #[.int .i64 (v : Int), .int .i64 F, .slice s c.length cap] 24)).alloc (.cells #[.int .i64 0, .slice none 0 0, .slice none 0 0, .int .i64 0, .slice none 0 0, .int .i64 0] 46)).heap.size ((w.alloc (.cells #[.int .i64 (v : Int), .int .i64 F, .slice s c.length cap] 24)).alloc (.cells #[.int .i64 0, .slice none 0 0, .slice none 0 0, .int .i64 0, .slice none 0 0, .int .i64 0] 46)) wx → wx.cell? ⟨w.heap.size, 0, none⟩ = some (.int .i64 (v : Int)) := fun wx hx => by rw [hx.cell (by simp; omega)]; simp [go_sem]
  go_enter Tryd.func19, Tryd.ntmps19
  go_wp2_with (go_at_call 14; fail)
  refine hC.mono ?_
  rintro e w1 ⟨rfl, hb1⟩
  have H1 := hb0.trans (hb1.mono hb0.size)
  have p0 := pv w1 hb1
  have Z1 := Z0.call hb1
  have z1 : w.heap.size + 1 + 1 ≤ w1.heap.size := by have := hb1.size; simpa using this
  clear hC pv Z0 hb1 hb0
  go_wp2_with (refine wpList_make_full _ rfl _ _ 42 rfl (w.heap.size + 1 + 1) 94 ti (.agg #[.int .i64 0, .int .i64 0]) 2 Tryd.underlying42 hi hz0 hz1 .i64 .i64 (v : Int) (v : Int) v rfl rfl rfl rfl (by rw [hz2]; omega) (by unfold maxLen; omega) z1 ?_; intro wm hown hgrow; obtain ⟨r0, r1, r2, r3, r4, r5, rf, rz⟩ := ZRun.block Z1 (hgrow.block _ Z1.2.2.2.2.2.2.2 (fun e => by cases e)))
  have hbm : Below w.heap.size w wm := H1.grown hgrow H1.size (fun j hj => by cases hj)
  refine bodyPost_ret (v := .tuple #[.agg #[.int .i64 0, .slice (some ⟨w1.heap.size, 0, none⟩) v v, .slice none 0 0, .int .i64 0, .slice none 0 0, .int .i64 0], .int .i64 0]) (by simp [results, Tryd.results19, go_sem, r0, r1, r2, r3, r4, r5]) rfl ⟨_, rfl, ?_, ?_⟩
  · have hz : w.heap.size + 1 < w.heap.size + 1 + 1 := by omega
    exact ownsRow_lower (ownsRow_setCell_below (a := ⟨w.heap.size + 1, 5, none⟩) (ownsRow_setCell_below (a := ⟨w.heap.size + 1, 4, none⟩) (ownsRow_setCell_below (a := ⟨w.heap.size + 1, 3, none⟩) (ownsRow_setCell_below (a := ⟨w.heap.size + 1, 2, none⟩) (ownsRow_setCell_below (a := ⟨w.heap.size + 1, 1, none⟩) (ownsRow_setCell_below (a := ⟨w.heap.size + 1, 0, none⟩) hown hz _) hz _) hz _) hz _) hz _) hz _) (show w.heap.size ≤ w.heap.size + 1 + 1 by omega)
  · exact (((((hbm.setCell (by simp) _).setCell (by simp) _).setCell (by simp) _).setCell (by simp) _).setCell (by simp) _).setCell (by simp) _
end Go.Proofs.YtmapdpcfanecdaaDoor
