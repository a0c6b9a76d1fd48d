/- slices.Repeat of a guess; package picture's row. -/
import Derived.Deep.RegionHeld
import Derived.OwnWalk
import Derived.WalkKit
import Derived.WalkSpells
import Derived.WalkLawsBesides
import Derived.Handy
import Derived.Test.YtmapdpcfanecdaaGreatKpicxp05
import Derived.Test.YtmapdpcfanecdaaGreatShelf
import Derived.Deep.DeepCutAuto
import Derived.Laws.MakeOwn
import Derived.Laws.CopyOwn
import Derived.Deep.DrawnRows
namespace Go.Proofs.YtmapdpcfanecdaaGreat
set_option linter.unusedVariables false
set_option linter.unusedSimpArgs false
open Go

section
variable {P : Program} {ops : Array Oper} {Q : Exit → Act → World → Prop} {md : Region.Mode} {S : World → Prop} {zs : List Nat}

/-- Whatever order is picked from here on, and S holds behind every operation that is carried out, but for those of zs. -/
def wpAnyZ (P : Program) (md : Region.Mode) (ops : Array Oper) (Q : Exit → Act → World → Prop) (S : World → Prop) (zs : List Nat) : Nat → Array Bool → Act → World → Prop
  | 0, listed, a, w => Region.ready md ops listed = [] ∧ Q .normal a w
  | fuel + 1, listed, a, w =>
    (Region.ready md ops listed = [] → Q .normal a w) ∧
    ∀ i ∈ Region.ready md ops listed, wpOp P ops Q i (fun a' w' => (i ∉ zs → S w') ∧ wpAnyZ P md ops Q S zs fuel (listed.setIfInBounds i true) a' w') a w

theorem wpAny_of_z : ∀ (fuel : Nat) (listed : Array Bool) (a : Act) (w : World), wpAnyZ P md ops Q S zs fuel listed a w → wpAny P md ops Q fuel listed a w
  | 0, _, _, _, h => h
  | fuel + 1, _, _, _, h => ⟨h.1, fun i hi => wpOp_mono (fun a' w' h' => wpAny_of_z fuel _ a' w' h'.2) (h.2 i hi)⟩

/-- Those that wait for number i, through others too. -/
def waitsOf (md : Region.Mode) (ops : Array Oper) (i : Nat) : Nat → List Nat → List Nat
  | 0, ws => ws
  | n + 1, ws => waitsOf md ops i n ((List.range ops.size).filter fun x => ((ops[x]?).map fun o => o.after.any fun e => Region.binds md e && (e.on == i || ws.contains e.on)).getD false)
def waitsOk (md : Region.Mode) (ops : Array Oper) (listed : Array Bool) (i : Nat) (ws : List Nat) : Bool :=
  ws.all fun x => !(listed.getD x true) && ((ops[x]?).map fun o => o.after.any fun e => Region.binds md e && (e.on == i || ws.contains e.on)).getD false
def zOk (md : Region.Mode) (ops : Array Oper) (listed : Array Bool) (i : Nat) (zs : List Nat) : Bool :=
  !zs.contains i && (let ws := waitsOf md ops i 8 []; waitsOk md ops listed i ws && zs.all fun z => listed.getD z true || ws.contains z)

theorem wpAnyZ_first {i : Nat} {oi : Oper} {v : Value} (hi : ops[i]? = some oi) (hsel : ∀ (j : Nat) (o : Oper) cs b, ops[j]? = some o → o.op ≠ .select cs b)
    (hQ : ∀ c a w, Q (.panic c) (a.put oi.dst v) w → Q (.panic c) a w) (hiz : i ∉ zs) (ws : List Nat)
    (hws : ∀ x ∈ ws, ∀ o, ops[x]? = some o → ∃ e ∈ o.after, Region.binds md e = true ∧ (e.on = i ∨ e.on ∈ ws)) :
    ∀ (fuel : Nat) (listed : Array Bool) (a : Act) (w : World),
      (∀ j oj, ops[j]? = some oj → j ≠ i → listed.getD j true = false → (∀ e ∈ oj.after, Region.binds md e = true → e.on ≠ i) → oi.apart ops oj = true) →
      (∀ x ∈ ws, listed.getD x true = false) → (∀ z ∈ zs, listed.getD z true = true ∨ z ∈ ws) →
      i ∈ Region.ready md ops listed → YieldsIf P ops S oi v a → S w →
      wpAnyZ P md ops Q S zs fuel (listed.setIfInBounds i true) (a.put oi.dst v) w → wpAnyZ P md ops Q S zs (fuel + 1) listed a w := by
  intro fuel
  induction fuel with
  | zero =>
    intro listed a w _ _ _ hr hy hS H
    refine ⟨fun h => (by rw [h] at hr; cases hr), fun j hj => ?_⟩
    by_cases hji : j = i
    · subst hji; exact hy.wpOp hi hS ⟨fun _ => hS, H⟩
    · have := ready_mono hj hji
      rw [H.1] at this
      cases this
  | succ fuel ih =>
    intro listed a w hfree hun hzs hr hy hS H
    refine ⟨fun h => (by rw [h] at hr; cases hr), fun j hj => ?_⟩
    by_cases hji : j = i
    · subst hji; exact hy.wpOp hi hS ⟨fun _ => hS, H⟩
    · have h1 := H.2 j (ready_mono hj hji)
      obtain ⟨hjun, oj, hoj, hall⟩ := mem_ready.1 hj
      have h0 := (mem_ready.1 hr).1
      have hf : ∀ x, listed.getD x true = false → listed.getD x false = false := fun x hx => by
        rcases Nat.lt_or_ge x listed.size with h' | h'
        · simp [h'] at hx ⊢; exact hx
        · simp [Array.getElem?_eq_none h'] at hx
      have hjw : j ∉ ws := fun hj' => by
        obtain ⟨e, he, hb, hon⟩ := hws j hj' oj hoj
        have h2 := hall e he hb
        rcases hon with hon | hon
        · rw [hon, hf i h0] at h2; cases h2
        · rw [hf _ (hun _ hon)] at h2; cases h2
      have hjz : j ∉ zs := fun hj' => by
        rcases hzs j hj' with h | h
        · rw [h] at hjun; cases hjun
        · exact hjw h
      have hnot : ∀ e ∈ oj.after, Region.binds md e = true → e.on ≠ i := fun e he hb heq => by
        have h2 := hall e he hb
        rw [heq, hf i h0] at h2
        cases h2
      have h2 := wpOp_putIf hoj (hfree j oj hoj hji hjun hnot) (fun cs b => hsel i oi cs b hi) (fun cs b => hsel j oj cs b hoj) hQ hy h1
      have hset : ∀ k, (listed.setIfInBounds j true).getD k true = false → listed.getD k true = false := fun k hk => by
        by_cases hjk : j = k
        · subst hjk; exact hjun
        · rw [getD_set_ne true hjk] at hk; exact hk
      have hfree' : ∀ k ok, ops[k]? = some ok → k ≠ i → (listed.setIfInBounds j true).getD k true = false →
          (∀ e ∈ ok.after, Region.binds md e = true → e.on ≠ i) → oi.apart ops ok = true := fun k ok hk hki hun' hno => hfree k ok hk hki (hset k hun') hno
      refine wpOp_mono (fun a' w' h3 => ⟨h3.2.1, ih (listed.setIfInBounds j true) a' w' hfree' (fun x hx => ?_) (fun z hz => ?_) (ready_mono hr (Ne.symm hji)) h3.1 (h3.2.1 hjz) ?_⟩) h2
      · rw [getD_set_ne true (fun e => hjw (by rw [e]; exact hx))]; exact hun x hx
      · rcases hzs z hz with h | h
        · left
          by_cases hjk : j = z
          · exact absurd (hjk ▸ hz) hjz
          · rw [getD_set_ne true hjk]; exact h
        · exact .inr h
      · rw [Array.setIfInBounds_comm _ _ hji]
        exact h3.2.2

theorem wpAnyZ_take {i : Nat} {oi : Oper} {v : Value} {fuel : Nat} {listed : Array Bool} {a : Act} {w : World} (hi : ops[i]? = some oi)
    (hs : Region.noSelect ops = true) (hf : (Region.free md ops listed i && zOk md ops listed i zs) = true) (hr : (Region.ready md ops listed).contains i = true)
    (hQ : ∀ c a w, Q (.panic c) (a.put oi.dst v) w → Q (.panic c) a w) (hy : YieldsIf P ops S oi v a) (hS : S w)
    (h : wpAnyZ P md ops Q S zs fuel (listed.setIfInBounds i true) (a.put oi.dst v) w) : wpAnyZ P md ops Q S zs (fuel + 1) listed a w := by
  rw [Bool.and_eq_true] at hf
  obtain ⟨hf, hz⟩ := hf
  simp only [zOk, Bool.and_eq_true, waitsOk, List.all_eq_true, Bool.not_eq_true', Bool.or_eq_true] at hz
  obtain ⟨hz1, hz2, hz3⟩ := hz
  refine wpAnyZ_first hi (Region.noSelect_spec hs) hQ (by simpa using hz1) (waitsOf md ops i 8 []) (fun x hx o ho => ?_) fuel listed a w (Region.free_spec hi hf) (fun x hx => (hz2 x hx).1) (fun z hz => ?_) (by simpa using hr) hy hS h
  · have := (hz2 x hx).2
    rw [ho] at this
    simp only [Option.map_some, Option.getD_some, Array.any_eq_true, Bool.and_eq_true, Bool.or_eq_true, beq_iff_eq] at this
    obtain ⟨k, hk, hb, hon⟩ := this
    exact ⟨_, Array.getElem_mem hk, hb, hon.imp id (by simp)⟩
  · rcases hz3 z hz with h | h
    · exact .inl h
    · exact .inr (by simpa using h)

theorem wpAnyZ_done {listed : Array Bool} {a : Act} {w : World} (hr : Region.ready md ops listed = []) (h : Q .normal a w) :
    ∀ fuel, wpAnyZ P md ops Q S zs fuel listed a w
  | 0 => ⟨hr, h⟩
  | _ + 1 => ⟨fun _ => h, by rw [hr]; simp⟩

/-- The operation that alone may come up is carried out; behind it S is shown anew. -/
theorem wpAnyZ_one {i : Nat} {o : Oper} {fuel : Nat} {listed : Array Bool} {a : Act} {w : World} (ho : ops[i]? = some o) (hr : Region.ready md ops listed = [i])
    (h : ∀ K' : Act → World → Prop, Shut (∀ a w, S w → (S w → wpAnyZ P md ops Q S zs fuel (listed.setIfInBounds i true) a w) → K' a w) → if Region.wanted o (yielded ops a.tmps) = true then Oper.wp P o a w K' Q else K' (a.put o.dst undef) w) :
    wpAnyZ P md ops Q S zs (fuel + 1) listed a w := by
  refine ⟨fun h0 => (by rw [hr] at h0; cases h0), fun j hj => ?_⟩
  rw [hr] at hj
  obtain rfl : j = i := by simpa using hj
  exact wpOp_step ho (fun K' hK => h K' (fun a w hS hW => hK a w ⟨fun _ => hS, hW hS⟩))
/-- Of two that may come up whichever comes first. -/
theorem wpAnyZ_two {i j : Nat} {oi oj : Oper} {fuel : Nat} {listed : Array Bool} {a : Act} {w : World} (hoi : ops[i]? = some oi) (hoj : ops[j]? = some oj) (hr : Region.ready md ops listed = [i, j])
    (h : ∀ K' : Act → World → Prop, Shut (∀ a w, S w → (S w → wpAnyZ P md ops Q S zs fuel (listed.setIfInBounds i true) a w) → K' a w) → if Region.wanted oi (yielded ops a.tmps) = true then Oper.wp P oi a w K' Q else K' (a.put oi.dst undef) w)
    (h' : ∀ K' : Act → World → Prop, Shut (∀ a w, S w → (S w → wpAnyZ P md ops Q S zs fuel (listed.setIfInBounds j true) a w) → K' a w) → if Region.wanted oj (yielded ops a.tmps) = true then Oper.wp P oj a w K' Q else K' (a.put oj.dst undef) w) :
    wpAnyZ P md ops Q S zs (fuel + 1) listed a w := by
  refine ⟨fun h0 => (by rw [hr] at h0; cases h0), fun k hk => ?_⟩
  rw [hr] at hk
  rcases List.mem_cons.1 hk with rfl | hk
  · exact wpOp_step hoi (fun K' hK => h K' (fun a w hS hW => hK a w ⟨fun _ => hS, hW hS⟩))
  · obtain rfl : k = j := by simpa using hk
    exact wpOp_step hoj (fun K' hK => h' K' (fun a w hS hW => hK a w ⟨fun _ => hS, hW hS⟩))
/-- .. and one of the last stores. -/
theorem wpAnyZ_last {i : Nat} {o : Oper} {fuel : Nat} {listed : Array Bool} {a : Act} {w : World} (ho : ops[i]? = some o) (hr : Region.ready md ops listed = [i]) (hz : zs.contains i = true)
    (h : ∀ K' : Act → World → Prop, Shut (∀ a w, wpAnyZ P md ops Q S zs fuel (listed.setIfInBounds i true) a w → K' a w) → if Region.wanted o (yielded ops a.tmps) = true then Oper.wp P o a w K' Q else K' (a.put o.dst undef) w) :
    wpAnyZ P md ops Q S zs (fuel + 1) listed a w := by
  refine ⟨fun h0 => (by rw [hr] at h0; cases h0), fun j hj => ?_⟩
  rw [hr] at hj
  obtain rfl : j = i := by simpa using hj
  exact wpOp_step ho (fun K' hK => h K' (fun a w hW => hK a w ⟨fun hn => absurd (by simpa using hz) hn, hW⟩))

theorem wp_region_z {id : Nat} {a : Act} {w : World} (zs : List Nat) (hm : P.follows .mixedOrders = true) (hS : S w.drew)
    (h : S w.drew → wpAnyZ P .any ops Q S zs ops.size (Array.replicate ops.size false) a w.drew) : (Code.region id ops true).wp P Q a w :=
  wp_region_any hm (wpAny_of_z _ _ _ _ (h hS))
end
end Go.Proofs.YtmapdpcfanecdaaGreat

namespace Go.Proofs.YtmapdpcfanecdaaGreat
set_option linter.unusedVariables false
set_option linter.unusedSimpArgs false
open Go

/-- What is shown by running one operation. -/
theorem rn {p : Prop} (h : p := by (intro w hSw; (try dsimp only at hSw); first | (go_simp; done) | (go_simp; with_reducible rfl))) : p := h
section
variable {P : Program} {ops : Array Oper} {Q : Exit → Act → World → Prop} {md : Region.Mode} {S : World → Prop} {zs : List Nat}
theorem tkZ (i : Nat) {oi : Oper} (v : Value) {fuel : Nat} {listed : Array Bool} {a : Act} {w : World} (hy : ∀ w, S w → (execOp a.eval oi).run P w = .ok (.value v) w)
    (h : wpAnyZ P md ops Q S zs fuel (listed.setIfInBounds i true) (a.put oi.dst v) w) (hi : ops[i]? = some oi := by rfl)
    (hs : Region.noSelect ops = true := by kernel_rfl) (hf : (Region.free md ops listed i && zOk md ops listed i zs) = true := by kernel_rfl) (hr : (Region.ready md ops listed).contains i = true := by kernel_rfl)
    (hQ : ∀ c a w, Q (.panic c) (a.put oi.dst v) w → Q (.panic c) a w := by exact fun _ _ _ h => h) (hw : Region.wanted oi (yielded ops a.tmps) = true := by rfl) (hS : S w := by assumption) : wpAnyZ P md ops Q S zs (fuel + 1) listed a w :=
  wpAnyZ_take hi hs hf hr hQ (.inl ⟨hw, hy⟩) hS h
theorem tkH (i : Nat) {oi : Oper} (v : Value) {fuel : Nat} {listed : Array Bool} {a : Act} {w : World} (hy : ∀ w, S w → (execOp a.eval oi).run P w = .ok (.value v) w)
    (h : wpAnyH P md ops Q S fuel (listed.setIfInBounds i true) (a.put oi.dst v) w) (hi : ops[i]? = some oi := by rfl)
    (hs : Region.noSelect ops = true := by kernel_rfl) (hf : Region.free md ops listed i = true := by kernel_rfl) (hr : (Region.ready md ops listed).contains i = true := by kernel_rfl)
    (hQ : ∀ c a w, Q (.panic c) (a.put oi.dst v) w → Q (.panic c) a w := by exact fun _ _ _ h => h) (hw : Region.wanted oi (yielded ops a.tmps) = true := by rfl) (hS : S w := by assumption) : wpAnyH P md ops Q S (fuel + 1) listed a w :=
  wpAnyH_take hi hs hf hr hQ (.inl ⟨hw, hy⟩) hS h
end
end Go.Proofs.YtmapdpcfanecdaaGreat

namespace Go.Proofs.YtmapdpcfanecdaaGreat
set_option linter.unusedVariables false
set_option linter.unusedSimpArgs false
open Go.RowKit
attribute [local go_sem ↓] Go.wp_at_zero Go.wp_at_succ

theorem replRow (n : Nat) (x : Gc) : (rowCells (List.replicate n x)).length = n * 7 := by rw [rowCells_len, List.length_replicate]
theorem replRow_add (a b : Nat) (x : Gc) : rowCells (List.replicate a x) ++ rowCells (List.replicate b x) = rowCells (List.replicate (a + b) x) := by rw [← rowCells_append, List.replicate_append_replicate]
theorem replRow_get (m n : Nat) (x : Gc) (h : m ≤ n) (j : Nat) (u : Value) (hj : (rowCells (List.replicate m x))[j]? = some u) : (rowCells (List.replicate n x))[j]? = some u := by
  obtain ⟨d, rfl⟩ : ∃ d, n = m + d := ⟨n - m, by omega⟩
  rw [← replRow_add, List.getElem?_append_left (List.getElem?_eq_some_iff.1 hj).1]
  exact hj
theorem rowCells_oneM (l : List Gc) : ∀ u ∈ rowCells l, u.oneCell' = true := by
  intro u hu
  obtain ⟨x, hx, hu⟩ := List.mem_flatMap.1 hu
  exact gcCells_one x u hu
/-- A block that is filled with a guess, so many times, from the front. -/
def Filled (w : World) (b n k : Nat) (x : Gc) : Prop := k ≤ n ∧ ∃ cs : List Value, w.heap[b]? = some (.cells cs.toArray 29 (0, 0)) ∧ cs.length = n * 7 ∧ cs.take (k * 7) = rowCells (List.replicate k x)
theorem Filled.lt {w : World} {b n k : Nat} {x : Gc} (h : Filled w b n k x) : b < w.heap.size := by
  obtain ⟨_, cs, h1, _⟩ := h
  exact (Array.getElem?_eq_some_iff.1 h1).1
/-- What copy makes of it: a row that lies at a is copied behind what is there. -/
theorem Filled.copy {P : Program} {w : World} {b n k : Nat} {x : Gc} (h : Filled w b n k x) (dT ty : TypeId) (a : Addr) (sLen sCap dCap m : Nat) (hu : P.underlying dT = some (.slice 29)) (hs : (P.info? 29).map (·.size) = some 7) (hm : m = Nat.min sLen (n - k))
    (hsrc : ∀ j v, (rowCells (List.replicate m x))[j]? = some v → w.cell? (a.add j) = some v) :
    ∃ w', (Builtin.copy_ #[dT, dT] ty #[.slice (some ⟨b, k * 7, none⟩) (n - k) dCap, .slice (some a) sLen sCap]).run P w = .ok (goInt m) w' ∧ Filled w' b n (k + m) x ∧ ∀ B w0, B ≤ b → Below B w0 w → Below B w0 w' := by
  obtain ⟨hk, cs, h1, h2, h3⟩ := h
  have hmn : m ≤ n - k := by rw [hm]; exact Nat.min_le_right _ _
  have hl : (rowCells (List.replicate m x)).length = m * 7 := replRow m x
  have hfit : k * 7 + m * 7 ≤ n * 7 := by omega
  refine ⟨w.setRow b (cs.take (k * 7) ++ rowCells (List.replicate m x) ++ cs.drop (k * 7 + (rowCells (List.replicate m x)).length)).toArray, ?_, ?_, fun B w0 hB hb => below_setRow hb hB _⟩
  · have e := run_copy_rowK w dT dT ty 29 b (k * 7) (n - k) dCap a sLen sCap 7 cs.toArray 29 (rowCells (List.replicate m x)) hu hs h1 (by rw [hl, hm]) hsrc (by rw [hl]; simpa [h2] using hfit) (rowCells_oneM _)
    rw [← hm] at e
    exact e
  · refine ⟨by omega, cs.take (k * 7) ++ rowCells (List.replicate m x) ++ cs.drop (k * 7 + (rowCells (List.replicate m x)).length), ?_, ?_, ?_⟩
    · exact setRow_heap w b cs.toArray _ _ _ h1
    · simp only [List.length_append, List.length_take, List.length_drop, hl, h2]
      omega
    · rw [h3, replRow_add]
      exact List.take_left' (by rw [replRow])
theorem Filled.gets {w : World} {b n : Nat} {g : Gs} (hs : g.s = []) (h : Filled w b n n ⟨g, none, 0⟩) : GsIn (fun k => k = b) w (some ⟨b, 0, none⟩) (List.replicate n g) := by
  have hz := h.lt
  obtain ⟨_, cs, h1, h2, h3⟩ := h
  rw [List.take_of_length_le (by omega)] at h3
  subst h3
  intro i hi
  have hin : i < n := by simpa using hi
  have hc : ∀ j, j < 7 → w.cell? ⟨b, i * 7 + j, none⟩ = (gcCells ⟨g, none, 0⟩)[j]? := fun j hj => by
    have e := rowCells_get (List.replicate n (⟨g, none, 0⟩ : Gc)) i (by simpa using hin) j hj
    rw [List.getElem_replicate] at e
    rw [← e]
    simp [World.cell?, h1]
  refine ⟨b, 0, rfl, rfl, none, 0, ⟨?_, hz⟩, .inl (by simp [hs]), by simp [hs], by unfold maxLen; omega⟩
  simp only [List.getElem_replicate, Nat.zero_add]
  exact ⟨hc 0 (by omega), hc 1 (by omega), hc 2 (by omega), hc 3 (by omega), hc 4 (by omega), hc 5 (by omega), hc 6 (by omega)⟩
set_option maxHeartbeats 4000000 in
set_option maxRecDepth 10000 in
theorem repeatG_any (g : Gs) (hs0 : g.s = []) (n : Nat) (h8 : n ≤ 8) (b : Nat) (w : World) (hg : GuAt w b 0 g none 0) :
    Calls Tryz.prog 107 #[.slice (some ⟨b, 0, none⟩) 1 1, .int .i64 (n : Int)] w fun e w' => (∃ rs, e = .returned (.slice rs n n) ∧ GsIn (fun b => w.heap.size ≤ b) w' rs (List.replicate n g)) ∧ Below w.heap.size w w' := by
  obtain ⟨ti, hi, hz0, hz1, hz2⟩ := info_parts Tryz.info_guess
  have HMU : Hid (Calls Tryz.prog 134 #[.int .u64 1, .int .u64 (n : Int)] w fun e w' => e = .returned (.tuple #[.int .u64 0, .int .u64 (n : Int)]) ∧ w' = w) := by
    refine (Tryz.bits_Mul 1 n (by omega) (by omega) w).mono ?_
    rintro e w1 ⟨rfl, rfl⟩
    refine ⟨?_, rfl⟩
    have e1 : 1 * n / 18446744073709551616 = 0 := by omega
    have e2 : 1 * n % 18446744073709551616 = n := by omega
    rw [e1, e2]
    rfl
  have HMK := run_makeSlice (P := Tryz.prog) w 41 29 ti (.agg #[.bool false, .bool false, .int .i64 0, .int .i64 0, .bool false, .bool false, .slice none 0 0]) Tryz.underlying41 hi hz0 .i64 .i64 (n : Int) (n : Int) (by omega) (Int.le_refl _) (by rw [hz1]; omega) (by rw [hz2]; omega) (by omega)
  rw [Int.toNat_natCast, hz1] at HMK
  have F0 : Filled (w.alloc (.cells (madeCells (Value.cells (.agg #[.bool false, .bool false, .int .i64 0, .int .i64 0, .bool false, .bool false, .slice none 0 0])) (n * 7)) 29)) w.heap.size n 0 ⟨g, none, 0⟩ := by
    refine ⟨Nat.zero_le _, (madeCells (Value.cells (.agg #[.bool false, .bool false, .int .i64 0, .int .i64 0, .bool false, .bool false, .slice none 0 0])) (n * 7)).toList, heap_alloc_new _ _, by simp [size_madeCells], by simp [rowCells]⟩
  have hb0 : Below w.heap.size w (w.alloc (.cells (madeCells (Value.cells (.agg #[.bool false, .bool false, .int .i64 0, .int .i64 0, .bool false, .bool false, .slice none 0 0])) (n * 7)) 29)) := by go_grown
  have G0 := hg.alloc (.cells (madeCells (Value.cells (.agg #[.bool false, .bool false, .int .i64 0, .int .i64 0, .bool false, .bool false, .slice none 0 0])) (n * 7)) 29)
  have hns : ¬ (n : Int) < 0 := by omega
  have N1 : (n : Int) ≤ 9223372036854775807 := by omega
  obtain ⟨w2, HR, F2, HB2⟩ := F0.copy (P := Tryz.prog) 41 3 ⟨b, 0, none⟩ 1 1 n (Nat.min 1 n) Tryz.underlying41 (by rw [hi]; exact congrArg some hz1) (by simp) (fun j v hj => by
    have hj' := replRow_get (Nat.min 1 n) 1 ⟨g, none, 0⟩ (Nat.min_le_left _ _) j v hj
    have e1 : rowCells (List.replicate 1 (⟨g, none, 0⟩ : Gc)) = gcCells ⟨g, none, 0⟩ := by simp [rowCells]
    rw [e1] at hj'
    obtain ⟨⟨g0, g1, g2, g3, g4, g5, g6⟩, -⟩ := G0
    rw [Addr.add_lit]
    have hj7 : j < 7 := by have := (List.getElem?_eq_some_iff.1 hj').1; rwa [gcCells_len] at this
    rw [← hj']
    rcases (show j = 0 ∨ j = 1 ∨ j = 2 ∨ j = 3 ∨ j = 4 ∨ j = 5 ∨ j = 6 by omega) with rfl | rfl | rfl | rfl | rfl | rfl | rfl
    · exact g0
    · exact g1
    · exact g2
    · exact g3
    · exact g4
    · exact g5
    · exact g6)
  have hb2 := HB2 w.heap.size w (Nat.le_refl _) hb0
  simp only [Nat.zero_mul, Nat.sub_zero, Nat.zero_add] at HR F2
  clear HB2 F0 hb0 G0
  generalize w.alloc (.cells (madeCells (Value.cells (.agg #[.bool false, .bool false, .int .i64 0, .int .i64 0, .bool false, .bool false, .slice none 0 0])) (n * 7)) 29) = wA at *
  have HNM : n ≤ 1 → Nat.min 1 n = n := fun h => Nat.min_eq_right h
  have HM1 : Nat.min 1 n ≤ n := Nat.min_le_right _ _
  have HM2 : 1 ≤ n → Nat.min 1 n = 1 := fun h => Nat.min_eq_left h
  have m0 : n = 0 ∨ 1 ≤ Nat.min 1 n := by by_cases h : n = 0; exact .inl h; exact .inr (by rw [HM2 (by omega)]; exact Nat.le_refl _)
  clear HNM HM2
  generalize Nat.min 1 n = m at *
  go_enter Tryz.func107, Tryz.ntmps107
  go_wp2_with (go_at_call 134; fail)
  refine HMU.out.mono ?_
  rintro e w1 ⟨rfl, rfl⟩
  clear HMU
  go_wp2
  clear HR HMK
  go_loopw [8] (fun i wr => ∃ k : Nat, k ≤ n ∧ (n = 0 ∨ 1 ≤ k) ∧ i = .int .i64 (k : Int) ∧ Filled wr w1.heap.size n k ⟨g, none, 0⟩ ∧ Below w1.heap.size w1 wr) (fun i _ => n - (intOf i).toNat)
  case atStart => exact ⟨m, HM1, m0, rfl, F2, hb2⟩
  case round =>
    clear F2 hb2 HM1 m0
    obtain ⟨k, hk, hk0, rfl, FK, BK⟩ := hrel
    have FD : Filled wr.drew w1.heap.size n k ⟨g, none, 0⟩ := FK
    have BD := BK.drew
    by_cases hlt : k < n
    · have hk1 : 1 ≤ k := by omega
      have n0 : (0 : Int) ≤ (k : Int) := by omega
      have n1 : (k : Int) < (n : Int) := by omega
      have n2 : (k : Int) ≤ (n : Int) := by omega
      obtain ⟨w3, HR, F3, HB3⟩ := FD.copy (P := Tryz.prog) 41 3 ⟨w1.heap.size, 0, none⟩ k n (n - k) (Nat.min k (n - k)) Tryz.underlying41 (by rw [hi]; exact congrArg some hz1) rfl (fun j v hj => by
        obtain ⟨_, cs, c1, c2, c3⟩ := FD
        have hj' := replRow_get (Nat.min k (n - k)) k ⟨g, none, 0⟩ (Nat.min_le_left _ _) j v hj
        rw [← c3, List.getElem?_take] at hj'
        split at hj'
        · rw [Addr.add_lit, Nat.zero_add]
          simp [World.cell?, c1, hj']
        · cases hj')
      have B3 := HB3 w1.heap.size w1 (Nat.le_refl _) BD
      have hm1 : 1 ≤ Nat.min k (n - k) := Nat.le_min.2 ⟨hk1, by omega⟩
      have hm2 : Nat.min k (n - k) ≤ n - k := Nat.min_le_right _ _
      have HR' := hideH HR
      clear HR HB3 FK BK FD BD
      generalize Nat.min k (n - k) = q at *
      have HS1 : ∀ wx, (Instr.sliceAt 41 (.slice (some ⟨w1.heap.size, 0, none⟩) n n) (some (.int .i64 (k : Int))) none none).run Tryz.prog wx = .ok (.slice (some ⟨w1.heap.size, k * 7, none⟩) (n - k) (n - k)) wx := by
        intro wx
        simp [go_sem]
        rw [if_pos (by omega), if_neg (by omega)]
      have HS2 : ∀ wx, (Instr.sliceAt 41 (.slice (some ⟨w1.heap.size, 0, none⟩) n n) none (some (.int .i64 (k : Int))) none).run Tryz.prog wx = .ok (.slice (some ⟨w1.heap.size, 0, none⟩) k n) wx := by
        intro wx
        simp [go_sem]
        intro h
        omega
      go_upto_region 9 with fail
      refine wp_region_z (S := fun _ => True) [] (by kernel_rfl) trivial (fun hHeld => ?_)
      refine tkZ 0 ?_ ?_ ?_
      rotate_left
      · exact rn
      (try simp only [Act.put, List.getElem_toArray, List.getElem_cons_zero, List.getElem_cons_succ, List.setIfInBounds_toArray, List.set_cons_zero, List.set_cons_succ])
      refine tkZ 1 ?_ ?_ ?_
      rotate_left
      · exact rn
      (try simp only [Act.put, List.getElem_toArray, List.getElem_cons_zero, List.getElem_cons_succ, List.setIfInBounds_toArray, List.set_cons_zero, List.set_cons_succ])
      refine tkZ 2 ?_ ?_ ?_
      rotate_left
      · exact rn
      (try simp only [Act.put, List.getElem_toArray, List.getElem_cons_zero, List.getElem_cons_succ, List.setIfInBounds_toArray, List.set_cons_zero, List.set_cons_succ])
      refine tkZ 3 ?_ ?_ ?_
      rotate_left
      · exact rn
      (try simp only [Act.put, List.getElem_toArray, List.getElem_cons_zero, List.getElem_cons_succ, List.setIfInBounds_toArray, List.set_cons_zero, List.set_cons_succ])
      refine tkZ 4 ?_ ?_ ?_
      rotate_left
      · exact rn
      (try simp only [Act.put, List.getElem_toArray, List.getElem_cons_zero, List.getElem_cons_succ, List.setIfInBounds_toArray, List.set_cons_zero, List.set_cons_succ])
      refine tkZ 5 ?_ ?_ ?_
      rotate_left
      · exact rn
      (try simp only [Act.put, List.getElem_toArray, List.getElem_cons_zero, List.getElem_cons_succ, List.setIfInBounds_toArray, List.set_cons_zero, List.set_cons_succ])
      refine tkZ 6 ?_ ?_ ?_
      rotate_left
      · exact rn
      (try simp only [Act.put, List.getElem_toArray, List.getElem_cons_zero, List.getElem_cons_succ, List.setIfInBounds_toArray, List.set_cons_zero, List.set_cons_succ])
      refine wpAnyZ_one (i := 7) rfl (by kernel_rfl) (fun K hK => ?_)
      refine Lib.wp_copy_run _ _ _ 41 41 rfl _ _ rfl rfl HR'.out ?_
      refine hK.out _ _ trivial (fun hHeld => ?_)
      clear hK K
      (try simp only [Act.put, List.getElem_toArray, List.getElem_cons_zero, List.getElem_cons_succ, List.setIfInBounds_toArray, List.set_cons_zero, List.set_cons_succ])
      refine tkZ 8 ?_ ?_ ?_
      rotate_left
      · exact rn
      (try simp only [Act.put, List.getElem_toArray, List.getElem_cons_zero, List.getElem_cons_succ, List.setIfInBounds_toArray, List.set_cons_zero, List.set_cons_succ])
      refine tkZ 9 ?_ ?_ ?_
      rotate_left
      · exact rn
      (try simp only [Act.put, List.getElem_toArray, List.getElem_cons_zero, List.getElem_cons_succ, List.setIfInBounds_toArray, List.set_cons_zero, List.set_cons_succ])
      refine wpAnyZ_done (by kernel_rfl) ?_ _
      clear HS1 HS2 HR'
      have EW : IntKind.i64.wrap ((k : Int) + (q : Int)) = ((k + q : Nat) : Int) := by rw [IntKind.wrap_i64]; omega
      rw [EW]
      clear EW
      go_wp2
      go_roundw
      case rel => exact ⟨k + q, by omega, .inr (by omega), by go_num, F3, B3⟩
      case measure => simp [intOf]; omega
    · have n1 : ¬ (k : Int) < (n : Int) := by omega
      have ek : k = n := by omega
      subst ek
      go_wp2
      go_ret
      exact ⟨⟨_, rfl, (FK.gets hs0).mono fun b h _ => by omega⟩, BK⟩
set_option maxHeartbeats 2000000 in
set_option maxRecDepth 10000 in
theorem rowG_any (g : Gs) (hs0 : g.s = []) (n : Nat) (h8 : n ≤ 8) (w : World) :
    Calls Tryz.prog 68 #[.agg #[.bool g.n, .bool g.sp.n, .int .i64 g.sp.lo, .int .i64 g.sp.hi, .bool g.t, .bool g.f, .slice none 0 0], .int .i64 (n : Int)] w fun e w' => (∃ rs, e = .returned (.slice rs n n) ∧ GsIn (fun b => w.heap.size ≤ b) w' rs (List.replicate n g)) ∧ Below w.heap.size w w' := by
  have hl0 : g.s.length = 0 := by rw [hs0]; rfl
  have G1 := GuAt.new (w.alloc (.cells #[.bool g.n, .bool g.sp.n, .int .i64 g.sp.lo, .int .i64 g.sp.hi, .bool g.t, .bool g.f, .slice none g.s.length 0] 29)) g none 0
  rw [hl0, World.size_alloc] at G1
  have HR := hideH (repeatG_any g hs0 n h8 _ _ G1)
  clear G1
  have hb1 : Below w.heap.size w ((w.alloc (.cells #[.bool g.n, .bool g.sp.n, .int .i64 g.sp.lo, .int .i64 g.sp.hi, .bool g.t, .bool g.f, .slice none 0 0] 29)).alloc (.cells #[.bool g.n, .bool g.sp.n, .int .i64 g.sp.lo, .int .i64 g.sp.hi, .bool g.t, .bool g.f, .slice none 0 0] 29)) := by go_grown
  go_enter Tryz.func68, Tryz.ntmps68
  go_wp2_with (go_at_call 107; fail)
  refine HR.out.mono ?_
  rintro e w2 ⟨⟨rs, rfl, GV⟩, hb2⟩
  go_wp2
  go_ret
  exact ⟨⟨rs, rfl, GV.mono fun b h _ => Nat.le_trans hb1.size h⟩, hb1.trans (hb2.mono hb1.size)⟩
end Go.Proofs.YtmapdpcfanecdaaGreat
