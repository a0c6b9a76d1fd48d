/- Walks over package code: the line of an instruction, whatever it is. -/
import Derived.Test.YtmapdpcfanecdaaDoorKlawpbp36
import Derived.Test.YtmapdpcfanecdaaDoorKlawpbp41
namespace Go.Proofs.YtmapdpcfanecdaaDoor
set_option linter.unusedVariables false
set_option linter.unusedSimpArgs false
open Go.RowKit

def zeroI : Ins := ⟨0, 0, 0, 0, 0, 0⟩
/-- An instruction, as a value. -/
def insV (i : Ins) : Value := .agg #[.int .i64 i.k, .int .i64 i.to, .int .i64 i.a, .int .i64 i.b, .int .i64 i.n, .int .i64 i.g]
/-- What parseInstr answers. -/
def insAns : Option Ins → Value
  | some i => .tuple #[insV i, .bool true]
  | none => .tuple #[insV zeroI, .bool false]

/-- Numbers laid into parts. -/
def goI (qs : List Nat) (xs : List (List UInt8)) (i : Ins) : Option Ins := match numsOf xs with
  | none => none
  | some t => some (putAll qs t i)
theorem goI_nil (i : Ins) : goI [] [] i = some i := rfl
theorem goI_cons (q : Nat) (qs : List Nat) (x : List UInt8) (xs : List (List UInt8)) (i : Ins) : goI (q :: qs) (x :: xs) i = match numOf x with
    | none => none
    | some v => goI qs xs (putP q v i) := by
  unfold goI
  rw [numsOf]
  cases numOf x with
  | none => rfl
  | some v =>
    cases numsOf xs with
    | none => rfl
    | some t => rfl

/-- An instruction lies in a variable of its own. -/
def XAt (w : World) (X : Nat) (i : Ins) : Prop :=
  (w.cell? ⟨X, 0, none⟩ = some (.int .i64 i.k) ∧ w.cell? ⟨X, 1, none⟩ = some (.int .i64 i.to) ∧ w.cell? ⟨X, 2, none⟩ = some (.int .i64 i.a) ∧ w.cell? ⟨X, 3, none⟩ = some (.int .i64 i.b) ∧ w.cell? ⟨X, 4, none⟩ = some (.int .i64 i.n) ∧ w.cell? ⟨X, 5, none⟩ = some (.int .i64 i.g)) ∧ (∀ j, w.frozen? ⟨X, j, none⟩ = false) ∧ X < w.heap.size
theorem XAt.call {w w' : World} {X : Nat} {i : Ins} (h : XAt w X i) (hb : Below w.heap.size w w') : XAt w' X i := by
  obtain ⟨⟨h0, h1, h2, h3, h4, h5⟩, hf, hz⟩ := h
  exact ⟨⟨by rw [hb.cell hz]; exact h0, by rw [hb.cell hz]; exact h1, by rw [hb.cell hz]; exact h2, by rw [hb.cell hz]; exact h3, by rw [hb.cell hz]; exact h4, by rw [hb.cell hz]; exact h5⟩, fun j => by rw [hb.frozen hz]; exact hf j, Nat.lt_of_lt_of_le hz hb.size⟩
theorem XAt.at {w : World} {X q : Nat} {i : Ins} (h : XAt w X i) : ∃ z, w.cell? ⟨X, posP q, none⟩ = some (.int .i64 z) := by
  obtain ⟨⟨h0, h1, h2, h3, h4, h5⟩, hf, hz⟩ := h
  match q with
  | 0 => exact ⟨_, h1⟩
  | 1 => exact ⟨_, h2⟩
  | 2 => exact ⟨_, h3⟩
  | 3 => exact ⟨_, h5⟩
  | q + 4 => exact ⟨_, h4⟩
theorem XAt.put {w : World} {X q : Nat} {i : Ins} (v : Int) (h : XAt w X i) : XAt (w.setCell ⟨X, posP q, none⟩ (.int .i64 v)) X (putP q v i) := by
  obtain ⟨⟨h0, h1, h2, h3, h4, h5⟩, hf, hz⟩ := h
  match q with
  | 0 => exact ⟨⟨by simp [go_sem, posP, putP, h0], by simp [go_sem, posP, putP, h1], by simp [go_sem, posP, putP, h2], by simp [go_sem, posP, putP, h3], by simp [go_sem, posP, putP, h4], by simp [go_sem, posP, putP, h5]⟩, fun j => by simp [go_sem, hf], by simpa using hz⟩
  | 1 => exact ⟨⟨by simp [go_sem, posP, putP, h0], by simp [go_sem, posP, putP, h1], by simp [go_sem, posP, putP, h2], by simp [go_sem, posP, putP, h3], by simp [go_sem, posP, putP, h4], by simp [go_sem, posP, putP, h5]⟩, fun j => by simp [go_sem, hf], by simpa using hz⟩
  | 2 => exact ⟨⟨by simp [go_sem, posP, putP, h0], by simp [go_sem, posP, putP, h1], by simp [go_sem, posP, putP, h2], by simp [go_sem, posP, putP, h3], by simp [go_sem, posP, putP, h4], by simp [go_sem, posP, putP, h5]⟩, fun j => by simp [go_sem, hf], by simpa using hz⟩
  | 3 => exact ⟨⟨by simp [go_sem, posP, putP, h0], by simp [go_sem, posP, putP, h1], by simp [go_sem, posP, putP, h2], by simp [go_sem, posP, putP, h3], by simp [go_sem, posP, putP, h4], by simp [go_sem, posP, putP, h5]⟩, fun j => by simp [go_sem, hf], by simpa using hz⟩
  | q + 4 => exact ⟨⟨by simp [go_sem, posP, putP, h0], by simp [go_sem, posP, putP, h1], by simp [go_sem, posP, putP, h2], by simp [go_sem, posP, putP, h3], by simp [go_sem, posP, putP, h4], by simp [go_sem, posP, putP, h5]⟩, fun j => by simp [go_sem, hf], by simpa using hz⟩

/-- A line cut at its blanks: a row of its own. -/
theorem split_row (l : ByteArray) (w : World) (hm : Cap w) (hl : l.size ≤ 4000) : ∃ x ns, ((x :: ns).map fun b : ByteArray => b.data.toList) = cutAll 32 l.data.toList ∧ ns.length ≤ 4000 ∧
    Calls Tryd.prog 91 #[.string l, .string ⟨#[32]⟩] w fun e w' => e = .returned (.slice (some ⟨w.heap.size, 0, none⟩) (ns.length + 1) (ns.length + 1)) ∧ (∀ j (hj : j < (x :: ns).length), w'.cell? ⟨w.heap.size, j, none⟩ = some (.string (x :: ns)[j])) ∧ w.heap.size < w'.heap.size ∧ Below w.heap.size w w' := by
  have hlen := Lib.splitB_all ⟨#[32]⟩ (by decide) 0 _ l rfl
  have hle := Lib.countB_le ⟨#[32]⟩ (by decide) l.size l (Nat.le_refl _)
  have hdat := Lib.splitB_data ⟨#[32]⟩ 0 (Lib.countB l ⟨#[32]⟩) l
  have hcnt : Lib.countB l ⟨#[32]⟩ = Lib.count l.data.toList [32] := by first | rfl | exact Lib.countB_eq _ _ | simp [Lib.countB]
  have hk := splitK_all 32 l.data.toList
  rw [← hcnt] at hk
  have hd2 : (Lib.splitB ⟨#[32]⟩ 0 (Lib.countB l ⟨#[32]⟩) l).map (fun b : ByteArray => b.data.toList) = cutAll 32 l.data.toList := hdat.trans hk
  cases hx : Lib.splitB ⟨#[32]⟩ 0 (Lib.countB l ⟨#[32]⟩) l with
  | nil => rw [hx] at hlen; simp at hlen
  | cons x ns =>
    rw [hx] at hd2 hlen
    simp only [List.length_cons] at hlen
    refine ⟨x, ns, hd2, by omega, ?_⟩
    refine (split_words l (x :: ns) w hm (by omega) (by rw [List.length_cons]; omega) hx).mono ?_
    rintro e w' ⟨rfl, rfl⟩
    refine ⟨rfl, fun j hj => ?_, by simp, by go_grown⟩
    have := cells_new w ((x :: ns).map Value.string) 9 j (.string (x :: ns)[j]) (by rw [List.getElem?_map, List.getElem?_eq_getElem hj]; rfl)
    cases j with
    | zero => exact this
    | succ j => simp [Addr.add]

theorem insOf_words {l : List UInt8} {x : ByteArray} {ns : List ByteArray} (h : ((x :: ns).map fun b : ByteArray => b.data.toList) = cutAll 32 l) : insOf l = match kindOf x.data.toList ns.length with
    | none => none
    | some k => goI (prt k) (ns.map fun b : ByteArray => b.data.toList) ⟨k, 0, 0, 0, 0, 0⟩ := by
  unfold insOf goI
  rw [← h]
  simp only [List.map_cons, List.length_map]
  cases kindOf x.data.toList ns.length with
  | none => rfl
  | some k => rfl

set_option maxHeartbeats 2000000 in
set_option maxRecDepth 20000 in
theorem parseInstr_any (N : Nat) (l : ByteArray) (w : World) (hl : l.size ≤ 4000) (hs : ShpAt N shps w) (ht : Tab w) (hm : Cap w) (hE : ErrS w) :
    Calls Tryd.prog 70 #[.map (some N), .string l] w fun e w' => e = .returned (insAns (insOf l.data.toList)) ∧ Below w.heap.size w w' := by
  have hb1 : Below w.heap.size w (w.alloc (.cells #[.int .i64 0, .int .i64 0, .int .i64 0, .int .i64 0, .int .i64 0, .int .i64 0] 71)) := by go_grown
  obtain ⟨x, ns, hdat, hnl, hsp⟩ := split_row l (w.alloc (.cells #[.int .i64 0, .int .i64 0, .int .i64 0, .int .i64 0, .int .i64 0, .int .i64 0] 71)) (hm.below hb1) hl
  have hans := insOf_words hdat
  generalize insOf l.data.toList = ans at hans
  have Hans := hideN hans
  clear hdat hl hans
  simp only [World.size_alloc] at hsp
  go_enter Tryd.func70, Tryd.ntmps70
  go_wp2_with (go_at_call 91; fail)
  refine hsp.mono ?_
  rintro e w0 ⟨rfl, hcells, hz0, hb0⟩
  clear hsp
  have H0 : Below w.heap.size w w0 := hb1.trans (hb0.mono (by simp))
  have R0 : XAt w0 w.heap.size zeroI := by
    refine XAt.call (w := w.alloc (.cells #[.int .i64 0, .int .i64 0, .int .i64 0, .int .i64 0, .int .i64 0, .int .i64 0] 71)) ⟨⟨?_, ?_, ?_, ?_, ?_, ?_⟩, fun j => ?_, ?_⟩ (by simpa using hb0) <;> simp [go_sem, zeroI]
  have c0 := hcells 0 (by simp)
  have zr : w.heap.size < w0.heap.size := by omega
  have hb2 : Below w0.heap.size w0 (w0.alloc (.cells #[.slice (some ⟨w.heap.size + 1, 0, none⟩) (ns.length + 1) (ns.length + 1)] 44)) := by go_grown
  have hfi := find_any x N w0.heap.size (w.heap.size + 1) (ns.length + 1) (ns.length + 1) (w0.alloc (.cells #[.slice (some ⟨w.heap.size + 1, 0, none⟩) (ns.length + 1) (ns.length + 1)] 44)) (by omega) ((hs.below H0 (Nat.le_refl _)).below hb2 (Nat.le_refl _)) (by omega) (by simp) (by simp; omega) (by simp [go_sem]) (by rw [hb2.cell (by simpa using hz0)]; exact c0)
  rw [Nat.add_sub_cancel] at hfi
  go_wp2_with (go_at_call 93; fail)
  refine hfi.mono ?_
  rintro e w1 ⟨he, hw1⟩
  clear hfi
  have H1 : Below w0.heap.size w0 w1 := hb2.trans (hw1.mono (by simp))
  have HW1 : Below w.heap.size w w1 := H0.trans (H1.mono H0.size)
  have R1 : XAt w1 w.heap.size zeroI := R0.call H1
  have av : w1.cell? ⟨w0.heap.size, 0, none⟩ = some (.slice (some ⟨w.heap.size + 1, 0, none⟩) (ns.length + 1) (ns.length + 1)) := by rw [hw1.cell (by simp)]; simp [go_sem]
  have zv : w0.heap.size < w1.heap.size := by have := hw1.size; simp at this; omega
  have hcw : ∀ j, j < ns.length → ∃ y : ByteArray, (ns.map fun b : ByteArray => b.data.toList).drop j = y.data.toList :: (ns.map fun b : ByteArray => b.data.toList).drop (j + 1) ∧ w1.cell? ⟨w.heap.size + 1, j + 1, none⟩ = some (.string y) := fun j hj => by
    refine ⟨ns[j], ?_, ?_⟩
    · rw [List.drop_eq_getElem_cons (by simpa using hj), List.getElem_map]
    · rw [H1.cell hz0]; exact hcells (j + 1) (by simp; omega)
  clear hcells c0 hb2 hw1 R0 hb0
  have zw : w.heap.size + 1 < w1.heap.size := by omega
  generalize w0.heap.size = P at *
  generalize hk : kindOf x.data.toList ns.length = ko at *
  cases ko with
  | none =>
    obtain rfl : ans = none := Hans.out
    clear Hans
    simp only [findV] at he
    subst he
    clear hcw av hk
    obtain ⟨⟨r0, r1, r2, r3, r4, r5⟩, rf, rz⟩ := R1
    simp only [zeroI] at r0 r1 r2 r3 r4 r5
    go_wp2
    refine bodyPost_ret (v := insAns none) (by simp [results, Tryd.results70, go_sem, insAns, insV, zeroI, r0, r1, r2, r3, r4, r5]) rfl ⟨rfl, ?_⟩
    exact ((((((HW1.setCell (Nat.le_refl _) _).setCell (Nat.le_refl _) _).setCell (Nat.le_refl _) _).setCell (Nat.le_refl _) _).setCell (Nat.le_refl _) _).setCell (Nat.le_refl _) _)
  | some K =>
    obtain ⟨⟨hK1, hK19⟩, -, hnp⟩ := kind_cases hk
    simp only [findV] at he
    subst he
    clear hk
    have hS1 := hs.below HW1 (Nat.le_refl _)
    have hbx : Below w1.heap.size w1 (w1.alloc (.cells #[.int .i64 K, .int .i64 0, .int .i64 0, .int .i64 0, .int .i64 0, .int .i64 0] 71)) := by go_grown
    obtain ⟨sa, hlk, hpart⟩ := look_parts (hS1.below hbx (Nat.le_refl _)) K hK1 hK19
    have hpart1 : ∀ j, j < (prt K).length → ∃ q : Nat, (prt K).drop j = q :: (prt K).drop (j + 1) ∧ sa = some ⟨N + K, 0, none⟩ ∧ w1.cell? ⟨N + K, j, none⟩ = some (.int .i64 q) ∧ N + K < w1.heap.size := by
      intro j hj
      obtain ⟨sa', hlk', hp'⟩ := look_parts hS1 K hK1 hK19
      obtain ⟨h1, -, -⟩ := hpart j hj
      obtain ⟨-, h2, h3⟩ := hp' j hj
      exact ⟨(prt K)[j], List.drop_eq_getElem_cons hj, h1, h2, h3⟩
    have X1 : XAt (w1.alloc (.cells #[.int .i64 K, .int .i64 0, .int .i64 0, .int .i64 0, .int .i64 0, .int .i64 0] 71)) w1.heap.size ⟨K, 0, 0, 0, 0, 0⟩ := by
      refine ⟨⟨?_, ?_, ?_, ?_, ?_, ?_⟩, fun j => ?_, ?_⟩ <;> simp [go_sem]
    generalize wordB K = wk at *
    have Hgo : Hid (goI (prt K) (ns.map fun b : ByteArray => b.data.toList) ⟨K, 0, 0, 0, 0, 0⟩ = ans) := Hans.out.symm
    clear Hans hpart hS1 hs
    rw [hnp] at hlk hpart1
    have hfld : ∀ wx : World, (Instr.field 105 (.agg #[.string wk, .slice sa ns.length ns.length]) 1).run Tryd.prog wx = .ok (.slice sa ns.length ns.length) wx := fun _ => by kernel_rfl
    go_wp2
    go_loopw [32] (fun i wr => ∃ (j : Nat) (I : Ins), j ≤ ns.length ∧ i = .int .i64 j ∧ Hid (goI ((prt K).drop j) ((ns.map fun b : ByteArray => b.data.toList).drop j) I = ans) ∧ XAt wr w1.heap.size I ∧ Below w1.heap.size w1 wr) (fun i _ => ns.length - (intOf i).toNat)
    case atStart => exact ⟨0, _, Nat.zero_le _, rfl, Hgo, X1, hbx⟩
    case round =>
      obtain ⟨j, I, hj, rfl, HG, XR, hbr⟩ := hrel
      clear X1 hbx Hgo hlk hfld
      have HR : Below w.heap.size w wr := HW1.trans (hbr.mono HW1.size)
      have RR : XAt wr w.heap.size zeroI := R1.call hbr
      clear R1
      by_cases hlt : j < ns.length
      · have n0 : (0 : Int) ≤ (j : Int) := by omega
        have n1 : (j : Int) < (ns.length : Int) := by omega
        have n2 : (0 : Int) ≤ (j : Int) + 1 := by omega
        have n3 : (j : Int) + 1 < ((ns.length + 1 : Nat) : Int) := by omega
        have n4 : ((j : Int) + 1).toNat = j + 1 := by omega
        obtain ⟨q, hdq, rfl, hq, hqz⟩ := hpart1 j (by omega)
        obtain ⟨y, hdy, hy⟩ := hcw j (by omega)
        have q0 : wr.cell? ⟨N + K, j, none⟩ = some (.int .i64 q) := by rw [hbr.cell hqz]; exact hq
        have w0c : wr.cell? ⟨P, 0, none⟩ = some (.slice (some ⟨w.heap.size + 1, 0, none⟩) (ns.length + 1) (ns.length + 1)) := by rw [hbr.cell zv]; exact av
        have w1c : wr.cell? ⟨w.heap.size + 1, j + 1, none⟩ = some (.string y) := by rw [hbr.cell zw]; exact hy
        have HG2 := HG.out
        rw [hdq, hdy, goI_cons] at HG2
        clear HG hq hcw hpart1 av hdq hdy hy
        go_wp2_with (go_at_call 92; fail)
        refine (parseNumber_any y wr (ht.below HR) (hE.below HR)).mono ?_
        rintro e w5 ⟨v, rfl, hv, hb5⟩
        have XR5 := XR.call hb5
        have RR5 := RR.call hb5
        have B5 := hbr.trans (hb5.mono hbr.size)
        have HR5 := HR.trans (hb5.mono HR.size)
        clear q0 w0c w1c XR RR hb5 hbr HR
        cases hn : numOf y.data.toList with
        | none =>
          rw [hn] at HG2
          simp only at HG2
          subst HG2
          clear hv hn XR5
          simp only [Option.isSome]
          obtain ⟨⟨r0, r1, r2, r3, r4, r5⟩, rf, rz⟩ := RR5
          simp only [zeroI] at r0 r1 r2 r3 r4 r5
          go_wp2
          refine bodyPost_ret (v := insAns none) (by simp [results, Tryd.results70, go_sem, insAns, insV, zeroI, r0, r1, r2, r3, r4, r5]) rfl ⟨rfl, ?_⟩
          exact ((((((HR5.setCell (Nat.le_refl _) _).setCell (Nat.le_refl _) _).setCell (Nat.le_refl _) _).setCell (Nat.le_refl _) _).setCell (Nat.le_refl _) _).setCell (Nat.le_refl _) _)
        | some n =>
          rw [hn] at HG2
          simp only at HG2
          obtain rfl := hv n hn
          have HG3 := hideN HG2
          clear HG2 hn hv RR5 HR5
          simp only [Option.isSome]
          obtain ⟨z, hz⟩ := XR5.at (q := q)
          have hfz := XR5.2.1
          have hzz := XR5.2.2
          have XP := XR5.put (q := q) v
          clear XR5
          go_wp2_with (go_at_call 63; fail)
          refine (slot_any _ q _).mono ?_
          rintro e w6 ⟨rfl, hw6⟩
          have hw7 := hw6.symm
          subst hw7
          clear hw6
          have B6 : Below w1.heap.size w1 (World.setCell _ (⟨w1.heap.size, posP q, none⟩ : Addr) (.int .i64 v)) := B5.setCell (Nat.le_refl _) _
          generalize posP q = pp at *
          go_wp2
          go_roundw
          case rel => exact ⟨j + 1, putP q v I, by omega, by go_num, HG3, XP, B6⟩
          case measure => simp [intOf]; omega
      · have hj' : j = ns.length := by omega
        subst hj'
        have HG2 := HG.out
        rw [List.drop_eq_nil_of_le (by omega), List.drop_eq_nil_of_le (by simp), goI_nil] at HG2
        subst HG2
        clear HG hpart1 hcw av
        obtain ⟨⟨r0, r1, r2, r3, r4, r5⟩, rf, rz⟩ := RR
        obtain ⟨⟨x0, x1, x2, x3, x4, x5⟩, xf, xz⟩ := XR
        simp only [zeroI] at r0 r1 r2 r3 r4 r5
        go_wp2
        refine bodyPost_ret (v := insAns (some I)) (by simp [results, Tryd.results70, go_sem, insAns, insV, r0, r1, r2, r3, r4, r5]) rfl ⟨rfl, ?_⟩
        exact ((((((HR.setCell (Nat.le_refl _) _).setCell (Nat.le_refl _) _).setCell (Nat.le_refl _) _).setCell (Nat.le_refl _) _).setCell (Nat.le_refl _) _).setCell (Nat.le_refl _) _)
end Go.Proofs.YtmapdpcfanecdaaDoor
