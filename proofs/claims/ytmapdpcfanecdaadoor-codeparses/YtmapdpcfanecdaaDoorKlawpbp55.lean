/- For every text that the law CodeParses is handed, it returns true and leaves it as it was: Parse answers just what the document's own reader answers: the program, the line, the errno. No condition but the row's own: the listed package-level variables hold what the program's text lays. -/
import Derived.Test.YtmapdpcfanecdaaDoorKlawpbp49
import Derived.Test.YtmapdpcfanecdaaDoorKlawpbp54
import Derived.Test.YtmapdpcfanecdaaDoorKlawpbp37
import Derived.ChangeMaps5
namespace Go.Proofs.YtmapdpcfanecdaaDoor
set_option linter.unusedVariables false
set_option linter.unusedSimpArgs false
open Go.RowKit

theorem parsed_len (s : ByteArray) : (parsed s).1.2.2.length ≤ 60 := by
  by_cases h : (parsed s).2.2 = 0
  · exact (ckProg_each (parsed_ok h).1).2.2.1
  · rw [parsed_err h]; simp

set_option maxHeartbeats 4000000 in
set_option maxRecDepth 20000 in
theorem codeParses_any (s : ByteArray) (w : World) (ht : Tab w) (hm : Cap w) (hE : ErrS w) :
    Calls Tryd.prog 4 #[.string s] w fun e w' => e = .returned (.bool true) ∧ Below w.heap.size w w' := by
  have hP := parse_any s w ht hm hE
  have HQ := hideN (fun w => parseOf_ans s w)
  have hl := parsed_len s
  generalize parsed s = ps at *
  obtain ⟨⟨V, F, c⟩, l, er⟩ := ps
  unfold ParAns at HQ
  simp only at hP HQ hl
  go_enter Tryd.func4, Tryd.ntmps4
  go_wp2_with (go_at_call 16; fail)
  refine hP.mono ?_
  rintro e w1 ⟨v1, rfl, hown1, hb1⟩
  clear hP
  obtain ⟨s1, cp1, rfl, hc1⟩ := codeAt_own hown1
  have P2 := PgAt.new w1 V F s1 c.length cp1
  have hb2 : Below w1.heap.size w1 (w1.alloc (.cells #[.int .i64 V, .int .i64 F, .slice s1 c.length cp1] 24)) := by go_grown
  have hc2 := hc1.below hb2 (Nat.le_refl _)
  have H2 : Below w.heap.size w (w1.alloc (.cells #[.int .i64 V, .int .i64 F, .slice s1 c.length cp1] 24)) := hb1.trans (hb2.mono hb1.size)
  clear hown1 hc1 hb1 hb2
  go_wp2_with (go_at_call 17; fail)
  refine (HQ.out _).mono ?_
  rintro e w3 ⟨⟨v3, rfl, hown3⟩, hb3⟩
  clear HQ
  obtain ⟨s3, cp3, rfl, hc3⟩ := codeAt_own hown3
  have P3 := P2.call hb3
  have hc23 := hc2.below hb3 (Nat.le_refl _)
  have H3 := H2.trans (hb3.mono H2.size)
  have P4 := PgAt.new w3 V F s3 c.length cp3
  have hb4 : Below w3.heap.size w3 (w3.alloc (.cells #[.int .i64 V, .int .i64 F, .slice s3 c.length cp3] 24)) := by go_grown
  have P34 := P3.call hb4
  have hc24 := hc23.below hb4 (Nat.le_refl _)
  have hc34 := hc3.below hb4 (Nat.le_refl _)
  have H4 := H3.trans (hb4.mono H3.size)
  clear hown3 hc3 hc23 hc2 hb3 hb4 P2 P3 H2 H3
  go_wp2_with (go_at_call 13; fail)
  refine (codeBegun_any _ (ht.below H4) (hm.below H4)).mono ?_
  rintro e w5 ⟨rfl, hb5⟩
  obtain ⟨p0, p1, p2, pz⟩ := P34.call hb5
  obtain ⟨q0, q1, q2, qz⟩ := P4.call hb5
  have hc25 := hc24.below hb5 (Nat.le_refl _)
  have hc35 := hc34.below hb5 (Nat.le_refl _)
  have H5 := H4.trans (hb5.mono H4.size)
  clear hc24 hc34 hb5 P34 P4 H4
  go_wp2_with (go_at_call 18; fail)
  refine (sameProgram_any V F s1 s3 cp1 cp3 c w5 (by unfold maxLen; omega) hc25 hc35).mono ?_
  rintro e w6 ⟨rfl, hb6⟩
  go_wp2
  go_ret
  exact ⟨rfl, H5.trans (hb6.mono H5.size)⟩
end Go.Proofs.YtmapdpcfanecdaaDoor

namespace Go.Proofs.YtmapdpcfanecdaaDoor
set_option linter.unusedVariables false
set_option linter.unusedSimpArgs false
open Go.ChangeShapes Go.WideShapes Go.ChangeAt Go.RowKit
namespace codeParses

set_option maxRecDepth 100000 in
theorem contract (H : Type) (enc : TypeId × Value → H) (W : World) (base : Nat) (args : Array Value) (ds gs : List (DataW H)) (before : List MemPlace)
    (hval : ∀ (j : Nat) t v, Tryd.f4.params[j]? = some t → args[j]? = some v → Value.okWide Tryd.prog W .any base t v)
    (hW : DataW.Whole enc Tryd.prog Tryd.f4.params.toList Rows.codeParsesSpec.vars false W args.toList ds gs before) (hL : laidMetH Tryd.prog Rows.codeParsesRow.laid W) (hS : W.ShapedOpen Tryd.prog) :
    Calls Tryd.prog 4 args W fun e W' => ∃ v, e = .returned v ∧ Rows.codeParsesSpec.post enc Tryd.prog Tryd.f4 false true false false W args v W' := by
  have hlt := hW.lt
  have hW' := hW
  obtain ⟨p, q, hA0, hV, rfl, hfz, hnd⟩ := hW
  have hA : DataW.TrodAll enc Tryd.prog W 0 (fun _ => true) true Tryd.f4.params.toList args.toList ds p := hA0
  rw [Tryd.params4] at hA hval
  obtain ⟨v0, vs0, d0, ds0, p0, q0, e0, rfl, rfl, h0, hr0⟩ := trodAll_cons hA
  obtain ⟨rfl, rfl, rfl⟩ := trodAll_nil hr0
  have ea : args = #[v0] := by cases args; simp_all
  subst ea
  obtain ⟨rfl, rfl⟩ := trodVars_none hV
  obtain ⟨t, rfl, -, -, hlen0⟩ := Go.ChangeMaps.open_string Tryd.underlying9 (hval 0 9 v0 rfl rfl) h0
  have hL' : laidMet Tryd.prog (("math/bits.deBruijn32tab", Rows.laid_math_bits_deBruijn32tab) :: ("math/bits.deBruijn64tab", Rows.laid_math_bits_deBruijn64tab) :: ("internal/strconv.uint64pow10", Rows.laid_internal_strconv_uint64pow10) :: ("unicode/utf8.acceptRanges", Rows.laid_unicode_utf8_acceptRanges) :: ("strconv.ErrRange", Rows.laid_strconv_ErrRange) :: ("strconv.ErrSyntax", Rows.laid_strconv_ErrSyntax) :: [("unicode/utf8.first", Rows.laid_unicode_utf8_first)]) W := hL
  have hT := tab_of hL'.tail.tail
  have hE := errS_of hL'.tail.tail.tail.tail.tail
  have hM : Cap W := cap_of hS
  refine (codeParses_any t W hT hM hE).mono fun e W' ⟨he, hb⟩ => ?_
  subst he
  refine ⟨_, rfl, _, _, _, [], p0 ++ [], [], hW', ?_, ?_, ?_, hb.frame _, fun h => by cases h⟩
  · exact trodAll_mk1 (shut_bool Tryd.underlying4 _)
  · rw [Tryd.params4]
    exact trodAll_cons_mk (Below.trod (by kernel_rfl) (by kernel_rfl) (of_decide_eq_true (by kernel_rfl)) h0 hb (fun x hx => hlt x (by simp [hx]))) (rfl)
  · rfl

theorem witness_row (os : Os) {H : Type} (enc : TypeId × Value → H) :
    (OpenSpec.ofChange Rows.codeParsesSpec).preRow enc Tryd.prog Tryd.f4 Rows.codeParsesRow.domain false Rows.codeParsesRow.laid ((laidWorld Tryd.prog os).forCall (fun _ _ => 0) ⟨#[], #[.string ⟨#[]⟩], []⟩).memory #[.string ⟨#[]⟩] := by
  have hw : (DataW.whole enc Tryd.prog ((laidWorld Tryd.prog os).forCall (fun _ _ => 0) ⟨#[], #[.string ⟨#[]⟩], []⟩).memory Tryd.f4.params.toList Rows.codeParsesSpec.vars false #[Value.string ⟨#[]⟩].toList 8).isSome = true := by kernel_rfl
  obtain ⟨x, hx⟩ := Option.isSome_iff_exists.1 hw
  exact OpenSpec.preRow_of_cond 8 hx rfl (fun k hk => by cases hk) (by kernel_rfl) (laid_met os _)

set_option maxRecDepth 100000 in
theorem lifted (os : Os) (started : os.Started) (H : Type) (enc : TypeId × Value → H) (F : Stop.Interp) :
    ReturnsInHanded {} Tryd.checked os 4 .any ((OpenSpec.ofChange Rows.codeParsesSpec).preRow enc Tryd.prog Tryd.f4 Rows.codeParsesRow.domain false Rows.codeParsesRow.laid) (((OpenSpec.ofChange Rows.codeParsesSpec).at F).post enc Tryd.prog Tryd.f4 false true false false) := by
  refine returnsInHanded_of_row (C := Tryd.checked) (s := OpenSpec.ofChange Rows.codeParsesSpec) own started (by kernel_rfl) Tryd.func4
    (witness_row_atRef (enc := enc) (C := Tryd.checked) false (laidWorld Tryd.prog os) #[.string ⟨#[]⟩] rfl (by kernel_rfl) (by kernel_rfl) (by kernel_rfl) (witness_row os enc)) ?_
  intro W base args ds gs before hval hW _ _ _ hL hS _
  exact contract H enc W base args ds gs before hval hW hL hS

theorem said : Rows.CodeParsesSaid :=
  OpenClaim.holds_of_cond 4 Tryd.f4 rfl rfl rfl rfl rfl rfl rfl ⟨rfl, rfl, rfl, rfl, rfl⟩ rfl rfl rfl rfl rfl (by kernel_rfl) Tryd.func4 (by kernel_rfl)
    (of_decide_eq_true (by kernel_rfl)) (by unfold Func.isWrapper; first | (rw [if_pos (by decide +kernel)]; kernel_rfl) | (rw [if_neg (by decide +kernel)]; exact ⟨rfl, rfl⟩))
    (fun os started H enc _ F => by rw [OpenClaim.pre_eq_preRow]; exact lifted os started H enc F)

theorem plain (f : FuncId) (fn : Func) (hf : Tryd.pinned.checked.prog.funcNamed "soundings/soundingslaw.CodeParses" = some f) (hfn : Tryd.pinned.checked.prog.funcs[f]? = some fn) :
    true = Tryd.pinned.checked.prog.looks [] ∧ ∀ (j : Nat) t, fn.params[j]? = some t → Tryd.pinned.checked.prog.wantsStandIn t = false := by
  obtain rfl : f = 4 := Option.some.inj ((show Tryd.prog.funcNamed "soundings/soundingslaw.CodeParses" = some 4 by kernel_rfl).symm.trans hf) |>.symm
  obtain rfl : fn = Tryd.f4 := (Option.some.inj (Tryd.func4.symm.trans hfn)).symm
  refine ⟨by kernel_rfl, fun j t ht => ?_⟩
  rw [Tryd.params4] at ht
  have hm : t = 9 := by simpa using Array.mem_of_getElem? ht
  rcases hm with rfl
  exact (show Tryd.prog.wantsStandIn 9 = false by kernel_rfl)
end codeParses

theorem codeParses_holds : Rows.CodeParsesCardSaid :=
  Claim7.holds_tied_plain_at .later [] _ _ _ _ codeParses.said (fun _ h => by cases h) (by kernel_rfl) (fun _ h => by cases h) codeParses_row_tie rfl ⟨rfl, rfl⟩ (by kernel_rfl) rfl codeParses.plain (by kernel_rfl)
end Go.Proofs.YtmapdpcfanecdaaDoor
