/- For every text that the law AlarmReports is handed, it returns true and leaves it as it was: Report of package alarm answers just what the document's own words ask, errors too. No condition but the row's own: the listed package-level variables hold what the program's text lays. -/
import Derived.Test.YtmapdpcfanecdabGreatDoorR29
import Derived.ChangeMaps5
open Go.Ending renaming returned→Rt
open Go.Proofs.Tryz renaming prog→pG
open Option renaming some→j0,some→sO
set_option linter.unusedSimpArgs false
set_option linter.unusedVariables false
set_option maxHeartbeats 80000000
set_option maxRecDepth 100000
namespace Go.Proofs.YtmapdpcfanecdabGreatDoor
section
open Go.ChangeShapes Go.WideShapes Go.ChangeAt Go.RowKit
namespace alarmReports

theorem contract (H:Type)(enc:TypeId×Value->H)(W:World)(base:Nat)(args:Array Value)(ds gs:List (DataW H))(before:List MemPlace)
  (hval:∀(j:Nat) t v,Tryz.f7.params[j]? =sO t->args[j]? =sO v->Value.okWide pG W .any base t v)
  (hW:DataW.Whole enc pG Tryz.f7.params.toList Rows.alarmReportsSpec.vars false W args.toList ds gs before)(hL:laidMetH pG Rows.alarmReportsRow.laid W)(hS:W.ShapedOpen pG):
  Calls pG 7 args W λe W'=>∃v,e=Rt v/\Rows.alarmReportsSpec.post enc pG Tryz.f7 false true false false W args v W':=by
 have hlt:=hW.lt;have hW':=hW;obtain⟨p,q,hA0,hV,rfl,hfz,hnd⟩:=hW;have hA:DataW.TrodAll enc pG W 0 (λ_=>true) true Tryz.f7.params.toList args.toList ds p:=hA0;rw[Tryz.params7] at hA hval;obtain⟨v0,vs0,d0,ds0,p0,q0,e0,rfl,rfl,h0,hr0⟩:=trodAll_cons hA;obtain⟨rfl,rfl,rfl⟩:=trodAll_nil hr0;have ea:args=#[v0]:=by cases args;simp_all
 subst ea;obtain⟨rfl,rfl⟩:=trodVars_none hV;obtain⟨t,rfl,-,-,hlen0⟩:=Go.ChangeMaps.open_string Tryz.underlying9 (hval 0 9 v0 rfl rfl) h0;have hL':laidMet pG (("math/bits.deBruijn32tab",Rows.laid_math_bits_deBruijn32tab)::("math/bits.deBruijn64tab",Rows.laid_math_bits_deBruijn64tab)::("internal/strconv.uint64pow10",Rows.laid_internal_strconv_uint64pow10)::("unicode/utf8.acceptRanges",Rows.laid_unicode_utf8_acceptRanges)::("strconv.ErrRange",Rows.laid_strconv_ErrRange)::("strconv.ErrSyntax",Rows.laid_strconv_ErrSyntax)::[("unicode/utf8.first",Rows.laid_unicode_utf8_first)]) W:=hL;have hT:=Wh hL'.tail.tail;have hE:=VN hL'.tail.tail.tail.tail.tail;have hM:Cap W:=Wb hS;refine(wT t W hT hM hE).mono λe W' ⟨he,hb⟩=> ?_;subst he;refine⟨_,rfl,_,_,_,[],p0++[],[],hW',?_,?_,?_,hb.frame _,λh=>by cases h⟩
 ·exact trodAll_mk1 (shut_bool Tryz.underlying4 _)
 ·rw[Tryz.params7]
  exact trodAll_cons_mk (Below.trod (by kernel_rfl) (by kernel_rfl) (of_decide_eq_true (by kernel_rfl)) h0 hb (λx hx=>hlt x (by simp[hx]))) (rfl)
 ·rfl

theorem witness_row (os:Os){H:Type}(enc:TypeId×Value->H):
  (OpenSpec.ofChange Rows.alarmReportsSpec).preRow enc pG Tryz.f7 Rows.alarmReportsRow.domain false Rows.alarmReportsRow.laid ((lQ pG os).forCall (λ_ _=>0) ⟨#[],#[.string ⟨#[]⟩],[]⟩).memory #[.string ⟨#[]⟩]:=by
 have hw:(DataW.whole enc pG ((lQ pG os).forCall (λ_ _=>0) ⟨#[],#[.string ⟨#[]⟩],[]⟩).memory Tryz.f7.params.toList Rows.alarmReportsSpec.vars false #[Value.string ⟨#[]⟩].toList 8).isSome=true:=by kernel_rfl
 obtain⟨x,hx⟩:=Option.isSome_iff_exists.1 hw;exact OpenSpec.preRow_of_cond 8 hx rfl (λk hk=>by cases hk) (by kernel_rfl) (Rk os _)

theorem lifted (os:Os)(started:os.Started)(H:Type)(enc:TypeId×Value->H)(F:Stop.Interp):
  ReturnsInHanded {} Tryz.checked os 7 .any ((OpenSpec.ofChange Rows.alarmReportsSpec).preRow enc pG Tryz.f7 Rows.alarmReportsRow.domain false Rows.alarmReportsRow.laid) (((OpenSpec.ofChange Rows.alarmReportsSpec).at F).post enc pG Tryz.f7 false true false false):=by
 refine returnsInHanded_of_row (C:=Tryz.checked) (s:=OpenSpec.ofChange Rows.alarmReportsSpec) own started (by kernel_rfl) Tryz.func7
  (witness_row_atRef (enc:=enc) (C:=Tryz.checked) false (lQ pG os) #[.string ⟨#[]⟩] rfl (by kernel_rfl) (by kernel_rfl) (by kernel_rfl) (witness_row os enc)) ?_
 intro W base args ds gs before hval hW _ _ _ hL hS _;exact contract H enc W base args ds gs before hval hW hL hS

theorem and_t {a b:Bool}(h:a=true)(k:b=true):(a&&b)=true:=by rw[h,k];rfl
theorem closed:joinedFacts pG 7 Tryz.f7 (OpenSpec.ofChange Rows.alarmReportsSpec).bare Rows.alarmReportsRow=true:=by
 unfold joinedFacts;repeat' (with_reducible refine and_t ?_ ?_)
 all_goals (as_aux_lemma=>kernel_rfl)

theorem said:Rows.AlarmReportsSaid:=
 OpenClaim.holds_of_cond 7 Tryz.f7 rfl rfl rfl rfl rfl rfl rfl ⟨rfl,rfl,rfl,rfl,rfl⟩ rfl rfl rfl rfl rfl (by kernel_rfl) Tryz.func7 closed
  (of_decide_eq_true (by kernel_rfl)) (by unfold Func.isWrapper;first|(rw[if_pos (by decide+kernel)];kernel_rfl)|(rw[if_neg (by decide+kernel)];exact⟨rfl,rfl⟩))
  (λos started H enc _ F=>by rw[OpenClaim.pre_eq_preRow];exact lifted os started H enc F)

theorem plain (f:FuncId)(fn:Func)(hf:Tryz.pinned.checked.prog.funcNamed "soundings/soundingslaw.AlarmReports" =sO f)(hfn:Tryz.pinned.checked.prog.funcs[f]? =sO fn):
  true=Tryz.pinned.checked.prog.looks []/\∀(j:Nat) t,fn.params[j]? =sO t->Tryz.pinned.checked.prog.wantsStandIn t=false:=by
 obtain rfl:f=7:=j0.inj ((show Tryz.prog.funcNamed "soundings/soundingslaw.AlarmReports" =sO 7 by kernel_rfl).symm.trans hf) |>.symm;obtain rfl:fn=Tryz.f7:=(j0.inj (Tryz.func7.symm.trans hfn)).symm;refine⟨by kernel_rfl,λj t ht=> ?_⟩;rw[Tryz.params7] at ht;have hm:t=9:=by simpa using Array.mem_of_getElem? ht
 rcases hm with rfl;exact(show Tryz.prog.wantsStandIn 9=false by kernel_rfl)
end alarmReports

theorem alarmReports_holds:Rows.AlarmReportsCardSaid:=
 Claim7.holds_tied_plain_at .later [] _ _ _ _ alarmReports.said (λ_ h=>by cases h) (by kernel_rfl) (λ_ h=>by cases h) alarmReports_row_tie rfl ⟨rfl,rfl⟩ (by kernel_rfl) rfl alarmReports.plain (by kernel_rfl)
end
end Go.Proofs.YtmapdpcfanecdabGreatDoor
