import Derived.Test.YtmapdpcfanecdabGreatS40
import Derived.RangeFuncBound
import Derived.RangeFuncCalls
import Derived.OwnWalkIn
import Derived.TacticsInMore
import Derived.LoopNIn
import Derived.LoopIn
import Derived.Test.YtmapdpcfanecdabGreatS45
import Derived.Test.YtmapdpcfanecdabGreatS46
import Derived.Test.YtmapdpcfanecdabGreatS47
import Derived.Test.YtmapdpcfanecdabGreatS48
import Derived.Test.YtmapdpcfanecdabGreatS49
import Derived.Test.YtmapdpcfanecdabGreatS50
import Derived.Test.YtmapdpcfanecdabGreatS41
import Derived.Test.YtmapdpcfanecdabGreatS42
import Derived.Test.YtmapdpcfanecdabGreatS43
import Derived.Test.YtmapdpcfanecdabGreatS44
open Array renaming getElem?_eq_some_iff→q8,replicate_succ→x8,replicate_zero→x9
open Bool renaming eq_false_or_eq_true→q6
open Go.Ending renaming returned→Rt
open Go.IntKind renaming i64→Y
open Go.Obj renaming cells→Cc
open Go.Proofs.Tryz renaming prog→pG
open Go.RowKit.Below renaming refl→bR
open Go.Value renaming agg→Ag,bool→Bb,int→I,pointer→Pp,slice→U,tuple→Tu
open Go.World renaming cell?_of_block→J8,putObj→q7,putObj_heap_other→j9,putObj_heap_same→J5,size_alloc→zA
open Int renaming eq_ofNat_of_zero_le→q9
open List renaming all_eq_false→J7,append_toArray→J3,cons_append→J4,foldl_append→x4,getElem_mem→gM,length_cons→j6,length_map→J6,length_nil→j7,length_set→j8,nil_append→q4,push_toArray→J0,range→q5,range_succ→z9,size_toArray→x5
open Nat renaming le_of_lt→z8,le_refl→lR,le_trans→lT,lt_of_lt_of_le→lL,reduceAdd→x6,reduceSub→x7,zero_le→z7
open Option renaming none→nO,some→sO
set_option linter.unusedSimpArgs false
set_option linter.unusedVariables false
set_option maxHeartbeats 16000000
set_option maxRecDepth 100000
namespace Go.Proofs.YtmapdpcfanecdabGreat
section
open Go.RowKit
attribute [local go_sem ↓] Go.wp_at_zero Go.wp_at_succ
theorem CM (sb:Nat)(i:Ins)(V F:Int)(s:oA)(c:List Ins)(cap:Nat)(at_:Int)(x:Pic)(vs:oA)(vc:Nat)(fs:oA)(fc:Nat)(w0 w:World)(hS:Cells w sb (aL i V F s c cap at_ x vs vc fs fc (U nO 0 0) false false))(hc0:CodeAt w0 s c)(hx0:PicAt w0 x vs fs)(hz0:w0.heap.size<=sb)(hB0:Below w0.heap.size w0 w)(K:SCtx V F c x vc fc i at_)(hk:i.k=11):
  Calls pG 18 #[Pp (sO ⟨sb,0,nO⟩)] w λe w'=>e=Rt (Tu #[])/\bV sb w' (λev'=>aL i V F s c cap at_ x vs vc fs fc ev' false false) [] ([⟨at_+1,(aN (dZ at_ x) i.tgt ⟨false,⟨true,0,0⟩,false,false,[at_]⟩)⟩])/\Below sb w w':=by
 have hm:∃m:Nat,at_=m/\m < x.flds.length:=by
  obtain⟨m,em⟩:=q9 K.a0;have h1:=K.a1;have h2:=K.kx.flds;exact⟨m,em,by omega⟩
 have HC:=aa (tf (aN (dZ at_ x) i.tgt ⟨false,⟨true,0,0⟩,false,false,[at_]⟩) [] nO 0 sb i V F s c cap at_ x vs vc fs fc false false w0 w hS hc0 hx0 hz0 hB0 K (ERow.nil sb sb w) (by simp) (λwx hb hs hp=>DQ sb sb _ i V F s c cap at_ x vs vc fs fc _ false false w.heap.size wx hs hp (K.varTo (by rw[hk];rfl)) hm (z8 (lL hS.2.1 hb.size)) (λb h=>by cases h)));have s0:=hS.1 0 _ rfl;rw[hk] at s0;clear hS hc0 hx0 hB0 K hz0 hk;go_enter Tryz.func18,Tryz.ntmps18;go_wp2_with (go_at_call 44;fail);refine HC.out.mono ?_;rintro e w1 ⟨rfl,HA0,hb1⟩;have HA:=aa HA0;clear HA0 HC s0;go_wp2
 first|go_end0|refine bodyPost_ret (results_none rfl _ _ _) rfl ?_
 exact⟨rfl,HA.out,hb1⟩
theorem DB (sb:Nat)(i:Ins)(V F:Int)(s:oA)(c:List Ins)(cap:Nat)(at_:Int)(x:Pic)(vs:oA)(vc:Nat)(fs:oA)(fc:Nat)(w0 w:World)(hS:Cells w sb (aL i V F s c cap at_ x vs vc fs fc (U nO 0 0) false false))(hc0:CodeAt w0 s c)(hx0:PicAt w0 x vs fs)(hz0:w0.heap.size<=sb)(hB0:Below w0.heap.size w0 w)(K:SCtx V F c x vc fc i at_)(hk:i.k=13):
  Calls pG 18 #[Pp (sO ⟨sb,0,nO⟩)] w λe w'=>e=Rt (Tu #[])/\bV sb w' (λev'=>aL i V F s c cap at_ x vs vc fs fc ev' (bt (gAt x i.a)) false) [] (if (gAt x i.a).s.length=0 then [] else [⟨at_+1,(cH x i.n (gAt x i.b) (gAt x i.a).s)⟩])/\Below sb w w':=by
 obtain⟨LST,hlst⟩:∃q:List Edg,q=if (gAt x i.a).s.length=0 then [] else [⟨at_+1,(cH x i.n (gAt x i.b) (gAt x i.a).s)⟩]:=⟨_,rfl⟩
 rw[<-hlst];have HLS:=aa hlst;clear hlst;have hN:∃p:Nat,i.n=p/\(p:Int) < F:=by
  have hn:=(bN K.one).2.2.2.2.1 (.inr hk);obtain⟨p,ep⟩:=q9 hn.1;exact⟨p,ep,by omega⟩
 have HC:=aa (DE (cH x i.n (gAt x i.b) (gAt x i.a).s) [] nO 0 sb i V F s c cap at_ x vs vc fs fc false false w0 w hS hc0 hx0 hz0 hB0 K (ERow.nil sb sb w) (by simp) (by rw[hk];rfl) (λwx ss gc tb hb hs hp hq hi=>DS sb sb _ i V F s c cap at_ x vs vc fs fc _ _ false tb w.heap.size ss gc w0 wx hs hp hq hc0 hx0 hi hb K (by rw[hk];rfl) (by rw[hk];rfl) hN (z8 hs.2.1) (λb h=>by cases h)));have s0:=hS.1 0 _ rfl;rw[hk] at s0;clear hS hc0 hx0 hB0 K hz0 hk;go_enter Tryz.func18,Tryz.ntmps18;go_wp2_with (go_at_call 45;fail);refine HC.out.mono ?_;rintro e w1 ⟨rfl,HA0,hb1⟩;have HA:=aa HA0;clear HA0 HC s0;go_wp2
 first|go_end0|refine bodyPost_ret (results_none rfl _ _ _) rfl ?_
 exact⟨rfl,by rw[HLS.out];exact HA.out,hb1⟩
theorem Db (sb:Nat)(i:Ins)(V F:Int)(s:oA)(c:List Ins)(cap:Nat)(at_:Int)(x:Pic)(vs:oA)(vc:Nat)(fs:oA)(fc:Nat)(w0 w:World)(hS:Cells w sb (aL i V F s c cap at_ x vs vc fs fc (U nO 0 0) false false))(hc0:CodeAt w0 s c)(hx0:PicAt w0 x vs fs)(hz0:w0.heap.size<=sb)(hB0:Below w0.heap.size w0 w)(K:SCtx V F c x vc fc i at_)(hk:i.k=15):
  Calls pG 18 #[Pp (sO ⟨sb,0,nO⟩)] w λe w'=>e=Rt (Tu #[])/\bV sb w' (λev'=>aL i V F s c cap at_ x vs vc fs fc ev' false false) [] ((if bI (gAt x i.a) then [⟨i.g,aN x i.a (bi (gAt x i.a))⟩] else [])++(if b9 (gAt x i.a) then [⟨at_+1,aN x i.a (bF (gAt x i.a))⟩] else []))/\Below sb w w':=by
 obtain⟨LST,hlst⟩:∃q:List Edg,q=(if bI (gAt x i.a) then [⟨i.g,aN x i.a (bi (gAt x i.a))⟩] else [])++(if b9 (gAt x i.a) then [⟨at_+1,aN x i.a (bF (gAt x i.a))⟩] else []):=⟨_,rfl⟩;rw[<-hlst];have HLS:=aa hlst;clear hlst;have ha0:=K.a0;have ha1:at_<=1000:=by have:=K.a1;have:=K.lens;omega
 have HC:=aa (pF i.g [] nO 0 sb i V F s c cap at_ x vs vc fs fc false false w0 w hS hc0 hx0 hz0 hB0 K (ERow.nil sb sb w) (by simp) (by rw[hk];rfl));have hA:nA i.k=true:=by rw[hk];rfl
 have s0:=hS.1 0 _ rfl;rw[hk] at s0;have s5:=hS.1 5 _ rfl;have HH:=aa (And.intro hc0 (And.intro hx0 (And.intro hz0 (And.intro hB0 (And.intro K hA)))));clear hS hc0 hx0 hB0 K hz0 hk hA;go_enter Tryz.func18,Tryz.ntmps18;go_wp2_with (go_at_call 46;fail);refine HC.out.mono ?_;rintro e w1 ⟨rfl,HA0,hb1⟩;obtain⟨hc0,hx0,hz0,hB0,K,hA⟩:=HH.out;obtain⟨ev,QL,C1,E1,eq1⟩:=HA0;rw[q4] at E1;obtain⟨es,ec,rfl,-,-⟩:=E1.form;have hq:QL.length<=10:=by
  have h:=congrArg List.length eq1;rw[J6] at h;rw[h];split<;>simp
 have hB1:=hB0.trans (hb1.mono hz0);have HN:=aa (uy (at_+1) QL es ec sb i V F s c cap at_ x vs vc fs fc false false w0 w1 C1 hc0 hx0 hz0 hB1 K E1 hq hA);have HQ:=aa eq1;have HC1:=aa C1;clear C1 E1 eq1 HC HH hc0 hx0 hz0 hB0 K hA hB1 hq s0 s5;go_wp2_with (go_at_call 48;fail);refine(fS sb at_ _ w1 HC1.out rfl ha0 ha1).mono ?_;rintro e wz ⟨rfl,ew⟩;rw[ew];clear ew wz;go_wp2_with (go_at_call 47;fail);refine HN.out.mono ?_;rintro e w2 ⟨rfl,⟨ev2,QL2,C2,E2,eq2⟩,hb2⟩;have HF:Hid (bV sb w2 (λev'=>aL i V F s c cap at_ x vs vc fs fc ev' false false) [] ((if bI (gAt x i.a) then [⟨i.g,aN x i.a (bi (gAt x i.a))⟩] else [])++(if b9 (gAt x i.a) then [⟨at_+1,aN x i.a (bF (gAt x i.a))⟩] else []))):=⟨ev2,QL++QL2,C2,by rw[q4];exact E2,by rw[List.map_append,HQ.out,eq2]⟩;clear C2 E2 eq2 HN HC1 HQ;go_wp2
 first|go_end0|refine bodyPost_ret (results_none rfl _ _ _) rfl ?_
 exact⟨rfl,by rw[HLS.out];exact HF.out,hb1.trans hb2⟩
theorem pf {p:Prop}(h:p:=by
 go_wp2_with (go_at_call 49;fail);refine(HC.out w rfl).mono ?_;rintro e w1 ⟨rfl,HA0,hb1⟩;have HA:=aa HA0;clear HA0 HC s0;go_wp2
 first|go_end0|refine bodyPost_ret (results_none rfl _ _ _) rfl ?_
 exact⟨rfl,HA.out,hb1⟩):p:=h
theorem Da (sb:Nat)(i:Ins)(V F:Int)(s:oA)(c:List Ins)(cap:Nat)(at_:Int)(x:Pic)(vs:oA)(vc:Nat)(fs:oA)(fc:Nat)(w0 w:World)(hS:Cells w sb (aL i V F s c cap at_ x vs vc fs fc (U nO 0 0) false false))(hc0:CodeAt w0 s c)(hx0:PicAt w0 x vs fs)(hz0:w0.heap.size<=sb)(hB0:Below w0.heap.size w0 w)(K:SCtx V F c x vc fc i at_)(hk:i.k=16):
  Calls pG 18 #[Pp (sO ⟨sb,0,nO⟩)] w λe w'=>e=Rt (Tu #[])/\bV sb w' (λev'=>aL i V F s c cap at_ x vs vc fs fc ev' false false) [] ([⟨i.g,x⟩])/\Below sb w w':=by
 have HC:Hid (∀wx,wx=w->Calls pG 49 #[Pp (sO ⟨sb,0,nO⟩),I Y (i.g),.func (.func 50) #[] #[]] wx λe w'=>e=Rt (Tu #[])/\bV sb w' (λev'=>aL i V F s c cap at_ x vs vc fs fc ev' false false) [] [⟨i.g,x⟩]/\Below sb wx w'):=λwx hw=>by
  subst hw;refine(yP sb (i.g) x [] nO 0 sb i V F s c cap at_ x vs vc fs fc false false w0 wx hS hc0 hx0 hz0 hB0 K rfl (ERow.nil sb sb wx) (by simp) (CJ sb sb _ wx x)).mono ?_;rintro e w' ⟨h1,⟨ev',q,h2,h3,h4⟩,h5⟩;exact⟨h1,⟨ev',[q],h2,h3,by simp[h4]⟩,h5⟩
 have s0:=hS.1 0 _ rfl;rw[hk] at s0;have s5:=hS.1 5 _ rfl;clear hS hc0 hx0 hB0 K hz0 hk;go_enter Tryz.func18,Tryz.ntmps18;exact pf
theorem Dv (sb:Nat)(i:Ins)(V F:Int)(s:oA)(c:List Ins)(cap:Nat)(at_:Int)(x:Pic)(vs:oA)(vc:Nat)(fs:oA)(fc:Nat)(w0 w:World)(hS:Cells w sb (aL i V F s c cap at_ x vs vc fs fc (U nO 0 0) false false))(hc0:CodeAt w0 s c)(hx0:PicAt w0 x vs fs)(hz0:w0.heap.size<=sb)(hB0:Below w0.heap.size w0 w)(K:SCtx V F c x vc fc i at_)(hk:i.k=17):
  Calls pG 18 #[Pp (sO ⟨sb,0,nO⟩)] w λe w'=>e=Rt (Tu #[])/\bV sb w' (λev'=>aL i V F s c cap at_ x vs vc fs fc ev' false (b9 (gAt x i.a))) [] ((if bI (gAt x i.a) then [⟨at_+1,aN x i.a (bi (gAt x i.a))⟩] else []))/\Below sb w w':=by
 obtain⟨LST,hlst⟩:∃q:List Edg,q=(if bI (gAt x i.a) then [⟨at_+1,aN x i.a (bi (gAt x i.a))⟩] else []):=⟨_,rfl⟩;rw[<-hlst];have HLS:=aa hlst;clear hlst;have ha0:=K.a0;have ha1:at_<=1000:=by have:=K.a1;have:=K.lens;omega
 have HC:=aa (pF (at_+1) [] nO 0 sb i V F s c cap at_ x vs vc fs fc false false w0 w hS hc0 hx0 hz0 hB0 K (ERow.nil sb sb w) (by simp) (by rw[hk];rfl));have hA:nA i.k=true:=by rw[hk];rfl
 have s0:=hS.1 0 _ rfl;rw[hk] at s0;have HSS:=aa hS;have HH:=aa (And.intro hc0 (And.intro hx0 (And.intro hz0 (And.intro hB0 (And.intro K hA)))));clear hS hc0 hx0 hB0 K hz0 hk hA;go_enter Tryz.func18,Tryz.ntmps18;go_wp2_with (go_at_call 48;fail);refine(fS sb at_ _ w HSS.out rfl ha0 ha1).mono ?_;rintro e wz ⟨rfl,ew⟩;rw[ew];clear ew wz;go_wp2_with (go_at_call 46;fail);refine HC.out.mono ?_;rintro e w1 ⟨rfl,HA0,hb1⟩;obtain⟨hc0,hx0,hz0,hB0,K,hA⟩:=HH.out;obtain⟨ev,QL,C1,E1,eq1⟩:=HA0;rw[q4] at E1;obtain⟨es,ec,rfl,-,-⟩:=E1.form;have hq:QL.length<=10:=by
  have h:=congrArg List.length eq1;rw[J6] at h;rw[h];split<;>simp
 have hB1:=hB0.trans (hb1.mono hz0);have HT:=aa (kk sb i V F s c cap at_ x vs vc fs fc _ false false w1 C1 (hc0.below hB1 (lR _)) (hx0.below hB1 (lR _)) K hA);have HQ:=aa eq1;have HCE:=aa (And.intro C1 E1);clear C1 E1 eq1 HC HH hc0 hx0 hz0 hB0 K hA hB1 hq s0 HSS;go_wp2_with (go_at_call 51;fail);refine HT.out.mono ?_;rintro e w2 ⟨rfl,hb2⟩;have C2:=HCE.out.1.call hb2;have E2:=HCE.out.2.call hb2;have s15:=C2.1 15 _ rfl;have f15:=C2.2.2 15;have HF:Hid (bV sb (w2.setCell ⟨sb,15,nO⟩ (Bb (b9 (gAt x i.a)))) (λev'=>aL i V F s c cap at_ x vs vc fs fc ev' false (b9 (gAt x i.a))) [] (if bI (gAt x i.a) then [⟨at_+1,aN x i.a (bi (gAt x i.a))⟩] else [])):=⟨_,QL,C2.put 15 (by simp[aL]) _,by rw[q4];exact E2.same (λb _ hne _=>Below.heap_setCell _ _ _ _ hne) (by simp[World.setCell]),HQ.out⟩;have hbf:Below sb w (w2.setCell ⟨sb,15,nO⟩ (Bb (b9 (gAt x i.a)))):=(hb1.trans (hb2.mono (z8 HCE.out.1.2.1))).setCell (lR _) _;clear C2 E2 HT HCE HQ;go_wp2
 first|go_end0|refine bodyPost_ret (results_none rfl _ _ _) rfl ?_
 exact⟨rfl,by rw[HLS.out];exact HF.out,hbf⟩
theorem CT (sb:Nat)(i:Ins)(V F:Int)(s:oA)(c:List Ins)(cap:Nat)(at_:Int)(x:Pic)(vs:oA)(vc:Nat)(fs:oA)(fc:Nat)(w0 w:World)(hS:Cells w sb (aL i V F s c cap at_ x vs vc fs fc (U nO 0 0) false false))(hc0:CodeAt w0 s c)(hx0:PicAt w0 x vs fs)(hz0:w0.heap.size<=sb)(hB0:Below w0.heap.size w0 w)(K:SCtx V F c x vc fc i at_)(hk:i.k=18):
  Calls pG 18 #[Pp (sO ⟨sb,0,nO⟩)] w λe w'=>e=Rt (Tu #[])/\bV sb w' (λev'=>aL i V F s c cap at_ x vs vc fs fc ev' false false) [] ([⟨at_+1,x⟩])/\Below sb w w':=by
 have ha0:=K.a0;have ha1:at_<=1000:=by have:=K.a1;have:=K.lens;omega
 have HC:Hid (∀wx,wx=w->Calls pG 49 #[Pp (sO ⟨sb,0,nO⟩),I Y (at_+1),.func (.func 52) #[] #[]] wx λe w'=>e=Rt (Tu #[])/\bV sb w' (λev'=>aL i V F s c cap at_ x vs vc fs fc ev' false false) [] [⟨at_+1,x⟩]/\Below sb wx w'):=λwx hw=>by
  subst hw;refine(wN sb (at_+1) x [] nO 0 sb i V F s c cap at_ x vs vc fs fc false false w0 wx hS hc0 hx0 hz0 hB0 K rfl (ERow.nil sb sb wx) (by simp) (BG sb sb _ wx x)).mono ?_;rintro e w' ⟨h1,⟨ev',q,h2,h3,h4⟩,h5⟩;exact⟨h1,⟨ev',[q],h2,h3,by simp[h4]⟩,h5⟩
 have s0:=hS.1 0 _ rfl;rw[hk] at s0;have HSS:=aa hS;clear hS hc0 hx0 hB0 K hz0 hk;go_enter Tryz.func18,Tryz.ntmps18;go_wp2_with (go_at_call 48;fail);refine(fS sb at_ _ w HSS.out rfl ha0 ha1).mono ?_;rintro e wz ⟨rfl,ew⟩;rw[ew];clear ew wz;exact pf
theorem Do (sb:Nat)(i:Ins)(V F:Int)(s:oA)(c:List Ins)(cap:Nat)(at_:Int)(x:Pic)(vs:oA)(vc:Nat)(fs:oA)(fc:Nat)(w0 w:World)(hS:Cells w sb (aL i V F s c cap at_ x vs vc fs fc (U nO 0 0) false false))(hc0:CodeAt w0 s c)(hx0:PicAt w0 x vs fs)(hz0:w0.heap.size<=sb)(hB0:Below w0.heap.size w0 w)(K:SCtx V F c x vc fc i at_)(hk:i.k=19):
  Calls pG 18 #[Pp (sO ⟨sb,0,nO⟩)] w λe w'=>e=Rt (Tu #[])/\bV sb w' (λev'=>aL i V F s c cap at_ x vs vc fs fc ev' false false) [] ([])/\Below sb w w':=by
 have HA:Hid (bV sb w (λev'=>aL i V F s c cap at_ x vs vc fs fc ev' false false) [] []):=⟨_,[],hS,ERow.nil sb sb w,rfl⟩;have s0:=hS.1 0 _ rfl;rw[hk] at s0;clear hS hc0 hx0 hB0 K hz0 hk;go_enter Tryz.func18,Tryz.ntmps18;go_wp2
 first|go_end0|refine bodyPost_ret (results_none rfl _ _ _) rfl ?_
 exact⟨rfl,HA.out,bR _ _⟩
theorem Al (sb:Nat)(i:Ins)(V F:Int)(s:oA)(c:List Ins)(cap:Nat)(at_:Int)(x:Pic)(vs:oA)(vc:Nat)(fs:oA)(fc:Nat)(ev:Value)(fl:Bool)(w0 w:World)(hS:Cells w sb (aL i V F s c cap at_ x vs vc fs fc ev false fl))(hc0:CodeAt w0 s c)(hx0:PicAt w0 x vs fs)(hz0:w0.heap.size<=sb)(hB0:Below w0.heap.size w0 w)(K:SCtx V F c x vc fc i at_)(hT:nTo i.k=true)(h11:i.k≠11):
  Calls pG 54 #[Pp (sO ⟨sb,0,nO⟩)] w λe w'=>gG w.heap.size sb w' e (aM i at_ x).1 (aL i V F s c cap at_ x vs vc fs fc ev (aM i at_ x).2 fl)/\ModS sb w w':=by
 have h:i.k=1\/i.k=2\/i.k=3\/(4<=i.k/\i.k<=10)\/i.k=12\/i.k=14:=by
  unfold nTo btw at hT;simp at hT;omega
 rcases h with h|h|h|h|h|h
 ·exact Dh sb i V F s c cap at_ x vs vc fs fc ev fl w0 w hS hc0 hx0 hz0 hB0 K h
 ·exact Dp sb i V F s c cap at_ x vs vc fs fc ev fl w0 w hS hc0 hx0 hz0 hB0 K h
 ·exact Dl sb i V F s c cap at_ x vs vc fs fc ev fl w0 w hS hc0 hx0 hz0 hB0 K h
 ·exact AT sb i V F s c cap at_ x vs vc fs fc ev fl w0 w hS hc0 hx0 hz0 hB0 K h.1 h.2
 ·exact BJ sb i V F s c cap at_ x vs vc fs fc ev fl w0 w hS hc0 hx0 hz0 hB0 K h
 ·exact Bf sb i V F s c cap at_ x vs vc fs fc ev fl w0 w hS hc0 hx0 hz0 hB0 K h
theorem AN (sb:Nat)(i:Ins)(V F:Int)(s:oA)(c:List Ins)(cap:Nat)(at_:Int)(x:Pic)(vs:oA)(vc:Nat)(fs:oA)(fc:Nat)(w0 w:World)(hS:Cells w sb (aL i V F s c cap at_ x vs vc fs fc (U nO 0 0) false false))(hc0:CodeAt w0 s c)(hx0:PicAt w0 x vs fs)(hz0:w0.heap.size<=sb)(hB0:Below w0.heap.size w0 w)(K:SCtx V F c x vc fc i at_)(hT:nTo i.k=true)(h11:i.k≠11):
  Calls pG 18 #[Pp (sO ⟨sb,0,nO⟩)] w λe w'=>e=Rt (Tu #[])/\bV sb w' (λev'=>aL i V F s c cap at_ x vs vc fs fc ev' (aM i at_ x).2 false) [] (if ae (aM i at_ x).1 then [] else [⟨at_+1,aN x i.tgt (aM i at_ x).1⟩])/\Below sb w w':=by
 obtain⟨LST,hlst⟩:∃q:List Edg,q=if ae (aM i at_ x).1 then [] else [⟨at_+1,aN x i.tgt (aM i at_ x).1⟩]:=⟨_,rfl⟩
 rw[<-hlst];have HLS:=aa hlst;clear hlst;have HC:=aa (Al sb i V F s c cap at_ x vs vc fs fc _ false w0 w hS hc0 hx0 hz0 hB0 K hT h11);have hck:ap c (aM i at_ x).1=0:=by
  have h:=nL (cK K.h0) K.kx K.a0 K.a1;rw[<-K.hi] at h;exact h
 have s0:=hS.1 0 _ rfl;have HSB:=aa hS.2.1;have hr:i.k=1\/i.k=2\/i.k=3\/(4<=i.k/\i.k<=10)\/i.k=12\/i.k=14:=by
  have h:=hT;unfold nTo btw at h;simp at h;omega
 have q11:(i.k==11)=false:=by simp;omega
 have q13:(i.k==13)=false:=by simp;omega
 have q15:(i.k==15)=false:=by simp;omega
 have q16:(i.k==16)=false:=by simp;omega
 have q17:(i.k==17)=false:=by simp;omega
 have q18:(i.k==18)=false:=by simp;omega
 have q19:(i.k==19)=false:=by simp;omega
 have HH:=aa (And.intro hc0 (And.intro hx0 (And.intro hz0 (And.intro hB0 (And.intro K hT)))));clear hS hc0 hx0 hB0 K hz0 hr h11 hT;obtain⟨⟨g,wr⟩,hg⟩:∃q,q=aM i at_ x:=⟨_,rfl⟩;rw[<-hg] at HC hck |-;have HGE:=aa hg;clear hg;go_enter Tryz.func18,Tryz.ntmps18;go_wp2_with (go_at_call 54;fail);clear s0 q11 q13 q15 q16 q17 q18 q19;refine HC.out.mono ?_;rintro e w1 ⟨⟨⟨ss,gc,rfl,JI,J1,J2⟩,C1⟩,M1⟩;obtain⟨hc0,hx0,hz0,hB0,K,hT⟩:=HH.out;have HN:=aa (Cx g ss gc [] nO 0 sb i V F s c cap at_ x vs vc fs fc wr false w0 w1 C1 hc0 hx0 hz0 (hB0.trans (M1.1.mono hz0)) K (ERow.nil sb sb w1) (by simp) (JI.mono λb hb _=>⟨by have:=HSB.out;omega,by have:=HSB.out;omega,λh=>by cases h⟩) J1 J2 hck hT)
 clear HC HH hc0 hx0 hz0 hB0 K hT JI J1 J2 C1 hck;go_wp2_with (go_at_call 53;fail);refine HN.out.mono ?_;rintro e w2 ⟨rfl,HA0,hb2⟩;have HA:=aa HA0;clear HA0 HN;go_wp2
 first|go_end0|refine bodyPost_ret (results_none rfl _ _ _) rfl ?_
 exact⟨rfl,by rw[HLS.out,<-HGE.out];exact HA.out,M1.1.trans hb2⟩
theorem Ci (sb:Nat)(i:Ins)(V F:Int)(s:oA)(c:List Ins)(cap:Nat)(at_:Int)(x:Pic)(vs:oA)(vc:Nat)(fs:oA)(fc:Nat)(w0 w:World)(hS:Cells w sb (aL i V F s c cap at_ x vs vc fs fc (U nO 0 0) false false))(hc0:CodeAt w0 s c)(hx0:PicAt w0 x vs fs)(hz0:w0.heap.size<=sb)(hB0:Below w0.heap.size w0 w)(K:SCtx V F c x vc fc i at_):
  Calls pG 18 #[Pp (sO ⟨sb,0,nO⟩)] w λe w'=>e=Rt (Tu #[])/\bV sb w' (λev'=>aL i V F s c cap at_ x vs vc fs fc ev' (ah i at_ x).2.1 (ah i at_ x).2.2) [] ((ah i at_ x).1)/\Below sb w w':=by
 have hn:=K.kx.none;have hk:=(bN K.one).1;unfold btw at hk;simp only[Bool.and_eq_true,decide_eq_true_eq] at hk;by_cases h11:i.k=11
 ·have e:ah i at_ x=([⟨at_+1,(aN (dZ at_ x) i.tgt ⟨false,⟨true,0,0⟩,false,false,[at_]⟩)⟩],false,false):=by simp[ah,hn,h11,aM,ae,aD]
  rw[e];exact CM sb i V F s c cap at_ x vs vc fs fc w0 w hS hc0 hx0 hz0 hB0 K h11
 by_cases h13:i.k=13
 ·have e:ah i at_ x=(if (gAt x i.a).s.length=0 then [] else [⟨at_+1,(cH x i.n (gAt x i.b) (gAt x i.a).s)⟩],bt (gAt x i.a),false):=by
   simp only[ah,hn,h13];simp only[Bool.false_eq_true,if_false];by_cases h:(gAt x i.a).s.length=0
   ·simp[h]
   ·simp[h]
  rw[e];exact DB sb i V F s c cap at_ x vs vc fs fc w0 w hS hc0 hx0 hz0 hB0 K h13
 by_cases h15:i.k=15
 ·have e:ah i at_ x=((if bI (gAt x i.a) then [⟨i.g,aN x i.a (bi (gAt x i.a))⟩] else [])++(if b9 (gAt x i.a) then [⟨at_+1,aN x i.a (bF (gAt x i.a))⟩] else []),false,false):=by simp[ah,hn,h15]
  rw[e];exact Db sb i V F s c cap at_ x vs vc fs fc w0 w hS hc0 hx0 hz0 hB0 K h15
 by_cases h16:i.k=16
 ·have e:ah i at_ x=([⟨i.g,x⟩],false,false):=by simp[ah,hn,h16]
  rw[e];exact Da sb i V F s c cap at_ x vs vc fs fc w0 w hS hc0 hx0 hz0 hB0 K h16
 by_cases h17:i.k=17
 ·have e:ah i at_ x=((if bI (gAt x i.a) then [⟨at_+1,aN x i.a (bi (gAt x i.a))⟩] else []),false,b9 (gAt x i.a)):=by simp[ah,hn,h17]
  rw[e];exact Dv sb i V F s c cap at_ x vs vc fs fc w0 w hS hc0 hx0 hz0 hB0 K h17
 by_cases h18:i.k=18
 ·have e:ah i at_ x=([⟨at_+1,x⟩],false,false):=by simp[ah,hn,h18]
  rw[e];exact CT sb i V F s c cap at_ x vs vc fs fc w0 w hS hc0 hx0 hz0 hB0 K h18
 by_cases h19:i.k=19
 ·have e:ah i at_ x=([],false,false):=by simp[ah,hn,h19]
  rw[e];exact Do sb i V F s c cap at_ x vs vc fs fc w0 w hS hc0 hx0 hz0 hB0 K h19
 have hT:nTo i.k=true:=by
  unfold nTo btw;simp;omega
 have e:ah i at_ x=(if ae (aM i at_ x).1 then [] else [⟨at_+1,aN x i.tgt (aM i at_ x).1⟩],(aM i at_ x).2,false):=by
  simp only[ah,hn,h11,h13,h15,h16,h17,h18,h19,Bool.false_eq_true,if_false];split<;>rfl
 rw[e];exact AN sb i V F s c cap at_ x vs vc fs fc w0 w hS hc0 hx0 hz0 hB0 K hT h11
def fT (V F:Int)(c:List Ins)(at_:Int)(x:Pic):Int:=if aq V F c [x]=0 then(if at_ < 0\/(c.length:Int)<=at_ then 5 else 0) else aq V F c [x]
def gw (V F:Int)(c:List Ins)(at_:Int)(x:Pic):List Edg×Bool×Bool:=if fT V F c at_ x=0 then ah (bM c at_) at_ x else([],false,false)
def sA (B:Nat)(w':World)(e:Ending)(r:List Edg×Bool×Bool)(er:Int):Prop:=∃es ec,e=Rt (Tu #[U es r.1.length ec,Bb r.2.1,Bb r.2.2,I Y er])/\EdsOn (λb=>B<=b) w' es r.1
theorem nF {V F:Int}{c:List Ins}{x:Pic}(h:aq V F c [x]=0):ag V F c=0/\an V F c x=0:=by
 unfold aq at h;by_cases h0:ag V F c=0
 ·rw[if_pos h0] at h
  unfold bx at h;by_cases h1:an V F c x=0
  ·exact⟨h0,h1⟩
  ·rw[if_neg h1] at h;exact absurd h h1
 ·rw[if_neg h0] at h;exact absurd h h0
theorem gC {p:Prop}(h:p:=by
 have h:=Cells.new (w.alloc (.cells #[.int .i64 V,.int .i64 F,.slice s c.length cap] 24)) 28 [.bool x.none,.slice vs x.vars.length vc,.slice fs x.flds.length fc];rw[World.size_alloc] at h;exact h):p:=h
theorem yk (V F:Int)(s:oA)(c:List Ins)(cap:Nat)(at_:Int)(x:Pic)(vs:oA)(vc:Nat)(fs:oA)(fc:Nat)(w:World)(hc:CodeAt w s c)(hx:PicAt w x vs fs)(h1:x.vars.length<=vc/\vc<=maxLen)(h2:x.flds.length<=fc/\fc<=maxLen)(hu:aq V F c [x]≠0):
  Calls pG 5 #[pv V F s c cap,I Y at_,xv x vs vc fs fc] w λe w'=>sA w.heap.size w' e ([],false,false) (aq V F c [x])/\Below w.heap.size w w':=by
 have hb0:Below w.heap.size w ((w.alloc (Cc #[I Y V,I Y F,U s c.length cap] 24)).alloc (Cc #[Bb x.none,U vs x.vars.length vc,U fs x.flds.length fc] 28)):=by go_grown
 have P0:Cells ((w.alloc (Cc #[I Y V,I Y F,U s c.length cap] 24)).alloc (Cc #[Bb x.none,U vs x.vars.length vc,U fs x.flds.length fc] 28)) w.heap.size [I Y V,I Y F,U s c.length cap]:=(Cells.new w 24 [I Y V,I Y F,U s c.length cap]).call (by go_grown);have X0:Cells ((w.alloc (Cc #[I Y V,I Y F,U s c.length cap] 24)).alloc (Cc #[Bb x.none,U vs x.vars.length vc,U fs x.flds.length fc] 28)) (w.heap.size+1) [Bb x.none,U vs x.vars.length vc,U fs x.flds.length fc]:=by
  exact gC
 have HC:=aa (fG V F s c cap x vs vc fs fc ((w.alloc (Cc #[I Y V,I Y F,U s c.length cap] 24)).alloc (Cc #[Bb x.none,U vs x.vars.length vc,U fs x.flds.length fc] 28)) (hc.below hb0 (lR _)) (hx.below hb0 (lR _)) h1 h2);generalize aq V F c [x]=u at *;have hub:(u !=0)=true:=by simpa using hu
 clear hu hc hx;go_enter Tryz.func5,Tryz.ntmps5;go_wp2_with (go_at_call 17;fail);refine HC.out.mono ?_;rintro e w1 ⟨rfl,hb1⟩;generalize ((w.alloc (Cc #[I Y V,I Y F,U s c.length cap] 24)).alloc (Cc #[Bb x.none,U vs x.vars.length vc,U fs x.flds.length fc] 28))=w0 at *;have B1:=hb0.trans (hb1.mono hb0.size);have P1:=P0.call hb1;have X1:=X0.call hb1;clear P0 X0 hb0 hb1 HC;go_wp2;refine bodyPost_ret (v:=Tu #[U nO 0 0,Bb false,Bb false,I Y u]) (by simp[results,Tryz.results5,go_sem]) rfl ⟨⟨nO,0,rfl,EdsOn.nil⟩,B1⟩
theorem oN {p:Prop}(h:p:=by
 go_wp2;refine bodyPost_ret (v:=.tuple #[.slice none 0 0,.bool false,.bool false,.int .i64 5]) (by simp[results,Tryz.results5,go_sem]) rfl ⟨⟨none,0,rfl,EdsOn.nil⟩,B1⟩):p:=h
theorem un (V F:Int)(s:oA)(c:List Ins)(cap:Nat)(at_:Int)(x:Pic)(vs:oA)(vc:Nat)(fs:oA)(fc:Nat)(w:World)(hc:CodeAt w s c)(hx:PicAt w x vs fs)(h1:x.vars.length<=vc/\vc<=maxLen)(h2:x.flds.length<=fc/\fc<=maxLen)(hu:aq V F c [x]=0)(hr:at_ < 0\/(c.length:Int)<=at_):
  Calls pG 5 #[pv V F s c cap,I Y at_,xv x vs vc fs fc] w λe w'=>sA w.heap.size w' e ([],false,false) 5/\Below w.heap.size w w':=by
 have hb0:Below w.heap.size w ((w.alloc (Cc #[I Y V,I Y F,U s c.length cap] 24)).alloc (Cc #[Bb x.none,U vs x.vars.length vc,U fs x.flds.length fc] 28)):=by go_grown
 have P0:Cells ((w.alloc (Cc #[I Y V,I Y F,U s c.length cap] 24)).alloc (Cc #[Bb x.none,U vs x.vars.length vc,U fs x.flds.length fc] 28)) w.heap.size [I Y V,I Y F,U s c.length cap]:=(Cells.new w 24 [I Y V,I Y F,U s c.length cap]).call (by go_grown);have X0:Cells ((w.alloc (Cc #[I Y V,I Y F,U s c.length cap] 24)).alloc (Cc #[Bb x.none,U vs x.vars.length vc,U fs x.flds.length fc] 28)) (w.heap.size+1) [Bb x.none,U vs x.vars.length vc,U fs x.flds.length fc]:=by
  exact gC
 have HC:=aa (fG V F s c cap x vs vc fs fc ((w.alloc (Cc #[I Y V,I Y F,U s c.length cap] 24)).alloc (Cc #[Bb x.none,U vs x.vars.length vc,U fs x.flds.length fc] 28)) (hc.below hb0 (lR _)) (hx.below hb0 (lR _)) h1 h2);rw[hu] at HC;clear hu hc hx;go_enter Tryz.func5,Tryz.ntmps5;go_wp2_with (go_at_call 17;fail);refine HC.out.mono ?_;rintro e w1 ⟨rfl,hb1⟩;generalize ((w.alloc (Cc #[I Y V,I Y F,U s c.length cap] 24)).alloc (Cc #[Bb x.none,U vs x.vars.length vc,U fs x.flds.length fc] 28))=w0 at *;have B1:=hb0.trans (hb1.mono hb0.size);have P1:=P0.call hb1;have X1:=X0.call hb1;clear P0 X0 hb0 hb1 HC;have p2:=P1.1 2 _ rfl;by_cases h0:at_ < 0
 ·clear hr
  exact oN
 ·have h3:(c.length:Int)<=at_:=by omega
  clear hr;exact oN
theorem wR (V F:Int)(s:oA)(c:List Ins)(cap:Nat)(at_:Int)(x:Pic)(vs:oA)(vc:Nat)(fs:oA)(fc:Nat)(w:World)(hc:CodeAt w s c)(hx:PicAt w x vs fs)(h1:x.vars.length<=vc/\vc<=maxLen)(h2:x.flds.length<=fc/\fc<=maxLen)(hu:aq V F c [x]=0)(hr:¬(at_ < 0\/(c.length:Int)<=at_))(hn:x.none=true):
  Calls pG 5 #[pv V F s c cap,I Y at_,xv x vs vc fs fc] w λe w'=>sA w.heap.size w' e ([],false,false) 0/\Below w.heap.size w w':=by
 have hb0:Below w.heap.size w ((w.alloc (Cc #[I Y V,I Y F,U s c.length cap] 24)).alloc (Cc #[Bb x.none,U vs x.vars.length vc,U fs x.flds.length fc] 28)):=by go_grown
 have P0:Cells ((w.alloc (Cc #[I Y V,I Y F,U s c.length cap] 24)).alloc (Cc #[Bb x.none,U vs x.vars.length vc,U fs x.flds.length fc] 28)) w.heap.size [I Y V,I Y F,U s c.length cap]:=(Cells.new w 24 [I Y V,I Y F,U s c.length cap]).call (by go_grown);have X0:Cells ((w.alloc (Cc #[I Y V,I Y F,U s c.length cap] 24)).alloc (Cc #[Bb x.none,U vs x.vars.length vc,U fs x.flds.length fc] 28)) (w.heap.size+1) [Bb x.none,U vs x.vars.length vc,U fs x.flds.length fc]:=by
  exact gC
 have HC:=aa (fG V F s c cap x vs vc fs fc ((w.alloc (Cc #[I Y V,I Y F,U s c.length cap] 24)).alloc (Cc #[Bb x.none,U vs x.vars.length vc,U fs x.flds.length fc] 28)) (hc.below hb0 (lR _)) (hx.below hb0 (lR _)) h1 h2);rw[hu] at HC;have HNX:=aa hn;have r0:¬at_ < 0:=by omega
 have r1:¬(c.length:Int)<=at_:=by omega
 clear hu hc hx hn hr;go_enter Tryz.func5,Tryz.ntmps5;go_wp2_with (go_at_call 17;fail);refine HC.out.mono ?_;rintro e w1 ⟨rfl,hb1⟩;generalize ((w.alloc (Cc #[I Y V,I Y F,U s c.length cap] 24)).alloc (Cc #[Bb x.none,U vs x.vars.length vc,U fs x.flds.length fc] 28))=w0 at *;have B1:=hb0.trans (hb1.mono hb0.size);have P1:=P0.call hb1;have X1:=X0.call hb1;clear P0 X0 hb0 hb1 HC;have p2:=P1.1 2 _ rfl;have x0:=X1.1 0 _ rfl;rw[HNX.out] at x0;go_wp2;refine bodyPost_ret (v:=Tu #[U nO 0 0,Bb false,Bb false,I Y 0]) (by simp[results,Tryz.results5,go_sem]) rfl ⟨⟨nO,0,rfl,EdsOn.nil⟩,B1⟩
theorem AM (V F:Int)(s:oA)(c:List Ins)(cap:Nat)(at_:Int)(x:Pic)(vs:oA)(vc:Nat)(fs:oA)(fc:Nat)(w:World)(hc:CodeAt w s c)(hx:PicAt w x vs fs)(h1:x.vars.length<=vc/\vc<=maxLen)(h2:x.flds.length<=fc/\fc<=maxLen)(hu:aq V F c [x]=0)(hr:¬(at_ < 0\/(c.length:Int)<=at_))(hn:x.none=false):
  Calls pG 5 #[pv V F s c cap,I Y at_,xv x vs vc fs fc] w λe w'=>sA w.heap.size w' e (ah (bM c at_) at_ x) 0/\Below w.heap.size w w':=by
 obtain⟨i,hi⟩:∃i,i=bM c at_:=⟨_,rfl⟩;rw[<-hi];obtain⟨k0,kx⟩:=nF hu;have K:SCtx V F c x vc fc i at_:=⟨k0,bQ kx hn,hi,by omega,by omega,h1,h2⟩;obtain⟨m,em⟩:=q9 K.a0;have ha1:=K.a1;have hm:m < c.length:=by omega
 have hcm:c[m]=i:=by rw[hi,em];unfold bM;simp[List.getD,hm]
 have HST:Hid (∀sb wx,Cells wx sb (aL i V F s c cap at_ x vs vc fs fc (U nO 0 0) false false)->w.heap.size<=sb->Below w.heap.size w wx->Calls pG 18 #[Pp (sO ⟨sb,0,nO⟩)] wx λe w'=>e=Rt (Tu #[])/\bV sb w' (λev'=>aL i V F s c cap at_ x vs vc fs fc ev' (ah i at_ x).2.1 (ah i at_ x).2.2) [] (ah i at_ x).1/\Below sb wx w'):=λsb wx hs hz hb=>Ci sb i V F s c cap at_ x vs vc fs fc w wx hs hc hx hz hb K;have HCA:=aa hc;have r0:¬at_ < 0:=by omega
 have r1:¬(c.length:Int)<=at_:=by omega
 have n0:(0:Int)<=(m:Int):=by omega
 have n1:(m:Int) < (c.length:Int):=by omega
 have HCM:=aa hcm;have HNX:=aa hn;have hb0:Below w.heap.size w ((w.alloc (Cc #[I Y V,I Y F,U s c.length cap] 24)).alloc (Cc #[Bb x.none,U vs x.vars.length vc,U fs x.flds.length fc] 28)):=by go_grown
 have P0:Cells ((w.alloc (Cc #[I Y V,I Y F,U s c.length cap] 24)).alloc (Cc #[Bb x.none,U vs x.vars.length vc,U fs x.flds.length fc] 28)) w.heap.size [I Y V,I Y F,U s c.length cap]:=(Cells.new w 24 [I Y V,I Y F,U s c.length cap]).call (by go_grown);have X0:Cells ((w.alloc (Cc #[I Y V,I Y F,U s c.length cap] 24)).alloc (Cc #[Bb x.none,U vs x.vars.length vc,U fs x.flds.length fc] 28)) (w.heap.size+1) [Bb x.none,U vs x.vars.length vc,U fs x.flds.length fc]:=by
  exact gC
 have HC:=aa (fG V F s c cap x vs vc fs fc ((w.alloc (Cc #[I Y V,I Y F,U s c.length cap] 24)).alloc (Cc #[Bb x.none,U vs x.vars.length vc,U fs x.flds.length fc] 28)) (hc.below hb0 (lR _)) (hx.below hb0 (lR _)) h1 h2);rw[hu] at HC;clear hu hc hx hn hr hi hcm K kx k0 ha1;obtain⟨⟨SL,wr,fl⟩,hst⟩:∃q,q=ah i at_ x:=⟨_,rfl⟩;rw[<-hst] at HST |-;clear hst;go_enter Tryz.func5,Tryz.ntmps5;go_wp2_with (go_at_call 17;fail);refine HC.out.mono ?_;rintro e w1 ⟨rfl,hb1⟩;generalize ((w.alloc (Cc #[I Y V,I Y F,U s c.length cap] 24)).alloc (Cc #[Bb x.none,U vs x.vars.length vc,U fs x.flds.length fc] 28))=w0 at *;have B1:=hb0.trans (hb1.mono hb0.size);have P1:=P0.call hb1;have X1:=X0.call hb1;clear P0 X0 hb0 hb1 HC;obtain⟨cb0,co,es,hcb,hci⟩:=HCA.out.get m hm;obtain⟨j0,j1,j2,j3,j4,j5⟩:=(hci m hm).below B1 hcb;rw[HCM.out] at j0 j1 j2 j3 j4 j5;have p2:=P1.1 2 _ rfl;have x0:=X1.1 0 _ rfl;rw[HNX.out] at x0;have hzz:w1.heap.size<=w1.drew.heap.size:=(bR w1.heap.size w1).drew.size;have D1:Below w1.heap.size w1 w1.drew:=(bR _ _).drew;have P2:=P1.call D1;have X2:=X1.call D1;have B2:=B1.trans (D1.mono B1.size);rw[HNX.out] at X2;have HKZ:Hid (∀wx,Below w1.drew.heap.size w1.drew wx->(wx.cell? ⟨w.heap.size,0,nO⟩=sO (I Y V)/\wx.cell? ⟨w.heap.size,1,nO⟩=sO (I Y F)/\wx.cell? ⟨w.heap.size,2,nO⟩=sO (U (sO ⟨cb0,co,nO⟩) c.length cap))/\(wx.cell? ⟨w.heap.size+1,0,nO⟩=sO (Bb false)/\wx.cell? ⟨w.heap.size+1,1,nO⟩=sO (U vs x.vars.length vc)/\wx.cell? ⟨w.heap.size+1,2,nO⟩=sO (U fs x.flds.length fc))/\(wx.cell? ⟨cb0,co+m * 6,nO⟩=sO (I Y i.k)/\wx.cell? ⟨cb0,co+m * 6+1,nO⟩=sO (I Y i.tgt)/\wx.cell? ⟨cb0,co+m * 6+2,nO⟩=sO (I Y i.a)/\wx.cell? ⟨cb0,co+m * 6+3,nO⟩=sO (I Y i.b)/\wx.cell? ⟨cb0,co+m * 6+4,nO⟩=sO (I Y i.n)/\wx.cell? ⟨cb0,co+m * 6+5,nO⟩=sO (I Y i.g))):=λwx hb=>by
  have p:=P2.call hb;have q:=X2.call hb;have bb:=B2.trans (hb.mono B2.size);have pp:=p.1 2 _ rfl;rw[es] at pp;refine⟨⟨p.1 0 _ rfl,p.1 1 _ rfl,pp⟩,⟨q.1 0 _ rfl,q.1 1 _ rfl,q.1 2 _ rfl⟩,?_⟩;have:=(hci m hm).below bb hcb;rw[HCM.out] at this;exact this
 have HES:=aa es;clear es hci j0 j1 j2 j3 j4 j5 P1 X1 D1 hzz;subst em
 go_upto_region 8 with fail
 clear p2 x0 r0 r1;refine am (S:=(λwx=>(wx.cell? ⟨w.heap.size,0,nO⟩=sO (I Y V)/\wx.cell? ⟨w.heap.size,1,nO⟩=sO (I Y F)/\wx.cell? ⟨w.heap.size,2,nO⟩=sO (U (sO ⟨cb0,co,nO⟩) c.length cap))/\(wx.cell? ⟨w.heap.size+1,0,nO⟩=sO (Bb false)/\wx.cell? ⟨w.heap.size+1,1,nO⟩=sO (U vs x.vars.length vc)/\wx.cell? ⟨w.heap.size+1,2,nO⟩=sO (U fs x.flds.length fc))/\(wx.cell? ⟨cb0,co+m * 6,nO⟩=sO (I Y i.k)/\wx.cell? ⟨cb0,co+m * 6+1,nO⟩=sO (I Y i.tgt)/\wx.cell? ⟨cb0,co+m * 6+2,nO⟩=sO (I Y i.a)/\wx.cell? ⟨cb0,co+m * 6+3,nO⟩=sO (I Y i.b)/\wx.cell? ⟨cb0,co+m * 6+4,nO⟩=sO (I Y i.n)/\wx.cell? ⟨cb0,co+m * 6+5,nO⟩=sO (I Y i.g)))) [10] (by kernel_rfl) (HKZ.out _ (bR _ _)) (λhHeld=> ?_);generalize w1.drew=w2 at *;refine vZ 0 ?_ ?_;refine vZ 1 ?_ ?_;refine vZ 2 ?_ ?_;refine vZ 3 ?_ ?_;refine vZ 4 ?_ ?_;refine vZ 5 ?_ ?_;refine vZ 6 ?_ ?_;refine vZ 7 ?_ ?_;refine vZ 8 ?_ ?_;refine ai (i:=9) rfl (by kernel_rfl) (λK hK=> ?_);go_simp;have hb3:Below w2.heap.size w2 (w2.alloc (Cc #[I Y 0,I Y 0,I Y 0,I Y 0,I Y 0,I Y 0,I Y 0,I Y 0,U nO 0 0,I Y 0,Bb false,U nO 0 0,U nO 0 0,U nO 0 0,Bb false,Bb false] 53)):=by go_grown
 have S3:Cells (w2.alloc (Cc #[I Y 0,I Y 0,I Y 0,I Y 0,I Y 0,I Y 0,I Y 0,I Y 0,U nO 0 0,I Y 0,Bb false,U nO 0 0,U nO 0 0,U nO 0 0,Bb false,Bb false] 53)) w2.heap.size [I Y 0,I Y 0,I Y 0,I Y 0,I Y 0,I Y 0,I Y 0,I Y 0,U nO 0 0,I Y 0,Bb false,U nO 0 0,U nO 0 0,U nO 0 0,Bb false,Bb false]:=Cells.new w2 53 [I Y 0,I Y 0,I Y 0,I Y 0,I Y 0,I Y 0,I Y 0,I Y 0,U nO 0 0,I Y 0,Bb false,U nO 0 0,U nO 0 0,U nO 0 0,Bb false,Bb false];refine hK.out _ _ (HKZ.out _ hb3) (λhHeld=> ?_);clear hK K;refine sm ?_;generalize w2.alloc (Cc #[I Y 0,I Y 0,I Y 0,I Y 0,I Y 0,I Y 0,I Y 0,I Y 0,U nO 0 0,I Y 0,Bb false,U nO 0 0,U nO 0 0,U nO 0 0,Bb false,Bb false] 53)=w3 at *;generalize eSB:w2.heap.size=sb at *;refine bo (i:=10) rfl (by kernel_rfl) (by kernel_rfl) (λK hK=> ?_);have r0:=S3.1 0 _ rfl;have f0:=S3.2.2 0;have r1:=S3.1 1 _ rfl;have f1:=S3.2.2 1;have r2:=S3.1 2 _ rfl;have f2:=S3.2.2 2;have r3:=S3.1 3 _ rfl;have f3:=S3.2.2 3;have r4:=S3.1 4 _ rfl;have f4:=S3.2.2 4;have r5:=S3.1 5 _ rfl;have f5:=S3.2.2 5;have r6:=S3.1 6 _ rfl;have f6:=S3.2.2 6;have r7:=S3.1 7 _ rfl;have f7:=S3.2.2 7;have r8:=S3.1 8 _ rfl;have f8:=S3.2.2 8;have r9:=S3.1 9 _ rfl;have f9:=S3.2.2 9;have r10:=S3.1 10 _ rfl;have f10:=S3.2.2 10;have r11:=S3.1 11 _ rfl;have f11:=S3.2.2 11;have r12:=S3.1 12 _ rfl;have f12:=S3.2.2 12;have r13:=S3.1 13 _ rfl;have f13:=S3.2.2 13;have r14:=S3.1 14 _ rfl;have f14:=S3.2.2 14;have r15:=S3.1 15 _ rfl;have f15:=S3.2.2 15;go_simp;refine hK.out _ _ ?_;clear hK K r0 f0 r1 f1 r2 f2 r3 f3 r4 f4 r5 f5 r6 f6 r7 f7 r8 f8 r9 f9 r10 f10 r11 f11 r12 f12 r13 f13 r14 f14 r15 f15;refine sm ?_;refine aj (by kernel_rfl) ?_ _;have hs2:w2.heap.size<=sb:=by omega
 have C4:Cells ((((((((((((((((w3.setCell ⟨sb,0,nO⟩ (I Y i.k)).setCell ⟨sb,1,nO⟩ (I Y i.tgt)).setCell ⟨sb,2,nO⟩ (I Y i.a)).setCell ⟨sb,3,nO⟩ (I Y i.b)).setCell ⟨sb,4,nO⟩ (I Y i.n)).setCell ⟨sb,5,nO⟩ (I Y i.g)).setCell ⟨sb,6,nO⟩ (I Y V)).setCell ⟨sb,7,nO⟩ (I Y F)).setCell ⟨sb,8,nO⟩ (U (sO ⟨cb0,co,nO⟩) c.length cap)).setCell ⟨sb,9,nO⟩ (I Y (m:Int))).setCell ⟨sb,10,nO⟩ (Bb false)).setCell ⟨sb,11,nO⟩ (U vs x.vars.length vc)).setCell ⟨sb,12,nO⟩ (U fs x.flds.length fc)).setCell ⟨sb,13,nO⟩ (U nO 0 0)).setCell ⟨sb,14,nO⟩ (Bb false)).setCell ⟨sb,15,nO⟩ (Bb false)) sb (aL i V F s c cap (m:Int) x vs vc fs fc (U nO 0 0) false false):=by
  have h:=((((((((((((((((S3.put 0 (by simp only[j8,j6,j7];omega) (I Y i.k)).put 1 (by simp only[j8,j6,j7];omega) (I Y i.tgt)).put 2 (by simp only[j8,j6,j7];omega) (I Y i.a)).put 3 (by simp only[j8,j6,j7];omega) (I Y i.b)).put 4 (by simp only[j8,j6,j7];omega) (I Y i.n)).put 5 (by simp only[j8,j6,j7];omega) (I Y i.g)).put 6 (by simp only[j8,j6,j7];omega) (I Y V)).put 7 (by simp only[j8,j6,j7];omega) (I Y F)).put 8 (by simp only[j8,j6,j7];omega) (U (sO ⟨cb0,co,nO⟩) c.length cap)).put 9 (by simp only[j8,j6,j7];omega) (I Y (m:Int))).put 10 (by simp only[j8,j6,j7];omega) (Bb false)).put 11 (by simp only[j8,j6,j7];omega) (U vs x.vars.length vc)).put 12 (by simp only[j8,j6,j7];omega) (U fs x.flds.length fc)).put 13 (by simp only[j8,j6,j7];omega) (U nO 0 0)).put 14 (by simp only[j8,j6,j7];omega) (Bb false)).put 15 (by simp only[j8,j6,j7];omega) (Bb false));have e:aL i V F s c cap (m:Int) x vs vc fs fc (U nO 0 0) false false=[I Y i.k,I Y i.tgt,I Y i.a,I Y i.b,I Y i.n,I Y i.g,I Y V,I Y F,U (sO ⟨cb0,co,nO⟩) c.length cap,I Y (m:Int),Bb false,U vs x.vars.length vc,U fs x.flds.length fc,U nO 0 0,Bb false,Bb false]:=by unfold aL;rw[HNX.out,HES.out]
  rw[e];simp only[List.set_cons_zero,List.set_cons_succ] at h;exact h
 have B4:Below sb w2 ((((((((((((((((w3.setCell ⟨sb,0,nO⟩ (I Y i.k)).setCell ⟨sb,1,nO⟩ (I Y i.tgt)).setCell ⟨sb,2,nO⟩ (I Y i.a)).setCell ⟨sb,3,nO⟩ (I Y i.b)).setCell ⟨sb,4,nO⟩ (I Y i.n)).setCell ⟨sb,5,nO⟩ (I Y i.g)).setCell ⟨sb,6,nO⟩ (I Y V)).setCell ⟨sb,7,nO⟩ (I Y F)).setCell ⟨sb,8,nO⟩ (U (sO ⟨cb0,co,nO⟩) c.length cap)).setCell ⟨sb,9,nO⟩ (I Y (m:Int))).setCell ⟨sb,10,nO⟩ (Bb false)).setCell ⟨sb,11,nO⟩ (U vs x.vars.length vc)).setCell ⟨sb,12,nO⟩ (U fs x.flds.length fc)).setCell ⟨sb,13,nO⟩ (U nO 0 0)).setCell ⟨sb,14,nO⟩ (Bb false)).setCell ⟨sb,15,nO⟩ (Bb false)):=((((((((((((((((hb3.setCell (lR _) _).setCell (lR _) _).setCell (lR _) _).setCell (lR _) _).setCell (lR _) _).setCell (lR _) _).setCell (lR _) _).setCell (lR _) _).setCell (lR _) _).setCell (lR _) _).setCell (lR _) _).setCell (lR _) _).setCell (lR _) _).setCell (lR _) _).setCell (lR _) _).setCell (lR _) _);have hsb:w.heap.size<=sb:=by have:=B2.size;omega
 have BB:=B2.trans (B4.mono hsb);clear S3 hb3 B4 HKZ P2 X2;generalize ((((((((((((((((w3.setCell ⟨sb,0,nO⟩ (I Y i.k)).setCell ⟨sb,1,nO⟩ (I Y i.tgt)).setCell ⟨sb,2,nO⟩ (I Y i.a)).setCell ⟨sb,3,nO⟩ (I Y i.b)).setCell ⟨sb,4,nO⟩ (I Y i.n)).setCell ⟨sb,5,nO⟩ (I Y i.g)).setCell ⟨sb,6,nO⟩ (I Y V)).setCell ⟨sb,7,nO⟩ (I Y F)).setCell ⟨sb,8,nO⟩ (U (sO ⟨cb0,co,nO⟩) c.length cap)).setCell ⟨sb,9,nO⟩ (I Y (m:Int))).setCell ⟨sb,10,nO⟩ (Bb false)).setCell ⟨sb,11,nO⟩ (U vs x.vars.length vc)).setCell ⟨sb,12,nO⟩ (U fs x.flds.length fc)).setCell ⟨sb,13,nO⟩ (U nO 0 0)).setCell ⟨sb,14,nO⟩ (Bb false)).setCell ⟨sb,15,nO⟩ (Bb false))=w4 at *;go_wp2_with (go_at_call 18;fail);refine(HST.out sb w4 C4 hsb BB).mono ?_;rintro e w5 ⟨rfl,⟨ev,QL,C5,E5,eq5⟩,hb5⟩;rw[q4] at E5;obtain⟨es,ec,rfl,-,-⟩:=E5.form;have hd:Below w5.heap.size w5 w5.drew:=(bR _ _).drew;have CD:=C5.call hd;have ED:=E5.call hd;have BD:=(BB.trans (hb5.mono hsb)).drew;have HEQ:=aa eq5;clear C5 E5 C4 HST eq5
 go_upto_region 10 with fail
 refine am (S:=(λwx=>wx.cell? ⟨sb,13,nO⟩=sO (U es QL.length ec)/\wx.cell? ⟨sb,14,nO⟩=sO (Bb wr)/\wx.cell? ⟨sb,15,nO⟩=sO (Bb fl))) [] (by kernel_rfl) ⟨CD.1 13 _ rfl,CD.1 14 _ rfl,CD.1 15 _ rfl⟩ (λhHeld=> ?_);refine vZ 0 ?_ ?_;refine vZ 1 ?_ ?_;refine vZ 2 ?_ ?_;refine vZ 3 ?_ ?_;refine vZ 4 ?_ ?_;refine vZ 5 ?_ ?_;refine vZ 6 ?_ ?_;refine vZ 7 ?_ ?_;refine vZ 8 ?_ ?_;refine vZ 9 ?_ ?_;refine aj (by kernel_rfl) ?_ _;go_wp2;have hl:QL.length=SL.length:=by rw[<-HEQ.out];simp
 refine bodyPost_ret (v:=Tu #[U es QL.length ec,Bb wr,Bb fl,I Y 0]) (by simp[results,Tryz.results5,go_sem]) rfl ⟨⟨es,ec,by rw[hl],?_⟩,BD⟩;have h:=ED.eds;rw[HEQ.out] at h;exact h.mono λb hb _=>by omega
theorem As (V F:Int)(s:oA)(c:List Ins)(cap:Nat)(at_:Int)(x:Pic)(vs:oA)(vc:Nat)(fs:oA)(fc:Nat)(w:World)(hc:CodeAt w s c)(hx:PicAt w x vs fs)(h1:x.vars.length<=vc/\vc<=maxLen)(h2:x.flds.length<=fc/\fc<=maxLen):
  Calls pG 5 #[pv V F s c cap,I Y at_,xv x vs vc fs fc] w λe w'=>sA w.heap.size w' e (gw V F c at_ x) (fT V F c at_ x)/\Below w.heap.size w w':=by
 by_cases hu:aq V F c [x]=0
 ·by_cases hr:at_ < 0\/(c.length:Int)<=at_
  ·have e1:fT V F c at_ x=5:=by unfold fT;rw[if_pos hu,if_pos hr]
   have e2:gw V F c at_ x=([],false,false):=by unfold gw;rw[e1,if_neg (by decide)]
   rw[e1,e2];exact un V F s c cap at_ x vs vc fs fc w hc hx h1 h2 hu hr
  ·have e1:fT V F c at_ x=0:=by unfold fT;rw[if_pos hu,if_neg hr]
   have e2:gw V F c at_ x=ah (bM c at_) at_ x:=by unfold gw;rw[e1,if_pos rfl]
   rw[e1,e2];by_cases hn:x.none=true
   ·have e3:ah (bM c at_) at_ x=([],false,false):=by unfold ah;rw[if_pos hn]
    rw[e3];exact wR V F s c cap at_ x vs vc fs fc w hc hx h1 h2 hu hr hn
   ·exact AM V F s c cap at_ x vs vc fs fc w hc hx h1 h2 hu hr (by simpa using hn)
 ·have e1:fT V F c at_ x=aq V F c [x]:=by unfold fT;rw[if_neg hu]
  have e2:gw V F c at_ x=([],false,false):=by unfold gw;rw[e1,if_neg hu]
  rw[e1,e2];exact yk V F s c cap at_ x vs vc fs fc w hc hx h1 h2 hu
def KeptC (Ch:Nat->Prop)(W W':World):Prop:=W.heap.size<=W'.heap.size/\∀b,¬Ch b->b < W.heap.size->W'.heap[b]? =W.heap[b]?
theorem KeptC.refl (Ch:Nat->Prop)(W:World):KeptC Ch W W:=⟨lR _,λ_ _ _=>rfl⟩
theorem KeptC.trans {Ch:Nat->Prop}{A B C:World}(h:KeptC Ch A B)(k:KeptC Ch B C):KeptC Ch A C:=⟨lT h.1 k.1,λb hb hlt=>(k.2 b hb (lL hlt h.1)).trans (h.2 b hb hlt)⟩
theorem KeptC.of {Ch:Nat->Prop}{A B:World}(h:Below A.heap.size A B):KeptC Ch A B:=⟨h.size,λb _ hlt=>h.block b hlt⟩
theorem KeptC.cells {Ch:Nat->Prop}{A B:World}(h:KeptC Ch A B){b:Nat}{cs:List Value}(hc:Cells A b cs)(hb:¬Ch b):Cells B b cs:=hc.same (h.2 b hb hc.2.1) h.1
def ie {σ:Type}(c:List Ins)(pics:σ->List Pic)(due:σ->Nat->Bool)(next:Nat->Edg->σ->σ)(t:σ)(k:Nat):σ:=if due t k then(bG c k (aI (pics t) k)).foldl (λt e=>next k e t) t else t
def dY {σ:Type}(c:List Ins)(pics:σ->List Pic)(due:σ->Nat->Bool)(next:Nat->Edg->σ->σ)(t:σ)(k:Nat):σ:=(q5 k).foldl (ie c pics due next) t
theorem iB {σ:Type}{c:List Ins}{pics:σ->List Pic}{due:σ->Nat->Bool}{next:Nat->Edg->σ->σ}{t:σ}{k:Nat}:dY c pics due next t (k+1)=ie c pics due next (dY c pics due next t k) k:=by unfold dY;rw[z9,x4];rfl
theorem n7 {σ:Type}{V F:Int}{s:oA}{c:List Ins}{cap pb ib lb l n fd lc:Nat}{ls:oA}{cs:Array Value}{ar:Value->Array Value}(har:∀p,#[p]++cs=ar p)(hf:∀args wx,Sem.run pG (callFunc fd args) wx=.ok (.enter fd args) wx){pics:σ->List Pic}{due:σ->Nat->Bool}{next:Nat->Edg->σ->σ}{St:σ->World->Prop}{Stop:World->Prop}{Ch:Nat->Prop}
  (h0:ag V F c=0)(t0:σ)(W:World)
  (hSt:∀t W W',St t W->Below W.heap.size W W'->St t W')
  (hRow:∀t W,St t W->XsAt W ls (pics t)/\XsOk V F c (pics t))
  (hDue:∀t W (k:Nat),St t W->k < c.length->Calls pG fd (ar (I Y (k:Int))) W λe W'=>e=Rt (Bb (due t k))/\Below W.heap.size W W')
  (hY:∀t W (k:Nat) (e:Edg) vs vc fs fc,St t W->k < c.length->(∃t1,e∈bG c k (aI (pics t1) k))->en V F c e->PicOn (λb=>¬Ch b) W e.pic vs fs->(e.pic.vars.length<=vc/\vc<=maxLen)->(e.pic.flds.length<=fc/\fc<=maxLen)->YieldAt Fence.wide (n - 1) pG l #[I Y (k:Int),Ag #[I Y e.tgt,Bb e.pic.none,U vs e.pic.vars.length vc,U fs e.pic.flds.length fc]] W λr W'=>(r=Rt (Bb true)/\St (next k e t) W'/\KeptC Ch W W')\/(r=Rt (Bb false)/\Stop W'))
  (hcode:∀W W',KeptC Ch W W'->CodeAt W s c->CodeAt W' s c)(hCh:∀b,Ch b->b < W.heap.size)(hpb:¬Ch pb)(hib:¬Ch ib)(hlb:¬Ch lb)
  (hW:St t0 W)(hP:Cells W pb [I Y V,I Y F,U s c.length cap])(hI:Cells W ib [.func (.func fd) #[] cs])(hL:Cells W lb [U ls (c.length+1) lc])(hC:CodeAt W s c):
  CallsIn Fence.wide n pG 72 #[.func (.yield l) #[] #[],Pp (sO ⟨pb,0,nO⟩),Pp (sO ⟨ib,0,nO⟩),Pp (sO ⟨lb,0,nO⟩)] W λe W'=>(∃v,e=Rt v)/\((St (dY c pics due next t0 c.length) W'/\KeptC Ch W W')\/Stop W'):=by
 have h60:=(bq h0).2.2;have HSt:=aa hSt;have HRow:=aa hRow;have HDue:=aa hDue;have HY:=aa hY;have HCO:=aa hcode;have HW:=aa hW;have HCK:=aa h0;clear hSt hRow hDue hY hcode hW h0;refine callsIn_of_wp Tryz.func72 rfl trivial (wpIn_wide.2 ?_);simp only[Tryz.ntmps72,x5,j6,j7,x6,x7,x8,x9,J0,J3,q4,J4];have p2:=hP.1 2 _ rfl;go_wp2;clear p2;go_loopw [15] (λi wr=>∃k:Nat,k<=c.length/\i=I Y k/\Hid (St (dY c pics due next t0 k) wr)/\KeptC Ch W wr) (λi _=>c.length - (intOf i).toNat)
 case atStart=>exact⟨0,z7 _,rfl,HW.out,KeptC.refl _ _⟩
 case round=>
  obtain⟨k,hk,rfl,HS,hkr⟩:=hrel;have P1:=hkr.cells hP hpb;have I1:=hkr.cells hI hib;have L1:=hkr.cells hL hlb;by_cases hlt:k < c.length;rotate_left
  ·have n1:¬(k:Int) < (c.length:Int):=by omega
   have ek:k=c.length:=by omega
   have HF:Hid (St (dY c pics due next t0 c.length) wr):=by show St _ _;rw[<-ek];exact HS.out
   clear ek HS;go_wp2;go_end0;exact⟨⟨_,rfl⟩,.inl ⟨HF.out,hkr⟩⟩
  have n0:(0:Int)<=(k:Int):=by omega
  have n1:(k:Int) < (c.length:Int):=by omega
  have i0:=I1.1 0 _ rfl;go_wp2_with fail;refine(HDue.out _ wr k HS.out hlt).mono ?_;rintro e w1 ⟨rfl,hb1⟩;have k1:KeptC Ch W w1:=hkr.trans (KeptC.of hb1);have HS1:=aa (HSt.out _ _ _ HS.out hb1);have P2:=P1.call hb1;have L2:=L1.call hb1;clear HS hb1 i0 P1 I1 L1;obtain⟨t,et⟩:∃t,t=dY c pics due next t0 k:=⟨_,rfl⟩
  have HT:=aa (iB (c:=c) (pics:=pics) (due:=due) (next:=next) (t:=t0) (k:=k));rw[<-et] at HS1 HT |-;clear et;rcases q6 (due t k) with hd|hd;rotate_left
  ·have HD:=aa hd
   rw[hd];clear hd;go_wp2;go_roundw
   case rel=>exact⟨k+1,by omega,by go_num,by show St _ _;rw[HT.out];unfold ie;rw[HD.out];exact HS1.out,k1⟩
   case measure=>simp[intOf];omega
  ·have HD:=aa hd
   rw[hd];clear hd;obtain⟨hX,hXO⟩:=HRow.out _ _ HS1.out;have hxl:k < (pics t).length:=by rw[hXO.len];omega
   obtain⟨rb,ro,els,zrb,vx,vxc,fx,fxc,⟨q0,q1,q2⟩,hPx,hvx,hfx⟩:=hX k hxl;obtain⟨x,ex⟩:∃x,x=(pics t)[k]:=⟨_,rfl⟩;have hckx:an V F c x=0:=by rw[ex];exact hXO.ck _ (gM hxl)
   have HEX:Hid (aI (pics t) (k:Int)=x):=by show _=_;rw[dm hxl,ex]
   rw[<-ex] at q0 q1 q2 hPx hvx hfx;clear ex;have C1:=HCO.out _ _ k1 hC;have HSF:Hid (∀wx,Below w1.heap.size w1 wx->Calls pG 5 #[pv V F s c cap,I Y (k:Int),xv x vx vxc fx fxc] wx λe w'=>(∃es ec,e=Rt (Tu #[U es (bG c k x).length ec,Bb (ah (bM c k) k x).2.1,Bb (ah (bM c k) k x).2.2,I Y 0])/\EdsOn (λb=>w1.heap.size<=b) w' es (bG c k x))/\Below wx.heap.size wx w'):=λwx hb=>by
    have hu:aq V F c [x]=0:=by unfold aq;rw[if_pos HCK.out];unfold bx;rw[if_pos hckx];rfl
    have e0:fT V F c (k:Int) x=0:=by unfold fT;rw[if_pos hu,if_neg (by omega)]
    have e1:gw V F c (k:Int) x=ah (bM c k) k x:=by unfold gw;rw[if_pos e0]
    have h:=As V F s c cap (k:Int) x vx vxc fx fxc wx (C1.below hb (lR _)) (hPx.below hb (lR _)) hvx hfx;rw[e0,e1] at h;refine h.mono ?_;rintro e w' ⟨⟨es,ec,rfl,hE⟩,hb'⟩;exact⟨⟨es,ec,rfl,hE.mono λb h _=>lT hb.size h⟩,hb'⟩
   have HEO:=aa (e8 HCK.out hckx hlt);subst els;have HKZ:Hid (∀wx,Below w1.heap.size w1 wx->(wx.cell? ⟨pb,0,nO⟩=sO (I Y V)/\wx.cell? ⟨pb,1,nO⟩=sO (I Y F)/\wx.cell? ⟨pb,2,nO⟩=sO (U s c.length cap))/\wx.cell? ⟨lb,0,nO⟩=sO (U (sO ⟨rb,ro,nO⟩) (c.length+1) lc)/\(wx.cell? ⟨rb,ro+k * 3,nO⟩=sO (Bb x.none)/\wx.cell? ⟨rb,ro+k * 3+1,nO⟩=sO (U vx x.vars.length vxc)/\wx.cell? ⟨rb,ro+k * 3+2,nO⟩=sO (U fx x.flds.length fxc))):=λwx hb=>by
    have p:=P2.call hb;have q:=L2.call hb;refine⟨⟨p.1 0 _ rfl,p.1 1 _ rfl,p.1 2 _ rfl⟩,q.1 0 _ rfl,?_,?_,?_⟩
    ·rw[hb.cell (by simp only;exact zrb)];exact q0
    ·rw[hb.cell (by simp only;exact zrb)];exact q1
    ·rw[hb.cell (by simp only;exact zrb)];exact q2
   have B12:Below w1.heap.size w1 w1.drew:=(bR _ _).drew;have m1:(k:Int) < (c.length:Int)+1:=by omega
   generalize (ah (bM c k) k x).2.1=sw at *;generalize (ah (bM c k) k x).2.2=sf at *;have HST:Hid (ie c pics due next t k=(bG c k x).foldl (λt e=>next k e t) t):=by show _=_;unfold ie;rw[HD.out,if_pos rfl,HEX.out]
   have HELE:Hid ((bG c k x).length<=10):=lT (iz _ _ _) (by decide);have HM:Hid (∀e∈bG c k x,∃t1,e∈bG c k (aI (pics t1) k)):=λe he=>⟨t,by rw[HEX.out];exact he⟩;generalize bG c k x=E at *
   go_upto_region 4 with fail
   refine am (S:=(λwx=>(wx.cell? ⟨pb,0,nO⟩=sO (I Y V)/\wx.cell? ⟨pb,1,nO⟩=sO (I Y F)/\wx.cell? ⟨pb,2,nO⟩=sO (U s c.length cap))/\wx.cell? ⟨lb,0,nO⟩=sO (U (sO ⟨rb,ro,nO⟩) (c.length+1) lc)/\(wx.cell? ⟨rb,ro+k * 3,nO⟩=sO (Bb x.none)/\wx.cell? ⟨rb,ro+k * 3+1,nO⟩=sO (U vx x.vars.length vxc)/\wx.cell? ⟨rb,ro+k * 3+2,nO⟩=sO (U fx x.flds.length fxc)))) [] (by kernel_rfl) (HKZ.out _ B12) (λhHeld=> ?_);generalize w1.drew=w2 at *;refine vZ 0 ?_ ?_;refine vZ 1 ?_ ?_;refine vZ 2 ?_ ?_;refine vZ 3 ?_ ?_;refine vZ 4 ?_ ?_;refine vZ 5 ?_ ?_;refine ai (i:=6) rfl (by kernel_rfl) (λK hK=> ?_);go_simp;go_at_call 5;refine(HSF.out w2 B12).mono ?_;rintro e w3 ⟨⟨es,ec,rfl,E3⟩,hb3⟩;go_wp2_with fail;refine hK.out _ _ (HKZ.out _ (B12.trans (hb3.mono B12.size))) (λhHeld=> ?_);clear hK K;refine sm ?_;refine vZ 7 ?_ ?_;refine vZ 8 ?_ ?_;refine vZ 9 ?_ ?_;refine vZ 10 ?_ ?_;refine vZ 11 ?_ ?_;refine vZ 12 ?_ ?_;refine vZ 13 ?_ ?_;refine vZ 14 ?_ ?_;refine vZ 15 ?_ ?_;refine aj (by kernel_rfl) ?_ _;have HS3:=aa (HSt.out _ _ _ HS1.out (B12.trans (hb3.mono B12.size)));have k3:KeptC Ch W w3:=k1.trans (KeptC.of (B12.trans (hb3.mono B12.size)));have HN:Hid (∀b,w1.heap.size<=b->¬Ch b):=λb hb hc=>by have:=hCh b hc;have:=k1.1;omega
   have HEL:Hid (E.length<=10):=HELE.out;clear B12 hb3 HS1 P2 L2 hX hXO C1 HSF HKZ q0 q1 q2 hPx hvx hfx hckx;go_wp2;go_loopw [36] (λi wr=>∃j:Nat,j<=E.length/\i=I Y j/\Hid (St ((E.take j).foldl (λt e=>next k e t) t) wr)/\KeptC Ch w3 wr) (λi _=>E.length - (intOf i).toNat)
   case atStart=>exact⟨0,z7 _,rfl,HS3.out,KeptC.refl _ _⟩
   case round=>
    obtain⟨j,hj,rfl,HSj,hkj⟩:=hrel;have hl10:=HEL.out;by_cases hltj:j < E.length;rotate_left
    ·have n2:¬(j:Int) < (E.length:Int):=by omega
     have HF:Hid (St (dY c pics due next t0 (k+1)) wr):=by
      show St _ _;have h:=HSj.out;rw[List.take_of_length_le (by omega)] at h;rw[HT.out,HST.out];exact h
     have k4:=k3.trans hkj;clear HSj HS3;go_wp2;go_roundw
     case rel=>exact⟨k+1,by omega,by go_num,HF.out,k4⟩
     case measure=>simp[intOf];omega
    have j0:(0:Int)<=(j:Int):=by omega
    have j1:(j:Int) < (E.length:Int):=by omega
    have EJ:=E3.same (w':=wr) (λb hb hlt=>hkj.2 b (HN.out b hb) hlt) hkj.1;obtain⟨eb,eo,ees,hSb,zeb,vs,vc,fs,fc,⟨c0,c1,c2,c3⟩,hPe,hve,hfe⟩:=EJ j hltj;have hba:Below wr.heap.size wr (wr.alloc (Cc #[I Y E[j].tgt,Bb E[j].pic.none,U vs E[j].pic.vars.length vc,U fs E[j].pic.flds.length fc] 56)):=by go_grown
    obtain⟨fn,tmps,assign,body,hy,hR⟩:=HY.out _ _ k E[j] vs vc fs fc (HSt.out _ _ _ HSj.out hba) hlt (HM.out _ (gM hltj)) (HEO.out _ (gM hltj)) ((hPe.mono λb hb _=>HN.out b hb).call hba) hve hfe;have HTK:Hid ((E.take (j+1)).foldl (λt e=>next k e t) t=next k E[j] ((E.take j).foldl (λt e=>next k e t) t)):=by show _=_;rw[List.take_succ_eq_append_getElem hltj,x4];rfl
    have kba:KeptC Ch w3 (wr.alloc (Cc #[I Y E[j].tgt,Bb E[j].pic.none,U vs E[j].pic.vars.length vc,U fs E[j].pic.flds.length fc] 56)):=hkj.trans (KeptC.of hba);subst ees;have NX:Cells (wr.alloc (Cc #[I Y E[j].tgt,Bb E[j].pic.none,U vs E[j].pic.vars.length vc,U fs E[j].pic.flds.length fc] 56)) wr.heap.size [I Y E[j].tgt,Bb E[j].pic.none,U vs E[j].pic.vars.length vc,U fs E[j].pic.flds.length fc]:=Cells.new wr _ [I Y E[j].tgt,Bb E[j].pic.none,U vs E[j].pic.vars.length vc,U fs E[j].pic.flds.length fc];clear EJ hPe HSj HS3
    go_upto_region 8 with fail
    clear c0 c1 c2 c3;generalize wr.alloc (Cc #[I Y E[j].tgt,Bb E[j].pic.none,U vs E[j].pic.vars.length vc,U fs E[j].pic.flds.length fc] 56)=wy at *;have c0:=NX.1 0 _ rfl;have c1:=NX.1 1 _ rfl;have c2:=NX.1 2 _ rfl;have c3:=NX.1 3 _ rfl;refine(wpIn_wide (n:=n)).1 ?_
    gi_wp2
    refine⟨λh=>(by cases h),hR.mono ?_⟩;rintro e W3 (⟨rfl,hS4,hk4⟩|⟨rfl,hstop⟩)
    ·have HS4:=aa hS4
     clear hS4 hR hy c0 c1 c2 c3 NX;have k5:=kba.trans hk4
     gi_wp2
     go_wp2;go_roundw
     case rel=>exact⟨j+1,by omega,by go_num,by show St _ _;rw[HTK.out];exact HS4.out,k5⟩
     case measure=>simp[intOf];omega
    ·clear hR hy c0 c1 c2 c3 NX
     have HSP:=aa hstop;clear hstop
     gi_wp2
     go_wp2;refine bodyPost_ret (results_none rfl _ _ _) rfl ?_;exact⟨⟨_,rfl⟩,.inr HSP.out⟩
theorem nS (V F:Int)(s:oA)(c:List Ins)(cap:Nat)(ls:oA)(len lc fd:Nat)(cs:Array Value)(w:World):
  Calls pG 37 #[pv V F s c cap,U ls len lc,.func (.func fd) #[] cs] w λe w'=>e=Rt (.func (.func 72) #[] #[Pp (sO ⟨w.heap.size,0,nO⟩),Pp (sO ⟨w.heap.size+1+1,0,nO⟩),Pp (sO ⟨w.heap.size+1,0,nO⟩)])/\(Cells w' w.heap.size [I Y V,I Y F,U s c.length cap]/\Cells w' (w.heap.size+1) [U ls len lc]/\Cells w' (w.heap.size+1+1) [.func (.func fd) #[] cs])/\Below w.heap.size w w':=by
 go_enter Tryz.func37,Tryz.ntmps37;go_wp2;go_ret;refine⟨rfl,⟨(Cells.new w _ [_,_,_]).call (by go_grown),?_,?_⟩,by go_grown⟩
 ·have h:=Cells.new (w.alloc (Cc #[I Y V,I Y F,U s c.length cap] 24)) 34 [U ls len lc]
  rw[zA] at h;exact h.call (by go_grown)
 ·have h:=Cells.new ((w.alloc (Cc #[I Y V,I Y F,U s c.length cap] 24)).alloc (Cc #[U ls len lc] 34)) 63 [.func (.func fd) #[] cs]
  rw[zA,zA] at h;exact h
theorem uO {P:Program}{d:Code}{K:Act->World->Prop}{Q:Exit->Act->World->Prop}{a:Act}{w:World}(h:d.wp P (Exit.then K (λ_ _ _=>False)) a w):d.wp P (Exit.then K Q) a w:=wp_mono h λe a w q=>by
 cases e<;>first|exact q|exact q.elim
theorem rj {V F:Int}{c:List Ins}(h0:ag V F c=0):∀{L:List Pic},di V F c L=0->∀x∈L,an V F c x=0
 |[],_,x,hx=>by simp at hx
 |y::r,h,x,hx=>by
  unfold di at h;by_cases e:aq V F c [y]=0
  ·rw[if_pos e] at h
   rcases List.mem_cons.1 hx with rfl|hx
   ·exact(nF e).2
   ·exact rj h0 h x hx
  ·rw[if_neg e] at h
   exact absurd h e
theorem uS {V F:Int}{c:List Ins}{L:List Pic}(h0:ag V F c=0)(h:(if L.length=c.length+1 then di V F c L else 1)=0):XsOk V F c L:=by
 by_cases e:L.length=c.length+1
 ·rw[if_pos e] at h
  exact⟨e,rj h0 h⟩
 ·rw[if_neg e] at h
  cases h
theorem vr (k:Int)(w:World):Calls pG 36 #[I Y k] w λe w'=>e=Rt (Bb true)/\Below w.heap.size w w':=by
 go_enter Tryz.func36,Tryz.ntmps36;go_wp2;go_ret;exact⟨rfl,bR _ _⟩
def FitsAt (w:World)(V F:Int)(s:oA)(c:List Ins)(cap:Nat)(ls:oA)(len lc:Nat)(W:World):Prop:=Below w.heap.size w W/\Cells W w.heap.size [I Y V,I Y F,U s c.length cap]/\Cells W (w.heap.size+1) [U ls len lc]/\Cells W (w.heap.size+1+1) [Bb false]/\Cells W (w.heap.size+1+1+1) [I Y 0]
section
variable {w W W':World} {V F:Int} {s:oA} {c:List Ins} {cap:Nat} {ls:oA} {len lc:Nat}
theorem FitsAt.below (h:FitsAt w V F s c cap ls len lc W)(hb:Below W.heap.size W W'):FitsAt w V F s c cap ls len lc W':=⟨h.1.trans (hb.mono h.1.size),h.2.1.call hb,h.2.2.1.call hb,h.2.2.2.1.call hb,h.2.2.2.2.call hb⟩
theorem FitsAt.put {l:Nat}{o:Obj}(o':Obj)(h:FitsAt w V F s c cap ls len lc W)(ho:W.heap[l]? =sO o)(hc:o.isCells=false)(hw:o.isWalk=false)(hl:w.heap.size+1+1+1 < l):FitsAt w V F s c cap ls len lc (W.putObj l o'):=by
 have hz:W.heap.size<=(W.putObj l o').heap.size:=by simp[q7]
 exact⟨h.1.trans (belowK_b (w:=w) (lR _) W l o o' (by omega) ho hc hw),h.2.1.same (j9 (by omega)) hz,h.2.2.1.same (j9 (by omega)) hz,h.2.2.2.1.same (j9 (by omega)) hz,h.2.2.2.2.same (j9 (by omega)) hz⟩
end
theorem ol {w X:World}{D a a2:Nat}{b:Bool}{e:Int}{tmps:Array Value}(hD:X.heap[D]? =sO (.deferred (sO [])))(hR:Cells X a [Bb b])(hE:Cells X a2 [I Y e])(hB:Below w.heap.size w X)(hz:w.heap.size<=D)(h4:tmps[4]?.getD undef=Pp (sO ⟨a,0,nO⟩))(h5:tmps[5]?.getD undef=Pp (sO ⟨a2,0,nO⟩))(ha:a≠D)(ha2:a2≠D):
  bodyPostM Fence.wide 5 pG Tryz.f11 (λq w'=>q=Rt (Tu #[Bb b,I Y e])/\Below w.heap.size w w') .ret ⟨tmps,[{target:=.collected D,args:=#[]}]⟩ X:=by
 have hs:X.heap.size<=(X.putObj D (.deferred nO)).heap.size:=by simp[q7]
 have q0:=(hR.same (w':=X.putObj D (.deferred nO)) (j9 ha) hs).1 0 _ rfl;have q1:=(hE.same (w':=X.putObj D (.deferred nO)) (j9 ha2) hs).1 0 _ rfl;exact⟨by simp,.inl ⟨D,_,rfl,run_takeDeferred hD,Tu #[Bb b,I Y e],by simp[results,Tryz.results11,go_sem,h4,h5,q0,q1],rfl,hB.trans (belowK_b (w:=w) (lR _) X D _ _ hz hD rfl rfl)⟩⟩
theorem oC {c:List Ins}{L:List Pic}:∀{k:Nat},dY c (λ_:Bool=>L) (λ_ _=>true) (λ_ e t=>t&&aH e.pic (aI L e.tgt)) true k=(q5 k).all λi=>(bG c i (aI L i)).all λe=>aH e.pic (aI L e.tgt)
 |0=>rfl
 |k+1=>by
  have hf:∀(E:List Edg) (t:Bool),E.foldl (λt e=>t&&aH e.pic (aI L e.tgt)) t=(t&&E.all λe=>aH e.pic (aI L e.tgt)):=by
   intro E
   induction E with
   |nil=>intro t;simp
   |cons e r ih=>intro t;rw[List.foldl_cons,ih,List.all_cons,Bool.and_assoc]
  rw[iB,oC,z9,List.all_append];unfold ie;rw[if_pos rfl,hf];simp
def dN (V F:Int)(c:List Ins)(L:List Pic):Int:=if ag V F c=0 then(if L.length=c.length+1 then di V F c L else 1) else ag V F c
def c8 (V F:Int)(c:List Ins)(L:List Pic):Bool:=decide (dN V F c L=0)&&dP V F c L
theorem Bc {V F:Int}{s:oA}{c:List Ins}{cap:Nat}{ls:oA}{L:List Pic}{lc:Nat}{w w5 w6 W1:World}{fn:FuncId}{tmps:Array Value}{ps:Array Tmp}{assign body:Code}
  (hc:CodeAt w s c)(hL:XsAt w ls L)(hXO:XsOk V F c L)(h0:ag V F c=0)(hb:Below w6.heap.size w6 W1)(hl:LoopAt W1 (w6.heap.size+1) w6.heap.size (cr fn tmps ps assign body w6.heap.size .ready nO))(hF:FitsAt w V F s c cap ls L.length lc W1)
  (EP:Cells w6 w5.heap.size [I Y V,I Y F,U s c.length cap])(EL:Cells w6 (w5.heap.size+1) [U ls L.length lc])(EF:Cells w6 (w5.heap.size+1+1) [.func (.func 36) #[] #[]])
  (HALL:(dY c (λ_:Bool=>L) (λ_ _=>true) (λ_ e t=>t&&aH e.pic (aI L e.tgt)) true c.length=true->c8 V F c L=true)/\∀k e,k < c.length->e∈bG c k (aI L k)->aH e.pic (aI L e.tgt)=false->c8 V F c L=false)
  (hY:∀W (k:Nat) (e:Edg) vs vc fs fc,LoopAt W (w6.heap.size+1) w6.heap.size (cr fn tmps ps assign body w6.heap.size .ready nO)->FitsAt w V F s c cap ls L.length lc W->en V F c e->PicAt W e.pic vs fs->(e.pic.vars.length<=vc/\vc<=maxLen)->(e.pic.flds.length<=fc/\fc<=maxLen)->YieldAt Fence.wide (5 - 1 - 1) pG (w6.heap.size+1) #[I Y (k:Int),Ag #[I Y e.tgt,Bb e.pic.none,U vs e.pic.vars.length vc,U fs e.pic.flds.length fc]] W λr W'=>(r=Rt (Bb true)/\aH e.pic (aI L e.tgt)=true/\LoopAt W' (w6.heap.size+1) w6.heap.size (cr fn tmps ps assign body w6.heap.size .ready nO)/\FitsAt w V F s c cap ls L.length lc W'/\KeptC (λ_=>False) W W')\/(r=Rt (Bb false)/\aH e.pic (aI L e.tgt)=false/\LoopAt W' (w6.heap.size+1) w6.heap.size (cr fn tmps ps assign body w6.heap.size .done (sO .ret))/\FitsAt w V F s c cap ls L.length lc W')):
  CallsIn Fence.wide (5 - 1) pG 72 (#[.func (.yield (w6.heap.size+1)) #[] #[]]++#[Pp (sO ⟨w5.heap.size,0,nO⟩),Pp (sO ⟨w5.heap.size+1+1,0,nO⟩),Pp (sO ⟨w5.heap.size+1,0,nO⟩)]) W1 λe W'=>(∃v,e=Rt v)/\((LoopAt W' (w6.heap.size+1) w6.heap.size (cr fn tmps ps assign body w6.heap.size .ready nO)/\FitsAt w V F s c cap ls L.length lc W'/\c8 V F c L=true)\/∃c',LoopAt W' (w6.heap.size+1) w6.heap.size (cr fn tmps ps assign body w6.heap.size .done (sO c'))/\c'=.ret/\FitsAt w V F s c cap ls L.length lc W'/\c8 V F c L=false):=by
 refine(n7 (σ:=Bool) (V:=V) (F:=F) (s:=s) (c:=c) (cap:=cap) (pb:=w5.heap.size) (ib:=w5.heap.size+1+1) (lb:=w5.heap.size+1) (l:=w6.heap.size+1) (n:=5 - 1) (fd:=36) (lc:=lc) (ls:=ls) (cs:=#[]) (ar:=λp=>#[p]) (λ_=>by simp) (enters_of Tryz.func36 (by kernel_rfl) rfl) (pics:=λ_=>L) (due:=λ_ _=>true) (next:=λ_ e t=>t&&aH e.pic (aI L e.tgt))
  (St:=λb W=>b=true/\LoopAt W (w6.heap.size+1) w6.heap.size (cr fn tmps ps assign body w6.heap.size .ready nO)/\FitsAt w V F s c cap ls L.length lc W)
  (Stop:=λW=>LoopAt W (w6.heap.size+1) w6.heap.size (cr fn tmps ps assign body w6.heap.size .done (sO .ret))/\FitsAt w V F s c cap ls L.length lc W/\c8 V F c L=false)
  (Ch:=λ_=>False) h0 true W1 ?_ ?_ ?_ ?_ ?_ (λ_ h=>h.elim) id id id ⟨rfl,hl,hF⟩ (EP.call hb) (EF.call hb) (by rw[<-hXO.len];exact EL.call hb) (hc.below hF.1 (lR _))).mono ?_
 ·exact λt W W' h hb=>⟨h.1,h.2.1.below hb,h.2.2.below hb⟩
 ·exact λt W h=>⟨hL.below h.2.2.1 (lR _),hXO⟩
 ·exact λt W k h hk=>vr _ _
 ·rintro t W k e vs vc fs fc ⟨rfl,hl1,hF1⟩ hk ⟨t1,he⟩ hok hp hv hf
  refine(hY W k e vs vc fs fc hl1 hF1 hok hp.at hv hf).mono ?_;rintro r W' (⟨e1,e2,e3,e4,e5⟩|⟨e1,e2,e3,e4⟩)
  ·exact .inl ⟨e1,⟨by rw[e2];rfl,e3,e4⟩,e5⟩
  ·exact .inr ⟨e1,e3,e4,HALL.2 k e hk he e2⟩
 ·exact λW W' h hc=>(CellsKept.blocks h.1 λb hb=>h.2 b id hb).code hc
 ·rintro e W' ⟨hv,⟨⟨h1,h2,h3⟩,h4⟩|⟨h1,h2,h3⟩⟩
  ·exact⟨hv,.inl ⟨h2,h3,HALL.1 h1⟩⟩
  ·exact⟨hv,.inr ⟨_,h1,rfl,h2,h3⟩⟩
attribute [local go_sem] Oper.semAt_some
theorem rA (V F:Int)(s:oA)(c:List Ins)(cap:Nat)(ls:oA)(L:List Pic)(lc:Nat)(w:World)(hc:CodeAt w s c)(hL:XsAt w ls L)(hl:L.length<=maxLen):
  Calls pG 11 #[pv V F s c cap,U ls L.length lc] w λe w'=>e=Rt (Tu #[Bb (c8 V F c L),I Y (dN V F c L)])/\Below w.heap.size w w':=by
 refine callsIn_wide.1 (callsIn_of_wp_marks (n:=5) Tryz.func11 rfl trivial (wpIn_wide.2 ?_) rfl);simp only[Tryz.ntmps11,x5,j6,j7,x6,x7,x8,x9,J0,J3,q4,J4]
 go_upto_region 1 with fail
 have B0:Below w.heap.size w ((((w.alloc (Cc #[I Y V,I Y F,U s c.length cap] 24)).alloc (Cc #[U ls L.length lc] 34)).alloc (Cc #[Bb false] 4)).alloc (Cc #[I Y 0] 30)):=by go_grown
 have P0:Cells ((((w.alloc (Cc #[I Y V,I Y F,U s c.length cap] 24)).alloc (Cc #[U ls L.length lc] 34)).alloc (Cc #[Bb false] 4)).alloc (Cc #[I Y 0] 30)) w.heap.size [I Y V,I Y F,U s c.length cap]:=(Cells.new w _ [_,_,_]).call (by go_grown);have L0:Cells ((((w.alloc (Cc #[I Y V,I Y F,U s c.length cap] 24)).alloc (Cc #[U ls L.length lc] 34)).alloc (Cc #[Bb false] 4)).alloc (Cc #[I Y 0] 30)) (w.heap.size+1) [U ls L.length lc]:=by
  have h:=Cells.new (w.alloc (Cc #[I Y V,I Y F,U s c.length cap] 24)) 34 [U ls L.length lc];rw[zA] at h;exact h.call (by go_grown)
 have R0:Cells ((((w.alloc (Cc #[I Y V,I Y F,U s c.length cap] 24)).alloc (Cc #[U ls L.length lc] 34)).alloc (Cc #[Bb false] 4)).alloc (Cc #[I Y 0] 30)) (w.heap.size+1+1) [Bb false]:=by
  have h:=Cells.new ((w.alloc (Cc #[I Y V,I Y F,U s c.length cap] 24)).alloc (Cc #[U ls L.length lc] 34)) 4 [Bb false];rw[zA,zA] at h;exact h.call (by go_grown)
 have E0:Cells ((((w.alloc (Cc #[I Y V,I Y F,U s c.length cap] 24)).alloc (Cc #[U ls L.length lc] 34)).alloc (Cc #[Bb false] 4)).alloc (Cc #[I Y 0] 30)) (w.heap.size+1+1+1) [I Y 0]:=by
  have h:=Cells.new (((w.alloc (Cc #[I Y V,I Y F,U s c.length cap] 24)).alloc (Cc #[U ls L.length lc] 34)).alloc (Cc #[Bb false] 4)) 30 [I Y 0];rw[zA,zA,zA] at h;exact h
 have C0:=hc.below B0 (lR _);have X0:=hL.below B0 (lR _);have HC0:=aa hc;have HX0:=aa hL;clear hc hL;generalize ((((w.alloc (Cc #[I Y V,I Y F,U s c.length cap] 24)).alloc (Cc #[U ls L.length lc] 34)).alloc (Cc #[Bb false] 4)).alloc (Cc #[I Y 0] 30))=w0 at *;have p0:=P0.1 0 _ rfl;have p1:=P0.1 1 _ rfl;have p2:=P0.1 2 _ rfl;have HBG:=aa (uV V F s c cap w0 C0);go_wp2_with (go_at_call 29;fail);refine HBG.out.mono ?_;rintro e w1 ⟨⟨bs,bc,bf,be,rfl,PB,hbv,hbf⟩,hb1⟩;clear HBG p0 p1 p2;have B1:=B0.trans (hb1.mono B0.size);have P1:=P0.call hb1;have L1:=L0.call hb1;have R1:=R0.call hb1;have E1:=E0.call hb1;have C1:=C0.call hb1;have X1:=X0.below hb1 (lR _);clear P0 L0 R0 E0 C0 X0 B0 hb1;by_cases h0:ag V F c=0;rotate_left
 ·have HE:Hid (dN V F c L=ag V F c/\c8 V F c L=false):=by
   have h:dN V F c L=ag V F c:=by unfold dN;rw[if_neg h0]
   exact⟨h,by unfold c8;rw[h];simp[h0]⟩
  generalize (if ag V F c=0 then aQ V F c else cQ)=bg at *;generalize ag V F c=r at *;have f1:(r !=0)=true:=by simpa using h0
  clear h0
  go_upto_region 3 with fail
  have hba:Below w1.heap.size w1 (w1.alloc (Cc #[Bb bg.none,U bs bg.vars.length bc,U bf bg.flds.length be] 28)):=by go_grown
  have R2:=R1.call hba;have E2:=E1.call hba;have B2:=B1.trans (hba.mono B1.size);clear R1 E1 P1 L1 C1 X1 B1 PB hba;generalize w1.alloc (Cc #[Bb bg.none,U bs bg.vars.length bc,U bf bg.flds.length be] 28)=w2 at *;have r0:=R2.1 0 _ rfl;have r1:=R2.2.2 0;have s0:=E2.1 0 _ rfl;have s1:=E2.2.2 0;go_wp2;obtain⟨wq,ewq⟩:∃q,q=aO w2 (w.heap.size+1+1) 0 [Bb false]:=⟨_,rfl⟩;have PQ:=aZ R2 0 _ ewq;simp only[aO] at ewq;rw[<-ewq];obtain⟨wz,ewz⟩:∃q,q=aO wq (w.heap.size+1+1+1) 0 [I Y r]:=⟨_,rfl⟩;have PZ:=aZ (PQ.keep E2) 0 _ ewz;simp only[aO] at ewz;rw[<-ewz];have q0:=(PZ.keep PQ.cells).1 0 _ rfl;have q1:=PZ.cells.1 0 _ rfl;exact⟨Tu #[Bb false,I Y r],by simp[results,Tryz.results11,go_sem,q0,q1],by rw[HE.out.1,HE.out.2],PZ.low (by omega) (PQ.low (by omega) B2)⟩
 obtain⟨⟨hV1,hV8⟩,⟨hF0,hF3⟩,h60⟩:=bq h0;rw[if_pos h0] at PB hbv hbf;have HZ:Hid (ag V F c=0):=h0;have HBE:Hid (∀q:Int,dN V F c L=(if L.length=c.length+1 then di V F c L else 1)):=λ_=>by unfold dN;rw[if_pos h0]
 rw[h0,if_pos rfl];have hckb:an V F c (aQ V F c)=0:=(iH h0).ck;obtain⟨bg,ebg⟩:∃b,b=aQ V F c:=⟨_,rfl⟩;have HBG:=aa ebg;rw[<-ebg] at PB hbv hbf hckb |-;clear ebg h0;have hba:Below w1.heap.size w1 (w1.alloc (Cc #[Bb bg.none,U bs bg.vars.length bc,U bf bg.flds.length be] 28)):=by go_grown
 have G2:Cells (w1.alloc (Cc #[Bb bg.none,U bs bg.vars.length bc,U bf bg.flds.length be] 28)) w1.heap.size [Bb bg.none,U bs bg.vars.length bc,U bf bg.flds.length be]:=Cells.new w1 _ [_,_,_];have PB2:=PB.at.call hba;have P2:=P1.call hba;have L2:=L1.call hba;have R2:=R1.call hba;have E2:=E1.call hba;have C2:=C1.call hba;have X2:=X1.below hba (lR _);have B2:=B1.trans (hba.mono B1.size);have zn:=P1.2.1;have zl:=L1.2.1;have zr:=R1.2.1;have ze:=E1.2.1;clear P1 L1 R1 E1 C1 X1 B1 PB
 go_upto_region 4 with fail
 generalize w1.alloc (Cc #[Bb bg.none,U bs bg.vars.length bc,U bf bg.flds.length be] 28)=w2 at *;have HCA:=aa (rO V F s c cap ls L lc w2 C2 X2 hl h60);have p0:=P2.1 0 _ rfl;have p1:=P2.1 1 _ rfl;have p2:=P2.1 2 _ rfl;have l0:=L2.1 0 _ rfl;go_wp2_with (go_at_call 34;fail);refine HCA.out.mono ?_;rintro e w3 ⟨rfl,hb3⟩;clear HCA p0 p1 p2 l0;obtain⟨r,er⟩:∃r,r=(if L.length=c.length+1 then di V F c L else 1):=⟨_,rfl⟩;have HR:Hid (dN V F c L=r):=by show _=_;rw[HBE.out 0,er]
 have HXO:Hid (r=0->XsOk V F c L):=λh=>uS HZ.out (by rw[<-er];exact h);rw[<-er];clear er HBE;have P3:=P2.call hb3;have L3:=L2.call hb3;have R3:=R2.call hb3;have E3:=E2.call hb3;have G3:=G2.call hb3;have PB3:=PB2.call hb3;have C3:=C2.call hb3;have X3:=X2.below hb3 (lR _);have B3:=B2.trans (hb3.mono B2.size);clear P2 L2 R2 E2 G2 PB2 C2 X2 B2 hb3;by_cases hr:r=0;rotate_left
 ·have f1:(r !=0)=true:=by simpa using hr
  have HB:Hid (c8 V F c L=false):=by show _=_;unfold c8;rw[HR.out];simp[hr]
  clear hr;have r0:=R3.1 0 _ rfl;have r1:=R3.2.2 0;have s0:=E3.1 0 _ rfl;have s1:=E3.2.2 0;go_wp2;obtain⟨wq,ewq⟩:∃q,q=aO w3 (w.heap.size+1+1) 0 [Bb false]:=⟨_,rfl⟩;have PQ:=aZ R3 0 _ ewq;simp only[aO] at ewq;rw[<-ewq];obtain⟨wz,ewz⟩:∃q,q=aO wq (w.heap.size+1+1+1) 0 [I Y r]:=⟨_,rfl⟩;have PZ:=aZ (PQ.keep E3) 0 _ ewz;simp only[aO] at ewz;rw[<-ewz];have q0:=(PZ.keep PQ.cells).1 0 _ rfl;have q1:=PZ.cells.1 0 _ rfl;exact⟨Tu #[Bb false,I Y r],by simp[results,Tryz.results11,go_sem,q0,q1],by rw[HR.out,HB.out],PZ.low (by omega) (PQ.low (by omega) B3)⟩
 have hXO:=HXO.out hr;have HR0:Hid (dN V F c L=0):=by show _=_;rw[HR.out,hr]
 subst hr;have h0l:0 < L.length:=by rw[hXO.len];omega
 obtain⟨rb,ro,els,zrb,vx,vxc,fx,fxc,⟨q0,q1,q2⟩,hPx,hvx,hfx⟩:=X3 0 h0l;simp only[Nat.zero_mul,Nat.add_zero] at q0 q1 q2;obtain⟨x,ex⟩:∃x,x=L[0]:=⟨_,rfl⟩;have HEX:Hid (aI L 0=x):=by show _=_;rw[ex];exact dm h0l
 have hckx:an V F c x=0:=by rw[ex];exact hXO.ck _ (gM h0l)
 rw[<-ex] at q0 q1 q2 hPx hvx hfx;clear ex;subst els;have hck2:aq V F c [bg,x]=0:=by unfold aq;rw[if_pos HZ.out];unfold bx;rw[if_pos hckb];unfold bx;rw[if_pos hckx];rfl
 have HWI:Hid (∀wx,Below w3.heap.size w3 wx->Calls pG 35 #[pv V F s c cap,xv bg bs bc bf be,xv x vx vxc fx fxc] wx λe w'=>e=Rt (Bb (aH bg x))/\Below wx.heap.size wx w'):=λwx hb=>by
  have h:=gh V F s c cap bg bs bc bf be x vx vxc fx fxc wx (C3.below hb (lR _)) (PB3.below hb (lR _)) hbv hbf (hPx.below hb (lR _)) hvx hfx;rw[if_pos hck2] at h;exact h
 have HKZ:Hid (∀wx,Below w3.heap.size w3 wx->(wx.cell? ⟨w.heap.size,0,nO⟩=sO (I Y V)/\wx.cell? ⟨w.heap.size,1,nO⟩=sO (I Y F)/\wx.cell? ⟨w.heap.size,2,nO⟩=sO (U s c.length cap))/\(wx.cell? ⟨w1.heap.size,0,nO⟩=sO (Bb bg.none)/\wx.cell? ⟨w1.heap.size,1,nO⟩=sO (U bs bg.vars.length bc)/\wx.cell? ⟨w1.heap.size,2,nO⟩=sO (U bf bg.flds.length be))/\wx.cell? ⟨w.heap.size+1,0,nO⟩=sO (U (sO ⟨rb,ro,nO⟩) L.length lc)/\(wx.cell? ⟨rb,ro,nO⟩=sO (Bb x.none)/\wx.cell? ⟨rb,ro+1,nO⟩=sO (U vx x.vars.length vxc)/\wx.cell? ⟨rb,ro+2,nO⟩=sO (U fx x.flds.length fxc))):=λwx hb=>by
  have p:=P3.call hb;have q:=L3.call hb;have g:=G3.call hb;exact⟨⟨p.1 0 _ rfl,p.1 1 _ rfl,p.1 2 _ rfl⟩,⟨g.1 0 _ rfl,g.1 1 _ rfl,g.1 2 _ rfl⟩,q.1 0 _ rfl,by rw[hb.cell (by simp only;exact zrb)];exact q0,by rw[hb.cell (by simp only;exact zrb)];exact q1,by rw[hb.cell (by simp only;exact zrb)];exact q2⟩
 have B34:Below w3.heap.size w3 w3.drew:=(bR _ _).drew;have m0:(0:Int) < (L.length:Int):=by omega
 have HIB:Hid (aH (aQ V F c) (aI L 0)=aH bg x):=by show _=_;rw[<-HBG.out,HEX.out]
 generalize aH bg x=ib at *
 go_upto_region 7 with fail
 refine uO ?_;refine am (S:=(λwx=>(wx.cell? ⟨w.heap.size,0,nO⟩=sO (I Y V)/\wx.cell? ⟨w.heap.size,1,nO⟩=sO (I Y F)/\wx.cell? ⟨w.heap.size,2,nO⟩=sO (U s c.length cap))/\(wx.cell? ⟨w1.heap.size,0,nO⟩=sO (Bb bg.none)/\wx.cell? ⟨w1.heap.size,1,nO⟩=sO (U bs bg.vars.length bc)/\wx.cell? ⟨w1.heap.size,2,nO⟩=sO (U bf bg.flds.length be))/\wx.cell? ⟨w.heap.size+1,0,nO⟩=sO (U (sO ⟨rb,ro,nO⟩) L.length lc)/\(wx.cell? ⟨rb,ro,nO⟩=sO (Bb x.none)/\wx.cell? ⟨rb,ro+1,nO⟩=sO (U vx x.vars.length vxc)/\wx.cell? ⟨rb,ro+2,nO⟩=sO (U fx x.flds.length fxc)))) [] (by kernel_rfl) (HKZ.out _ B34) (λhHeld=> ?_);generalize w3.drew=w4 at *;refine vZ 0 ?_ ?_;refine vZ 1 ?_ ?_;refine vZ 2 ?_ ?_;refine vZ 3 ?_ ?_;refine vZ 4 ?_ ?_;refine ai (i:=5) rfl (by kernel_rfl) (λK hK=> ?_);go_simp;go_at_call 35;refine(HWI.out w4 B34).mono ?_;rintro e w5 ⟨rfl,hb5⟩;go_wp2_with fail;refine hK.out _ _ (HKZ.out _ (B34.trans (hb5.mono B34.size))) (λhHeld=> ?_);clear hK K;refine sm ?_;refine vZ 6 ?_ ?_;refine aj (by kernel_rfl) ?_ _;have hb35:=B34.trans (hb5.mono B34.size);have P5:=P3.call hb35;have L5:=L3.call hb35;have R5:=R3.call hb35;have E5:=E3.call hb35;have B5:=B3.trans (hb35.mono B3.size);have C5:=C3.call hb35;have X5:=X3.below hb35 (lR _);clear P3 L3 R3 E3 G3 PB3 C3 X3 B3 hb35 B34 hb5 HKZ HWI hPx hvx hfx hckx hckb hck2 q0 q1 q2 hHeld;rcases q6 ib with hib|hib;rotate_left
 ·have HB:Hid (c8 V F c L=false):=by show _=_;unfold c8 dP;rw[HIB.out,hib];simp
  rw[hib];clear hib;have r0:=R5.1 0 _ rfl;have r1:=R5.2.2 0;have s0:=E5.1 0 _ rfl;have s1:=E5.2.2 0;go_wp2;obtain⟨wq,ewq⟩:∃q,q=aO w5 (w.heap.size+1+1) 0 [Bb false]:=⟨_,rfl⟩;have PQ:=aZ R5 0 _ ewq;simp only[aO] at ewq;rw[<-ewq];obtain⟨wz,ewz⟩:∃q,q=aO wq (w.heap.size+1+1+1) 0 [I Y 0]:=⟨_,rfl⟩;have PZ:=aZ (PQ.keep E5) 0 _ ewz;simp only[aO] at ewz;rw[<-ewz];have q0:=(PZ.keep PQ.cells).1 0 _ rfl;have q1:=PZ.cells.1 0 _ rfl;exact⟨Tu #[Bb false,I Y 0],by simp[results,Tryz.results11,go_sem,q0,q1],by rw[HR0.out,HB.out],PZ.low (by omega) (PQ.low (by omega) B5)⟩
 have HI:=aa hib;rw[hib];clear hib;have p0:=P5.1 0 _ rfl;have p1:=P5.1 1 _ rfl;have p2:=P5.1 2 _ rfl;have l0:=L5.1 0 _ rfl;go_wp2_with (go_at_call 37;fail);refine(nS V F s c cap _ L.length lc 36 #[] w5).mono ?_;rintro e w6 ⟨rfl,⟨EP,EL,EF⟩,hb6⟩;clear p0 p1 p2 l0;have HFA:Hid (FitsAt w V F s c cap (sO ⟨rb,ro,nO⟩) L.length lc w6):=⟨B5.trans (hb6.mono B5.size),P5.call hb6,L5.call hb6,R5.call hb6,E5.call hb6⟩;have z5:=E5.2.1;have z6:=EF.2.1;have HALL:Hid ((dY c (λ_:Bool=>L) (λ_ _=>true) (λ_ e t=>t&&aH e.pic (aI L e.tgt)) true c.length=true->c8 V F c L=true)/\∀k e,k < c.length->e∈bG c k (aI L k)->aH e.pic (aI L e.tgt)=false->c8 V F c L=false):=by
  have e:c8 V F c L=(q5 c.length).all λi=>(bG c i (aI L i)).all λe=>aH e.pic (aI L e.tgt):=by unfold c8 dP;rw[HR0.out,HIB.out,HI.out];simp
  rw[oC,e];refine⟨id,λk q hk hq hf=> ?_⟩;rw[J7];exact⟨k,List.mem_range.2 hk,by rw[Bool.not_eq_true,J7];exact⟨q,hq,by rw[hf];decide⟩⟩
 have HLN:=aa hXO;clear P5 L5 R5 E5 B5 C5 X5 hb6 HXO hXO;go_wp2;refine wpIn_wide.1 (oL (n:=5) (gf:=72) (lb:=#[Pp (sO ⟨w5.heap.size,0,nO⟩),Pp (sO ⟨w5.heap.size+1+1,0,nO⟩),Pp (sO ⟨w5.heap.size+1,0,nO⟩)]) rfl (enters_of Tryz.func72 (by kernel_rfl) rfl) (λ_ _ _ W=>FitsAt w V F s c cap (sO ⟨rb,ro,nO⟩) L.length lc W/\c8 V F c L=true) (λ_ _ _ c' W=>c'=.ret/\FitsAt w V F s c cap (sO ⟨rb,ro,nO⟩) L.length lc W/\c8 V F c L=false) ?hit ?hdone ?hstop)
 case hdone=>
  rintro r W hl ⟨hF,hfin⟩ r';have hF2:=hF.put r' hl.lp rfl rfl (by omega);have hD:(W.putObj (w6.heap.size+1) r').heap[w6.heap.size]? =sO (.deferred (sO [])):=(j9 (by omega)).trans hl.dfr;have HFIN:=aa hfin;clear hfin hF hl HALL HFA EP EL EF;generalize W.putObj (w6.heap.size+1) r'=X at *;obtain⟨hB,-,-,hR,hE⟩:=hF2;have r0:=hR.1 0 _ rfl;have r1:=hR.2.2 0;have s0:=hE.1 0 _ rfl;have s1:=hE.2.2 0;go_simp;go_wp2;obtain⟨wq,ewq⟩:∃q,q=aO X (w.heap.size+1+1) 0 [Bb true]:=⟨_,rfl⟩;have PQ:=aZ hR 0 _ ewq;simp only[aO] at ewq;rw[<-ewq];obtain⟨wz,ewz⟩:∃q,q=aO wq (w.heap.size+1+1+1) 0 [I Y 0]:=⟨_,rfl⟩;have PZ:=aZ (PQ.keep hE) 0 _ ewz;simp only[aO] at ewz;rw[<-ewz];have hR':Cells wz (w.heap.size+1+1) [Bb (c8 V F c L)]:=by rw[HFIN.out];exact PZ.keep PQ.cells
  have hE':Cells wz (w.heap.size+1+1+1) [I Y (dN V F c L)]:=by rw[HR0.out];exact PZ.cells
  exact ol (((PZ.far _ (by omega)).trans (PQ.far _ (by omega))).trans hD) hR' hE' (PZ.low (by omega) (PQ.low (by omega) hB)) (by omega) rfl rfl (by omega) (by omega)
 case hstop=>
  rintro r c' W hl ⟨rfl,hF,hfin⟩ r';have hF2:=hF.put r' hl.lp rfl rfl (by omega);have hD:(W.putObj (w6.heap.size+1) r').heap[w6.heap.size]? =sO (.deferred (sO [])):=(j9 (by omega)).trans hl.dfr;have HFIN:=aa hfin;clear hfin hF hl HALL HFA EP EL EF;generalize W.putObj (w6.heap.size+1) r'=X at *;obtain⟨hB,-,-,hR,hE⟩:=hF2;have hR':Cells X (w.heap.size+1+1) [Bb (c8 V F c L)]:=by rw[HFIN.out];exact hR
  have hE':Cells X (w.heap.size+1+1+1) [I Y (dN V F c L)]:=by rw[HR0.out];exact hE
  exact wpIn_ret (ol hD hR' hE' hB (by omega) rfl rfl (by omega) (by omega))
 case hit=>
  intro fn W1 hl hbW;refine Bc HC0.out HX0.out HLN.out HZ.out hbW hl (HFA.out.below hbW) EP EL EF HALL.out ?_;clear hl hbW HALL HFA EP EL EF W1;intro W k e vs vc fs fc hl hF hok hp hv hf;refine tr hl rfl ?_
  gi_wp2
  have hba:Below W.heap.size W (W.alloc (Cc #[I Y e.tgt,Bb e.pic.none,U vs e.pic.vars.length vc,U fs e.pic.flds.length fc] 56)):=by go_grown
  have hbox:Cells (W.alloc (Cc #[I Y e.tgt,Bb e.pic.none,U vs e.pic.vars.length vc,U fs e.pic.flds.length fc] 56)) W.heap.size [I Y e.tgt,Bb e.pic.none,U vs e.pic.vars.length vc,U fs e.pic.flds.length fc]:=Cells.new W _ [_,_,_,_];have hlz:=(q8.1 hl.lp).1;have Hl:=aa hl;refine mF hl (by omega) hba ?_;clear hl;intro W2 hl2 hO;have Fa:=hF.below hba;have zO:=hO.size;have za:=hba.size;have FB2:=hO.low (by omega) Fa.1;have FP2:=Fa.2.1.same (hO.far _ (by omega)) (by omega);have FL2:=Fa.2.2.1.same (hO.far _ (by omega)) (by omega);have FR2:=Fa.2.2.2.1.same (hO.far _ (by omega)) (by omega);have FE2:=Fa.2.2.2.2.same (hO.far _ (by omega)) (by omega);have BX2:=hbox.same (hO.far _ (by omega)) (by omega);have hp2:=hO.kept.pic (hp.call hba);have X2:=HX0.out.below FB2 (lR _);have C2:=HC0.out.below FB2 (lR _);obtain⟨q,hq⟩:=q9 hok.2.1;have hqL:q < L.length:=by have:=HLN.out.len;have:=hok.2.2;omega
  obtain⟨rb',ro',els,zrb,vy,vyc,fy,fyc,⟨q0,q1,q2⟩,hPy,hvy,hfy⟩:=X2 q hqL;cases els;obtain⟨y,ey⟩:∃y,y=L[q]:=⟨_,rfl⟩;have HEY:Hid (aI L e.tgt=y):=by show _=_;rw[hq,ey];exact dm hqL
  have hcky:an V F c y=0:=by rw[ey];exact HLN.out.ck _ (gM hqL)
  rw[<-ey] at q0 q1 q2 hPy hvy hfy;clear ey;have hck2:aq V F c [e.pic,y]=0:=by unfold aq;rw[if_pos HZ.out];unfold bx;rw[if_pos hok.1];unfold bx;rw[if_pos hcky];rfl
  have HWI:Hid (∀wx,Below W2.heap.size W2 wx->Calls pG 35 #[pv V F s c cap,xv e.pic vs vc fs fc,xv y vy vyc fy fyc] wx λe' w'=>e'=Rt (Bb (aH e.pic y))/\Below wx.heap.size wx w'):=λwx hb=>by
   have h:=gh V F s c cap e.pic vs vc fs fc y vy vyc fy fyc wx (C2.below hb (lR _)) (hp2.below hb (lR _)) hv hf (hPy.below hb (lR _)) hvy hfy;rw[if_pos hck2] at h;exact h
  rw[hq] at BX2;have HKZ:Hid (∀wx,Below W2.heap.size W2 wx->(wx.cell? ⟨w.heap.size,0,nO⟩=sO (I Y V)/\wx.cell? ⟨w.heap.size,1,nO⟩=sO (I Y F)/\wx.cell? ⟨w.heap.size,2,nO⟩=sO (U s c.length cap))/\(wx.cell? ⟨W.heap.size,0,nO⟩=sO (I Y (q:Int))/\wx.cell? ⟨W.heap.size,1,nO⟩=sO (Bb e.pic.none)/\wx.cell? ⟨W.heap.size,2,nO⟩=sO (U vs e.pic.vars.length vc)/\wx.cell? ⟨W.heap.size,3,nO⟩=sO (U fs e.pic.flds.length fc))/\wx.cell? ⟨w.heap.size+1,0,nO⟩=sO (U (sO ⟨rb,ro,nO⟩) L.length lc)/\(wx.cell? ⟨rb,ro+q * 3,nO⟩=sO (Bb y.none)/\wx.cell? ⟨rb,ro+q * 3+1,nO⟩=sO (U vy y.vars.length vyc)/\wx.cell? ⟨rb,ro+q * 3+2,nO⟩=sO (U fy y.flds.length fyc))):=λwx hb=>by
   have p:=FP2.call hb;have l:=FL2.call hb;have g:=BX2.call hb;exact⟨⟨p.1 0 _ rfl,p.1 1 _ rfl,p.1 2 _ rfl⟩,⟨g.1 0 _ rfl,g.1 1 _ rfl,g.1 2 _ rfl,g.1 3 _ rfl⟩,l.1 0 _ rfl,by rw[hb.cell (by simp only;exact zrb)];exact q0,by rw[hb.cell (by simp only;exact zrb)];exact q1,by rw[hb.cell (by simp only;exact zrb)];exact q2⟩
  have B34:Below W2.heap.size W2 W2.drew:=(bR _ _).drew;have m0:(0:Int)<=(q:Int):=by omega
  have m1:(q:Int) < (L.length:Int):=by omega
  have HIB:Hid (aH e.pic (aI L e.tgt)=aH e.pic y):=by show _=_;rw[HEY.out]
  generalize aH e.pic y=ib at *;refine wpIn_block (wpIn_seq (lS ?_));refine u9 (S:=(λwx=>(wx.cell? ⟨w.heap.size,0,nO⟩=sO (I Y V)/\wx.cell? ⟨w.heap.size,1,nO⟩=sO (I Y F)/\wx.cell? ⟨w.heap.size,2,nO⟩=sO (U s c.length cap))/\(wx.cell? ⟨W.heap.size,0,nO⟩=sO (I Y (q:Int))/\wx.cell? ⟨W.heap.size,1,nO⟩=sO (Bb e.pic.none)/\wx.cell? ⟨W.heap.size,2,nO⟩=sO (U vs e.pic.vars.length vc)/\wx.cell? ⟨W.heap.size,3,nO⟩=sO (U fs e.pic.flds.length fc))/\wx.cell? ⟨w.heap.size+1,0,nO⟩=sO (U (sO ⟨rb,ro,nO⟩) L.length lc)/\(wx.cell? ⟨rb,ro+q * 3,nO⟩=sO (Bb y.none)/\wx.cell? ⟨rb,ro+q * 3+1,nO⟩=sO (U vy y.vars.length vyc)/\wx.cell? ⟨rb,ro+q * 3+2,nO⟩=sO (U fy y.flds.length fyc)))) [] (by kernel_rfl) (by simp[lV]) Ap (HKZ.out _ B34) (λhHeld=> ?_);generalize W2.drew=w4 at *;refine vZ 0 ?_ ?_;refine vZ 1 ?_ ?_;refine vZ 2 ?_ ?_;refine vZ 3 ?_ ?_;refine vZ 4 ?_ ?_;refine vZ 5 ?_ ?_;refine vZ 6 ?_ ?_;refine vZ 7 ?_ ?_;refine ai (i:=8) rfl (by kernel_rfl) (λK hK=> ?_);go_simp;go_at_call 35;refine(HWI.out w4 B34).mono ?_;rintro e5 w5' ⟨rfl,hb5⟩;go_wp2_with fail;refine hK.out _ _ (HKZ.out _ (B34.trans (hb5.mono B34.size))) (λhHeld=> ?_);clear hK K;refine sm ?_;refine vZ 9 ?_ ?_;refine aj (by kernel_rfl) ?_ _;have hb25:=B34.trans (hb5.mono B34.size);have F5:FitsAt w V F s c cap (sO ⟨rb,ro,nO⟩) L.length lc w5':=FitsAt.below ⟨FB2,FP2,FL2,FR2,FE2⟩ hb25;have hl5:=hl2.below hb25;have HKE:=aa (wZ Hl.out hba hO hb25);clear Hl hba hO hb25 B34 hb5 hHeld HKZ HWI hcky hck2 hPy hvy hfy q0 q1 q2 zrb FB2 FP2 FL2 FR2 FE2 BX2 hp2 X2 C2 hbox Fa hl2 HEY hp hv hf hok;rcases q6 ib with hib|hib
  ·subst hib
   refine wpIn_cond_false rfl (wpIn_skip ?_);exact⟨hl5,HIB.out,hl5.put (by omega) _,F5.put _ hl5.lp rfl rfl (by omega),HKE.out.1,λb _ hb=>HKE.out.2 b hb⟩
  ·subst hib
   refine wpIn_cond_true rfl ?_;have Hl5:=aa hl5;clear hl5;obtain⟨B5,P5,L5,R5,E5⟩:=F5;have r0:=R5.1 0 _ rfl;have r1:=R5.2.2 0;have s0:=E5.1 0 _ rfl;have s1:=E5.2.2 0
   gi_wp2
   obtain⟨wq,ewq⟩:∃q,q=aO w5' (w.heap.size+1+1) 0 [Bb false]:=⟨_,rfl⟩;have PQ:=aZ R5 0 _ ewq;simp only[aO] at ewq;rw[<-ewq];obtain⟨wz,ewz⟩:∃q,q=aO wq (w.heap.size+1+1+1) 0 [I Y 0]:=⟨_,rfl⟩;have PZ:=aZ (PQ.keep E5) 0 _ ewz;simp only[aO] at ewz;rw[<-ewz];have hl6:=Hl5.out.far ((PZ.far _ (by omega)).trans (PQ.far _ (by omega))) ((PZ.far _ (by omega)).trans (PQ.far _ (by omega)));have F6:FitsAt w V F s c cap (sO ⟨rb,ro,nO⟩) L.length lc wz:=⟨PZ.low (by omega) (PQ.low (by omega) B5),PZ.keep (PQ.keep P5),PZ.keep (PQ.keep L5),PZ.keep PQ.cells,PZ.cells⟩;exact⟨hl6,HIB.out,hl6.put (by omega) _,F6.put _ hl6.lp rfl rfl (by omega)⟩
end
section
open Go.RowKit
attribute [local go_sem ↓] Go.wp_at_zero Go.wp_at_succ
theorem hU:SolvedAt 1 0 c7 1:=by
 refine⟨λk hk=> ?_,by decide+kernel⟩;have:k=0:=by omega
 subst this;decide+kernel
theorem ku:ag 1 0 c7=0:=by decide+kernel
theorem p6 {V F:Int}{c:List Ins}(h0:ag V F c=0):∀{L:List Pic},(∀x∈L,an V F c x=0)->di V F c L=0
 |[],_=>rfl
 |y::r,h=>by
  have e:aq V F c [y]=0:=by unfold aq;rw[if_pos h0];unfold bx;rw[if_pos (h y (by simp))];rfl
  unfold di;rw[if_pos e];exact p6 h0 λx hx=>h x (by simp[hx])
theorem Aq {V F:Int}{c:List Ins}{m:Nat}(h0:ag V F c=0)(h:SolvedAt V F c m):dN V F c (aK V F c m)=0/\c8 V F c (aK V F c m)=true:=by
 have hx:=cV h0 m;have e:dN V F c (aK V F c m)=0:=by unfold dN;rw[if_pos h0,if_pos hx.len];exact p6 h0 hx.ck
 refine⟨e,?_⟩;unfold c8;rw[e,(iE h0 h).2];rfl
theorem yJ (V F:Int)(s:oA)(c:List Ins)(cap:Nat)(ls:oA)(pl pc dc sb db vb nb k:Nat)(n:Int)(D:List Int)(w:World)(hV:Cells w vb [Pp (sO ⟨sb,0,nO⟩)])(hN:Cells w nb [I Y n])(hst:Cells w sb [I Y V,I Y F,U s c.length cap,U ls pl pc,U (sO ⟨db,0,nO⟩) D.length dc])(hD:DRow w db D)(hk:k < D.length)(hm:D.length<=maxLen):
  Calls pG 68 #[I Y (k:Int),Pp (sO ⟨vb,0,nO⟩),Pp (sO ⟨nb,0,nO⟩)] w λe w'=>e=Rt (Bb (D[k]==n))/\Below w.heap.size w w':=by
 have HS:Hid (w.drew.cell? ⟨vb,0,nO⟩=sO (Pp (sO ⟨sb,0,nO⟩))/\w.drew.cell? ⟨nb,0,nO⟩=sO (I Y n)/\w.drew.cell? ⟨sb,4,nO⟩=sO (U (sO ⟨db,0,nO⟩) D.length dc)/\w.drew.cell? ⟨db,k,nO⟩=sO (I Y D[k])):=by
  have b:Below w.heap.size w w.drew:=(bR _ _).drew;exact⟨(hV.call b).1 0 _ rfl,(hN.call b).1 0 _ rfl,(hst.call b).1 4 _ rfl,(hD.call b).get hk⟩
 have B34:Below w.heap.size w w.drew:=(bR _ _).drew;generalize D[k]=d at *;have m0:(0:Int)<=(k:Int):=by omega
 have m1:(k:Int) < (D.length:Int):=by omega
 go_enter Tryz.func68,Tryz.ntmps68
 go_upto_region 1 with fail
 refine am (S:=(λwx=>wx.cell? ⟨vb,0,nO⟩=sO (Pp (sO ⟨sb,0,nO⟩))/\wx.cell? ⟨nb,0,nO⟩=sO (I Y n)/\wx.cell? ⟨sb,4,nO⟩=sO (U (sO ⟨db,0,nO⟩) D.length dc)/\wx.cell? ⟨db,k,nO⟩=sO (I Y d))) [] (by kernel_rfl) HS.out (λhHeld=> ?_);refine vZ 0 ?_ ?_;refine vZ 1 ?_ ?_;refine vZ 2 ?_ ?_;refine vZ 3 ?_ ?_;refine vZ 4 ?_ ?_;refine vZ 5 ?_ ?_;refine vZ 6 ?_ ?_;refine vZ 7 ?_ ?_;refine vZ 8 ?_ ?_;refine vZ 9 ?_ ?_;refine aj (by kernel_rfl) ?_ _;go_wp2;go_ret;exact⟨rfl,B34⟩
theorem Dn {c:List Ins}{n:Int}{t:List Pic×List Int×Bool}{k:Nat}:ie c (λt:List Pic×List Int×Bool=>t.1) (λt k=>t.2.1.getD k 0==n) (λk e t=>cd n k t e) t k=eX c n t k:=by
 unfold ie eX;by_cases h:t.2.1.getD k 0=n
 ·rw[if_pos h,if_pos (by simpa using h)]
 ·rw[if_neg h,if_neg (by simpa using h)]
theorem sM {c:List Ins}{n:Int}{t:List Pic×List Int×Bool}:∀{k:Nat},dY c (λt:List Pic×List Int×Bool=>t.1) (λt k=>t.2.1.getD k 0==n) (λk e t=>cd n k t e) t k=(q5 k).foldl (eX c n) t
 |0=>rfl
 |k+1=>by rw[iB,sM,Dn,z9,x4];rfl
theorem Az {V F:Int}{c:List Ins}(h0:ag V F c=0){n i:Int}{t:List Pic×List Int×Bool}{e:Edg}(h:XsOk V F c t.1)(hd:t.2.1.length=c.length+1)(he:en V F c e):XsOk V F c (cd n i t e).1/\(cd n i t e).2.1.length=c.length+1:=by
 obtain⟨b1,-⟩:=kj (n:=n) (i:=i) (s:=(t.1,t.2.2)) h0 h he;have e1:(bD n i (t.1,t.2.2) e).1=(cd n i t e).1:=by rw[<-iU]
 rw[e1] at b1;refine⟨b1,?_⟩;unfold cd;split
 ·exact hd
 ·simpa using hd
theorem KeptC.code {Ch:Nat->Prop}{W W':World}{s:oA}{c:List Ins}(h:KeptC Ch W W')(hs:∀a,s=sO a->¬Ch a.block)(hc:CodeAt W s c):CodeAt W' s c:=by
 rcases hc with hi|⟨b,off,e,hb,hc⟩
 ·exact .inl hi
 ·refine .inr ⟨b,off,e,lL hb h.1,λk hk=> ?_⟩
  obtain⟨h0,h1,h2,h3,h4,h5⟩:=hc k hk;have hB:=h.2 b (hs _ e) hb;refine⟨?_,?_,?_,?_,?_,?_⟩<;>rw[J8 hB]<;>assumption
theorem KeptC.mono {Ch Ch':Nat->Prop}{W W':World}(h:KeptC Ch W W')(hs:∀b,Ch b->Ch' b):KeptC Ch' W W':=⟨h.1,λb hb hlt=>h.2 b (λhc=>hb (hs b hc)) hlt⟩
theorem yi {w:World}{s:oA}{c:List Ins}{pb db cb:Nat}(hC:CodeAt w s c)(hsC:c≠[]->∀a,s=sO a->a.block≠pb/\a.block≠db)(hcb:w.heap.size<=cb):∀W W',KeptC (λb=>b=pb\/b=db\/b=cb) W W'->CodeAt W s c->CodeAt W' s c:=by
 by_cases hcn:c=[]
 ·exact λ_ _ _ _=>.inl hcn
 ·rcases hC with h|⟨b,off,e,hb,-⟩
  ·exact absurd h hcn
  intro W W' hk h;refine hk.code (λa ha=> ?_) h;have h1:=hsC hcn a ha;have h2:a.block=b:=by rw[e] at ha;cases ha;rfl
  rintro (h|h|h)
  ·exact h1.1 h
  ·exact h1.2 h
  ·omega
theorem PicOn.drop {S:Nat->Prop}{W:World}{x:Pic}{vs fs:oA}{l:Nat}{r:Loop}(h:PicOn S W x vs fs)(hl:W.heap[l]? =sO (.loop r)):PicOn (λb=>S b/\b≠l) W x vs fs:=λw2 h2 hz=>by
 have hlz:=(q8.1 hl).1;have h3:PicAt (w2.putObj l (.loop r)) x vs fs:=h _ (λb hb hlt=>by
  by_cases e:b=l
  ·subst e;rw[J5 (by omega),hl]
  ·rw[j9 e];exact h2 b ⟨hb,e⟩ hlt) (by simpa[q7] using hz)
 refine CellsKept.pic (W:=w2.putObj l (.loop r)) ⟨by simp[q7],λb k v hv=> ?_⟩ h3;by_cases e:b=l
 ·subst e
  exfalso;have e2:(w2.putObj b (.loop r)).heap[b]? =sO (.loop r):=J5 (by omega);simp only[World.cell?,e2] at hv;cases hv
 ·rw[J8 (a:=⟨b,k,nO⟩) (j9 e)] at hv
  exact hv
theorem BO {F:Fence}{m:Nat}{P:Program}{c d:Code}{Q:Exit->Act->World->Prop}{a:Act}{w:World}(h:∀K:Act->World->Prop,Hid (∀a w,d.wpIn F m P Q a w->K a w)->c.wpIn F m P (Exit.then K (λ_ _ _=>False)) a w):(c.seq d).wpIn F m P Q a w:=wpIn_seq (lS (h _ λ_ _ h=>h))
theorem tv {V F:Int}{s:oA}{c:List Ins}{cap:Nat}{x y:Pic}{vs1:oA}{vc1:Nat}{fs1:oA}{fc1:Nat}{vs2:oA}{vc2:Nat}{fs2:oA}{fc2:Nat}{w:World}(h0:ag V F c=0)(hx0:an V F c x=0)(hy0:an V F c y=0)(hcd:CodeAt w s c)(hx:PicAt w x vs1 fs1)(h1:x.vars.length<=vc1/\vc1<=maxLen)(h2:x.flds.length<=fc1/\fc1<=maxLen)(hy:PicAt w y vs2 fs2)(h3:y.vars.length<=vc2/\vc2<=maxLen)(h4:y.flds.length<=fc2/\fc2<=maxLen):Calls pG 87 #[pv V F s c cap,xv x vs1 vc1 fs1 fc1,xv y vs2 vc2 fs2 fc2] w λe w'=>gi w.heap.size w' e (aw (ac false) x y) 0/\Below w.heap.size w w':=by
 have hk:aq V F c [x,y]=0:=by unfold aq;rw[if_pos h0];unfold bx;rw[if_pos hx0];unfold bx;rw[if_pos hy0];rfl
 have h:=DW V F s c cap x vs1 vc1 fs1 fc1 y vs2 vc2 fs2 fc2 w hcd hx h1 h2 hy h3 h4;rw[if_pos hk,hk,(fX h0 hx0 hy0).1] at h;exact h
theorem Bt {V F:Int}{s:oA}{c:List Ins}{cap:Nat}{x y:Pic}{vs1:oA}{vc1:Nat}{fs1:oA}{fc1:Nat}{vs2:oA}{vc2:Nat}{fs2:oA}{fc2:Nat}{w:World}(h0:ag V F c=0)(hx0:an V F c x=0)(hy0:an V F c y=0)(hcd:CodeAt w s c)(hx:PicAt w x vs1 fs1)(h1:x.vars.length<=vc1/\vc1<=maxLen)(h2:x.flds.length<=fc1/\fc1<=maxLen)(hy:PicAt w y vs2 fs2)(h3:y.vars.length<=vc2/\vc2<=maxLen)(h4:y.flds.length<=fc2/\fc2<=maxLen):Calls pG 101 #[pv V F s c cap,xv x vs1 vc1 fs1 fc1,xv y vs2 vc2 fs2 fc2] w λe w'=>gi w.heap.size w' e (aw (ac true) x y) 0/\Below w.heap.size w w':=by
 have hk:aq V F c [x,y]=0:=by unfold aq;rw[if_pos h0];unfold bx;rw[if_pos hx0];unfold bx;rw[if_pos hy0];rfl
 have h:=DN V F s c cap x vs1 vc1 fs1 fc1 y vs2 vc2 fs2 fc2 w hcd hx h1 h2 hy h3 h4;rw[if_pos hk,hk,(fX h0 hx0 hy0).2] at h;exact h
structure RndAt (S:Nat->Prop) (w:World) (V F:Int) (s:oA) (c:List Ins) (cap sb pb pc db dc:Nat) (n:Int) (t:List Pic×List Int×Bool) (W:World):Prop where
 vs:Cells W w.heap.size [Pp (sO ⟨sb,0,nO⟩)]
 vn:Cells W (w.heap.size+1) [I Y n]
 vc:Cells W (w.heap.size+1+1) [Bb t.2.2]
 st:Cells W sb [I Y V,I Y F,U s c.length cap,U (sO ⟨pb,0,nO⟩) t.1.length pc,U (sO ⟨db,0,nO⟩) t.2.1.length dc]
 pr:PRow S W pb t.1
 dr:DRow W db t.2.1
 xs:XsOk V F c t.1
 ln:t.2.1.length=c.length+1
 kp:KeptC (λb=>b=pb\/b=db) w W
 lo:∀{B:Nat} {a:World},B<=pb->B<=db->B<=w.heap.size->Below B a w->Below B a W
section
variable {S:Nat->Prop} {w W W':World} {V F:Int} {s:oA} {c:List Ins} {cap sb pb pc db dc:Nat} {n:Int} {t:List Pic×List Int×Bool}
theorem RndAt.below (h:RndAt S w V F s c cap sb pb pc db dc n t W)(hb:Below W.heap.size W W'):RndAt S w V F s c cap sb pb pc db dc n t W':=⟨h.vs.call hb,h.vn.call hb,h.vc.call hb,h.st.call hb,h.pr.call hb,h.dr.call hb,h.xs,h.ln,h.kp.trans (KeptC.of hb),λh1 h2 h3 h4=>(h.lo h1 h2 h3 h4).trans (hb.mono (lT h3 h.kp.1))⟩
theorem RndAt.mono {S':Nat->Prop}(h:RndAt S w V F s c cap sb pb pc db dc n t W)(hs:∀b,S b->b < W.heap.size->S' b):RndAt S' w V F s c cap sb pb pc db dc n t W:=⟨h.vs,h.vn,h.vc,h.st,h.pr.mono hs,h.dr,h.xs,h.ln,h.kp,h.lo⟩
theorem RndAt.round {l:Nat}(h:RndAt S w V F s c cap sb pb pc db dc n t W)(hO:RoundAt l W W')(hl:w.heap.size+1+1 < l)(hsb:sb≠l)(hpb:pb≠l)(hdb:db≠l)(hS:∀b,S b->b≠l):RndAt S w V F s c cap sb pb pc db dc n t W':=
 have hz:W.heap.size<=W'.heap.size:=by rw[hO.size];exact lR _
 ⟨h.vs.same (hO.far _ (by omega)) hz,h.vn.same (hO.far _ (by omega)) hz,h.vc.same (hO.far _ (by omega)) hz,h.st.same (hO.far _ hsb) hz,h.pr.far (hO.far _ hpb) (λb hb _=>hO.far b (hS b hb)) hz,h.dr.far (hO.far _ hdb) hz,h.xs,h.ln,⟨lT h.kp.1 hz,λb hb hlt=>(hO.far b (by omega)).trans (h.kp.2 b hb hlt)⟩,λh1 h2 h3 h4=>hO.low (by omega) (h.lo h1 h2 h3 h4)⟩
theorem Bv {W5 wq W6:World}{L:List Pic}{D:List Int}(h:RndAt S w V F s c cap sb pb pc db dc n t W5)(e:Hid (wq=aO W5 (w.heap.size+1+1) 0 [Bb true]))(hs:fa S wq W6 pb db L D)(hn:pb < w.heap.size/\db < w.heap.size/\sb≠pb/\sb≠db/\sb < w.heap.size)(hl:L.length=t.1.length/\D.length=t.2.1.length)(hx:XsOk V F c L/\D.length=c.length+1)(hS:∀b,S b->b≠w.heap.size+1+1):
  RndAt S w V F s c cap sb pb pc db dc n (L,D,true) W6/\KeptC (λb=>b=pb\/b=db\/b=w.heap.size+1+1) W5 W6/\∀b,b≠pb->b≠db->b≠w.heap.size+1+1->b < W5.heap.size->W6.heap[b]? =W5.heap[b]? :=by
 have PQ:=aZ h.vc 0 _ e.out;obtain⟨s1,s2,s3,s4,s5⟩:=hs;obtain⟨a1,a2,a3,a4,a5⟩:=hn;have F:∀b,b≠pb->b≠db->b≠w.heap.size+1+1->b < W5.heap.size->W6.heap[b]? =W5.heap[b]? :=λb h1 h2 h3 h4=>(s3 b h1 h2 (lL h4 PQ.size)).trans (PQ.far b h3);have Z:W5.heap.size<=W6.heap.size:=lT PQ.size s4;refine⟨⟨h.vs.same (F _ (by omega) (by omega) (by omega) h.vs.2.1) Z,h.vn.same (F _ (by omega) (by omega) (by omega) h.vn.2.1) Z,PQ.cells.same (s3 _ (by omega) (by omega) PQ.cells.2.1) s4,?_,s1,s2,hx.1,hx.2,⟨lT h.kp.1 Z,λb hb hlt=> ?_⟩,λh1 h2 h3 h4=>s5 h1 h2 (lT h3 (lT h.kp.1 PQ.size)) (PQ.low (by omega) (h.lo h1 h2 h3 h4))⟩,⟨Z,λb hb hlt=> ?_⟩,F⟩
 ·have q:=h.st.same (F sb a3 a4 (by omega) h.st.2.1) Z
  rw[<-hl.1,<-hl.2] at q;exact q
 ·have hb':¬(b=pb\/b=db):=hb
  have:=h.kp.1;rw[F b (by omega) (by omega) (by omega) (by omega)];exact h.kp.2 b hb hlt
 ·have hb':¬(b=pb\/b=db\/b=w.heap.size+1+1):=hb
  exact F b (by omega) (by omega) (by omega) hlt
theorem nr {Ch:Nat->Prop}{Wa W2 W3:World}{l D:Nat}{r:Loop}(hl:LoopAt W l D r)(hb:Below W.heap.size W Wa)(hO:RoundAt l Wa W2)(h3:KeptC Ch W2 W3):KeptC Ch W (W3.putObj l (.loop r)):=by
 have z:W.heap.size<=W3.heap.size:=lT hb.size (by rw[<-hO.size];exact h3.1);have hlz:=(q8.1 hl.lp).1;refine⟨by simpa[q7] using z,λb hc hlt=> ?_⟩;by_cases e:b=l
 ·subst e
  rw[J5 (by omega),hl.lp]
 ·rw[j9 e,h3.2 b hc (by rw[hO.size];have:=hb.size;omega),hO.far b e,hb.block b hlt]
end
theorem yR {S:Nat->Prop}{V F:Int}{s:oA}{c:List Ins}{cap sb pb pc db dc:Nat}{n:Int}{L:List Pic}{D:List Int}{w w5 w6 W1:World}{fn:FuncId}{tmps:Array Value}{ps:Array Tmp}{assign body:Code}
  (h0:ag V F c=0)(hC:CodeAt w s c)(hCK:∀W W',KeptC (λb=>b=pb\/b=db\/b=w.heap.size+1+1) W W'->CodeAt W s c->CodeAt W' s c)(hz:w.heap.size+1+1 < w5.heap.size)(hpb:pb < w.heap.size)(hdb:db < w.heap.size)(hb:Below w6.heap.size w6 W1)(hl:LoopAt W1 (w6.heap.size+1) w6.heap.size (cr fn tmps ps assign body w6.heap.size .ready nO))(hR:RndAt S w V F s c cap sb pb pc db dc n (L,D,false) W1)
  (EP:Cells w6 w5.heap.size [I Y V,I Y F,U s c.length cap])(EL:Cells w6 (w5.heap.size+1) [U (sO ⟨pb,0,nO⟩) L.length pc])(EF:Cells w6 (w5.heap.size+1+1) [.func (.func 68) #[] #[Pp (sO ⟨w.heap.size,0,nO⟩),Pp (sO ⟨w.heap.size+1,0,nO⟩)]])
  (hY:∀(t:List Pic×List Int×Bool) W (k:Nat) (e:Edg) vs vc fs fc,RndAt S w V F s c cap sb pb pc db dc n t W->LoopAt W (w6.heap.size+1) w6.heap.size (cr fn tmps ps assign body w6.heap.size .ready nO)->en V F c e->PicOn (λb=>¬(b=pb\/b=db\/b=w.heap.size+1+1)) W e.pic vs fs->(e.pic.vars.length<=vc/\vc<=maxLen)->(e.pic.flds.length<=fc/\fc<=maxLen)->YieldAt Fence.wide (5 - 1 - 1) pG (w6.heap.size+1) #[I Y (k:Int),Ag #[I Y e.tgt,Bb e.pic.none,U vs e.pic.vars.length vc,U fs e.pic.flds.length fc]] W λr W'=>r=Rt (Bb true)/\LoopAt W' (w6.heap.size+1) w6.heap.size (cr fn tmps ps assign body w6.heap.size .ready nO)/\RndAt S w V F s c cap sb pb pc db dc n (cd n k t e) W'/\KeptC (λb=>b=pb\/b=db\/b=w.heap.size+1+1) W W'):
  CallsIn Fence.wide (5 - 1) pG 72 (#[.func (.yield (w6.heap.size+1)) #[] #[]]++#[Pp (sO ⟨w5.heap.size,0,nO⟩),Pp (sO ⟨w5.heap.size+1+1,0,nO⟩),Pp (sO ⟨w5.heap.size+1,0,nO⟩)]) W1 λe W'=>(∃v,e=Rt v)/\((LoopAt W' (w6.heap.size+1) w6.heap.size (cr fn tmps ps assign body w6.heap.size .ready nO)/\RndAt S w V F s c cap sb pb pc db dc n (dG c n (L,D)) W')\/∃c',LoopAt W' (w6.heap.size+1) w6.heap.size (cr fn tmps ps assign body w6.heap.size .done (sO c'))/\False):=by
 have hz6:=EF.2.1;have hzb:=hb.size;refine(n7 (σ:=List Pic×List Int×Bool) (V:=V) (F:=F) (s:=s) (c:=c) (cap:=cap) (pb:=w5.heap.size) (ib:=w5.heap.size+1+1) (lb:=w5.heap.size+1) (l:=w6.heap.size+1) (n:=5 - 1) (fd:=68) (lc:=pc) (ls:=sO ⟨pb,0,nO⟩) (cs:=#[Pp (sO ⟨w.heap.size,0,nO⟩),Pp (sO ⟨w.heap.size+1,0,nO⟩)]) (ar:=λp=>#[p,Pp (sO ⟨w.heap.size,0,nO⟩),Pp (sO ⟨w.heap.size+1,0,nO⟩)]) (λ_=>by simp) (enters_of Tryz.func68 (by kernel_rfl) rfl) (pics:=λt=>t.1) (due:=λt k=>t.2.1.getD k 0==n) (next:=λk e t=>cd n k t e)
  (St:=λt W=>RndAt S w V F s c cap sb pb pc db dc n t W/\LoopAt W (w6.heap.size+1) w6.heap.size (cr fn tmps ps assign body w6.heap.size .ready nO))
  (Stop:=λ_=>False)
  (Ch:=λb=>b=pb\/b=db\/b=w.heap.size+1+1) h0 (L,D,false) W1 ?_ ?_ ?_ ?_ hCK (λb h=>by omega) (by omega) (by omega) (by omega) ⟨hR,hl⟩ (EP.call hb) (EF.call hb) (by rw[<-hR.xs.len];exact EL.call hb) (hCK _ _ (hR.kp.mono λb h=>h.imp id Or.inl) hC)).mono ?_
 ·exact λt W W' h hb=>⟨h.1.below hb,h.2.below hb⟩
 ·exact λt W h=>⟨h.1.pr.xs,h.1.xs⟩
 ·intro t W k h hk
  have hk':k < t.2.1.length:=by rw[h.1.ln];omega
  have h60:=(bq h0).2.2;have q:=yJ V F s c cap _ _ pc dc sb db _ _ k n t.2.1 W h.1.vs h.1.vn h.1.st h.1.dr hk' (by rw[h.1.ln];unfold maxLen;omega);have e:t.2.1.getD k 0=t.2.1[k]:=by simp[List.getD,hk']
  rw[e];exact q
 ·rintro t W k e vs vc fs fc ⟨hR1,hl1⟩ hk - hok hp hv hf
  refine(hY t W k e vs vc fs fc hR1 hl1 hok hp hv hf).mono ?_;rintro r W' ⟨e1,e2,e3,e4⟩;exact .inl ⟨e1,⟨e3,e2⟩,e4⟩
 ·rintro e W' ⟨hv,⟨⟨h1,h2⟩,h4⟩|h⟩
  ·rw[sM] at h1
   exact⟨hv,.inl ⟨h2,h1⟩⟩
  ·exact h.elim
theorem tV {X:World}{D0:Nat}{b:Bool}{tmps:Array Value}{R:Ending->World->Prop}(hD:X.heap[D0]? =sO (.deferred (sO [])))(h4:tmps[4]?.getD undef=Bb b)(hR:R (Rt (Bb b)) (X.putObj D0 (.deferred nO))):
  bodyPostM Fence.wide 5 pG Tryz.f33 R .ret ⟨tmps,[{target:=.collected D0,args:=#[]}]⟩ X:=
 ⟨by simp,.inl ⟨D0,_,rfl,run_takeDeferred hD,Bb b,by simp[results,Tryz.results33,go_sem,h4],hR⟩⟩
attribute [local go_sem] Oper.semAt_some
theorem kE {p:Prop}(h:p:=by
 gi_wp2_with fail
 refine⟨trivial,(CallsIn.inRound _ (callsIn_wide.2 HCL.out)).mono ?_⟩;rintro e6 W6 ⟨⟨ve,rfl⟩,SS⟩;obtain⟨N1,N2,N3⟩:=Bv R5 ewq0 SS ⟨hpb,hdb,hsp.1,hsp.2,hsb⟩ ⟨by simp,by simp⟩ (by have:=Az (n:=n) (i:=k) h0 R5.xs R5.ln hok;rw[HED.out] at this;exact this) (λb hb=>(hS b hb).2.2.1);have hl6:=hl5.far (N3 _ (by omega) (by omega) (by omega) hlz5) (N3 _ (by omega) (by omega) (by omega) hDz5);clear HCL SS
 gi_wp2
 exact⟨hl6,hl6.put (by omega) _,by rw[HED.out];exact N1.round (hl6.round _) (by omega) (by omega) (by omega) (by omega) (λb hb=>(hS b hb).2.2.2),nr Hl.out HBA.out HO.out ((KeptC.of HB25.out).trans N2)⟩):p:=h
theorem vW {S0:Nat->Prop}(V F:Int)(s:oA)(c:List Ins)(cap sb pb pc db dc:Nat)(n:Int)(L:List Pic)(D:List Int)(w:World)(h0:ag V F c=0)(hst:Cells w sb [I Y V,I Y F,U s c.length cap,U (sO ⟨pb,0,nO⟩) L.length pc,U (sO ⟨db,0,nO⟩) D.length dc])(hP:PRow S0 w pb L)(hDr:DRow w db D)(hC:CodeAt w s c)(hpd:pb≠db)(hsp:sb≠pb/\sb≠db)(hS0:∀b,S0 b->b≠pb/\b≠db)(hS2:∀b,w.heap.size<=b->S0 b)(hsC:c≠[]->∀a,s=sO a->a.block≠pb/\a.block≠db)(hX:XsOk V F c L)(hDl:D.length=c.length+1)(hnw:IntKind.i64.wrap (n+1)=n+1):
  Calls pG 33 #[Pp (sO ⟨sb,0,nO⟩),I Y n] w λe w'=>e=Rt (Bb (dG c n (L,D)).2.2)/\fa S0 w w' pb db (dG c n (L,D)).1 (dG c n (L,D)).2.1:=by
 have hpb:pb < w.heap.size:=hP.choose_spec.1.2.1;have hdb:db < w.heap.size:=hDr.choose_spec.1.2.1;have hsb:sb < w.heap.size:=hst.2.1;have hCK:=yi hC hsC (cb:=w.heap.size+1+1) (by omega);have h60:=(bq h0).2.2;have hmx:61<=maxLen:=by decide
 have R3:RndAt (λb=>S0 b/\b < w.heap.size) w V F s c cap sb pb pc db dc n (L,D,false) (((w.alloc (Cc #[Pp (sO ⟨sb,0,nO⟩)] 75)).alloc (Cc #[I Y n] 3)).alloc (Cc #[Bb false] 4)):=by
  have B:Below w.heap.size w (((w.alloc (Cc #[Pp (sO ⟨sb,0,nO⟩)] 75)).alloc (Cc #[I Y n] 3)).alloc (Cc #[Bb false] 4)):=by go_grown
  refine⟨(Cells.new w _ [_]).call (by go_grown),?_,?_,hst.call B,(hP.mono λb h1 h2=>⟨h1,h2⟩).call B,hDr.call B,hX,hDl,KeptC.of B,λh1 h2 h3 h4=>h4.trans (B.mono h3)⟩
  ·have h:=Cells.new (w.alloc (Cc #[Pp (sO ⟨sb,0,nO⟩)] 75)) 3 [I Y n]
   rw[zA] at h;exact h.call (by go_grown)
  ·have h:=Cells.new ((w.alloc (Cc #[Pp (sO ⟨sb,0,nO⟩)] 75)).alloc (Cc #[I Y n] 3)) 4 [Bb false]
   rw[zA,zA] at h;exact h
 obtain⟨t1,et1⟩:∃t,t=dG c n (L,D):=⟨_,rfl⟩;have HT1:=aa et1;rw[<-et1];clear et1;refine callsIn_wide.1 (callsIn_of_wp_marks (n:=5) Tryz.func33 rfl trivial (wpIn_wide.2 ?_) rfl);simp only[Tryz.ntmps33,x5,j6,j7,x6,x7,x8,x9,J0,J3,q4,J4]
 go_upto_region 3 with fail
 generalize (((w.alloc (Cc #[Pp (sO ⟨sb,0,nO⟩)] 75)).alloc (Cc #[I Y n] 3)).alloc (Cc #[Bb false] 4))=w3 at *;have HKZ:Hid (∀wx,Below w3.heap.size w3 wx->wx.cell? ⟨w.heap.size,0,nO⟩=sO (Pp (sO ⟨sb,0,nO⟩))/\(wx.cell? ⟨sb,0,nO⟩=sO (I Y V)/\wx.cell? ⟨sb,1,nO⟩=sO (I Y F)/\wx.cell? ⟨sb,2,nO⟩=sO (U s c.length cap)/\wx.cell? ⟨sb,3,nO⟩=sO (U (sO ⟨pb,0,nO⟩) L.length pc))):=λwx hb=>by
  have v:=R3.vs.call hb;have p:=R3.st.call hb;exact⟨v.1 0 _ rfl,p.1 0 _ rfl,p.1 1 _ rfl,p.1 2 _ rfl,p.1 3 _ rfl⟩
 have B34:Below w3.heap.size w3 w3.drew:=(bR _ _).drew;have HR3:=aa R3;have z3:=R3.vc.2.1;clear R3;refine uO ?_;refine am (S:=(λwx=>wx.cell? ⟨w.heap.size,0,nO⟩=sO (Pp (sO ⟨sb,0,nO⟩))/\(wx.cell? ⟨sb,0,nO⟩=sO (I Y V)/\wx.cell? ⟨sb,1,nO⟩=sO (I Y F)/\wx.cell? ⟨sb,2,nO⟩=sO (U s c.length cap)/\wx.cell? ⟨sb,3,nO⟩=sO (U (sO ⟨pb,0,nO⟩) L.length pc)))) [] (by kernel_rfl) (HKZ.out _ B34) (λhHeld=> ?_);generalize w3.drew=w4 at *;refine vZ 0 ?_ ?_;refine vZ 1 ?_ ?_;refine vZ 2 ?_ ?_;refine vZ 3 ?_ ?_;refine vZ 4 ?_ ?_;refine vZ 5 ?_ ?_;refine vZ 6 ?_ ?_;refine vZ 7 ?_ ?_;refine vZ 8 ?_ ?_;refine ai (i:=9) rfl (by kernel_rfl) (λK hK=> ?_);go_simp;go_at_call 37;refine(nS V F s c cap _ L.length pc 68 #[Pp (sO ⟨w.heap.size,0,nO⟩),Pp (sO ⟨w.heap.size+1,0,nO⟩)] w4).mono ?_;rintro e w6 ⟨rfl,⟨EP,EL,EF⟩,hb6⟩;go_wp2_with fail;refine hK.out _ _ (HKZ.out _ (B34.trans (hb6.mono B34.size))) (λhHeld=> ?_);clear hK K;refine sm ?_;refine aj (by kernel_rfl) ?_ _;have hb36:=B34.trans (hb6.mono B34.size);have z4:=B34.size;have z6:=EF.2.1;have HR6:=aa (HR3.out.below hb36);have HOLD:=aa hst;clear HR3 HKZ hHeld hb36 hb6 hst hP hDr;go_wp2;refine wpIn_wide.1 (oL (n:=5) (gf:=72) (lb:=#[Pp (sO ⟨w4.heap.size,0,nO⟩),Pp (sO ⟨w4.heap.size+1+1,0,nO⟩),Pp (sO ⟨w4.heap.size+1,0,nO⟩)]) rfl (enters_of Tryz.func72 (by kernel_rfl) rfl) (λ_ _ _ W=>RndAt (λb=>S0 b/\b≠w.heap.size+1+1/\b≠w6.heap.size+1/\b≠w6.heap.size) w V F s c cap sb pb pc db dc n t1 W) (λ_ _ _ _ _=>False) ?hit ?hdone ?hstop)
 case hstop=>
  intro r c' W hl hf;exact hf.elim
 case hdone=>
  rintro r W hl hR r';have hl2:=hl.round r';have hR2:=hR.round hl2 (by omega) (by omega) (by omega) (by omega) (λb hb=>hb.2.2.1);have hD:(W.putObj (w6.heap.size+1) r').heap[w6.heap.size]? =sO (.deferred (sO [])):=(j9 (by omega)).trans hl.dfr;clear hR hl hl2 EP EL EF HR6 HOLD;generalize W.putObj (w6.heap.size+1) r'=X at *;have r0:=hR2.vc.1 0 _ rfl;go_simp;go_wp2;refine tV hD rfl ?_;have hs:X.heap.size<=(X.putObj w6.heap.size (.deferred nO)).heap.size:=by simp[q7]
  have far:∀b,b≠w6.heap.size->(X.putObj w6.heap.size (.deferred nO)).heap[b]? =X.heap[b]? :=λb hb=>j9 hb;refine⟨rfl,?_,hR2.dr.far (far db (by omega)) hs,λb h1 h2 hlt=>(far b (by omega)).trans (hR2.kp.2 b (by omega) hlt),lT hR2.kp.1 hs,λ{B} {a} h1 h2 h3 h4=>(hR2.lo h1 h2 h3 h4).trans (belowK_b (n₀:=B) (w:=w) h3 X w6.heap.size _ _ (by omega) hD rfl rfl)⟩;exact(hR2.pr.far (far pb (by omega)) (λb hb _=>far b hb.2.2.2) hs).mono λb hb _=>hb.1
 case hit=>
  intro fn W1 hl hbW;rw[HT1.out];refine yR (S:=λb=>S0 b/\b≠w.heap.size+1+1/\b≠w6.heap.size+1/\b≠w6.heap.size) h0 hC hCK (by omega) hpb hdb hbW hl ((HR6.out.mono λb hb _=>⟨hb.1,by omega,by omega,by omega⟩).below hbW) EP EL EF ?_;clear hl hbW HR6 EP EL EF W1 HOLD;obtain⟨S,hSe⟩:∃S:Nat->Prop,S=λb=>S0 b/\b≠w.heap.size+1+1/\b≠w6.heap.size+1/\b≠w6.heap.size:=⟨_,rfl⟩;have hS2:∀b,w6.heap.size+1 < b->S b:=λb hb=>by rw[hSe];exact⟨hS2 b (by omega),by omega,by omega,by omega⟩
  have hS:∀b,S b->b≠pb/\b≠db/\b≠w.heap.size+1+1/\b≠w6.heap.size+1:=λb hb=>by rw[hSe] at hb;exact⟨(hS0 b hb.1).1,(hS0 b hb.1).2,hb.2.1,hb.2.2.1⟩
  rw[<-hSe];clear hSe;have hpb:pb < w.heap.size:=hpb;intro t W k e vs vc fs fc hR hl hok hp hv hf;refine tr hl rfl ?_
  gi_wp2
  have hba:Below W.heap.size W (W.alloc (Cc #[I Y e.tgt,Bb e.pic.none,U vs e.pic.vars.length vc,U fs e.pic.flds.length fc] 56)):=by go_grown
  have hbox:Cells (W.alloc (Cc #[I Y e.tgt,Bb e.pic.none,U vs e.pic.vars.length vc,U fs e.pic.flds.length fc] 56)) W.heap.size [I Y e.tgt,Bb e.pic.none,U vs e.pic.vars.length vc,U fs e.pic.flds.length fc]:=Cells.new W _ [_,_,_,_];have hlz:=(q8.1 hl.lp).1;have Hl:=aa hl;refine mF hl (by omega) hba ?_;clear hl;intro W2 hl2 hO;have zO:=hO.size;have za:=hba.size;have zc:=hR.vc.2.1;have R2:=(hR.below hba).round hO (by omega) (by omega) (by omega) (by omega) (λb hb=>(hS b hb).2.2.2);have BX2:=hbox.same (hO.far _ (by omega)) (by omega);have hp2:=(((hp.drop Hl.out.lp).call hba).same (λb hb _=>hO.far b hb.2) (by omega)).mono λb hb _=>hb.1;have C2:=hCK _ _ (R2.kp.mono λb hb=>hb.imp id Or.inl) hC;obtain⟨q,hq⟩:=q9 hok.2.1;have hqL:q < t.1.length:=by have:=R2.xs.len;have:=hok.2.2;omega
  obtain⟨vy,vyc,fy,fyc,⟨q0,q1,q2⟩,hPy,hvy,hfy,hpz,-⟩:=R2.pr.cell hqL;obtain⟨y,ey⟩:∃y,y=t.1[q]:=⟨_,rfl⟩;have HEY:Hid (aI t.1 e.tgt=y):=by show _=_;rw[hq,ey];exact dm hqL
  have hcky:an V F c y=0:=by rw[ey];exact R2.xs.ck _ (gM hqL)
  rw[<-ey] at q0 q1 q2 hPy hvy hfy;have HY0:=aa ey;clear ey;have hck2:aq V F c [e.pic,y]=0:=by unfold aq;rw[if_pos h0];unfold bx;rw[if_pos hok.1];unfold bx;rw[if_pos hcky];rfl
  have HWI:Hid (∀wx,Below W2.heap.size W2 wx->Calls pG 35 #[pv V F s c cap,xv e.pic vs vc fs fc,xv y vy vyc fy fyc] wx λe' w'=>e'=Rt (Bb (aH e.pic y))/\Below wx.heap.size wx w'):=λwx hb=>by
   have h:=gh V F s c cap e.pic vs vc fs fc y vy vyc fy fyc wx (C2.below hb (lR _)) (hp2.at.below hb (lR _)) hv hf (hPy.at.below hb (lR _)) hvy hfy;rw[if_pos hck2] at h;exact h
  rw[hq] at BX2;have HKZ:Hid (∀wx,Below W2.heap.size W2 wx->wx.cell? ⟨w.heap.size,0,nO⟩=sO (Pp (sO ⟨sb,0,nO⟩))/\(wx.cell? ⟨sb,0,nO⟩=sO (I Y V)/\wx.cell? ⟨sb,1,nO⟩=sO (I Y F)/\wx.cell? ⟨sb,2,nO⟩=sO (U s c.length cap)/\wx.cell? ⟨sb,3,nO⟩=sO (U (sO ⟨pb,0,nO⟩) t.1.length pc))/\(wx.cell? ⟨W.heap.size,0,nO⟩=sO (I Y (q:Int))/\wx.cell? ⟨W.heap.size,1,nO⟩=sO (Bb e.pic.none)/\wx.cell? ⟨W.heap.size,2,nO⟩=sO (U vs e.pic.vars.length vc)/\wx.cell? ⟨W.heap.size,3,nO⟩=sO (U fs e.pic.flds.length fc))/\(wx.cell? ⟨pb,q * 3,nO⟩=sO (Bb y.none)/\wx.cell? ⟨pb,q * 3+1,nO⟩=sO (U vy y.vars.length vyc)/\wx.cell? ⟨pb,q * 3+2,nO⟩=sO (U fy y.flds.length fyc))):=λwx hb=>by
   have v:=R2.vs.call hb;have p:=R2.st.call hb;have g:=BX2.call hb;exact⟨v.1 0 _ rfl,⟨p.1 0 _ rfl,p.1 1 _ rfl,p.1 2 _ rfl,p.1 3 _ rfl⟩,⟨g.1 0 _ rfl,g.1 1 _ rfl,g.1 2 _ rfl,g.1 3 _ rfl⟩,by rw[hb.cell hpz];exact q0,by rw[hb.cell hpz];exact q1,by rw[hb.cell hpz];exact q2⟩
  have B34:Below W2.heap.size W2 W2.drew:=(bR _ _).drew;have m0:(0:Int)<=(q:Int):=by omega
  have m1:(q:Int) < (t.1.length:Int):=by omega
  have HIB:Hid (aH e.pic (aI t.1 e.tgt)=aH e.pic y):=by show _=_;rw[HEY.out]
  generalize aH e.pic y=ib at *;refine wpIn_block (wpIn_seq (wpIn_seq (lS ?_)));refine u9 (S:=(λwx=>wx.cell? ⟨w.heap.size,0,nO⟩=sO (Pp (sO ⟨sb,0,nO⟩))/\(wx.cell? ⟨sb,0,nO⟩=sO (I Y V)/\wx.cell? ⟨sb,1,nO⟩=sO (I Y F)/\wx.cell? ⟨sb,2,nO⟩=sO (U s c.length cap)/\wx.cell? ⟨sb,3,nO⟩=sO (U (sO ⟨pb,0,nO⟩) t.1.length pc))/\(wx.cell? ⟨W.heap.size,0,nO⟩=sO (I Y (q:Int))/\wx.cell? ⟨W.heap.size,1,nO⟩=sO (Bb e.pic.none)/\wx.cell? ⟨W.heap.size,2,nO⟩=sO (U vs e.pic.vars.length vc)/\wx.cell? ⟨W.heap.size,3,nO⟩=sO (U fs e.pic.flds.length fc))/\(wx.cell? ⟨pb,q * 3,nO⟩=sO (Bb y.none)/\wx.cell? ⟨pb,q * 3+1,nO⟩=sO (U vy y.vars.length vyc)/\wx.cell? ⟨pb,q * 3+2,nO⟩=sO (U fy y.flds.length fyc)))) [] (by kernel_rfl) (by simp[lV]) Ap (HKZ.out _ B34) (λhHeld=> ?_);generalize W2.drew=w4 at *;refine vZ 0 ?_ ?_;refine vZ 1 ?_ ?_;refine vZ 2 ?_ ?_;refine vZ 3 ?_ ?_;refine vZ 4 ?_ ?_;refine vZ 5 ?_ ?_;refine vZ 6 ?_ ?_;refine vZ 7 ?_ ?_;refine vZ 8 ?_ ?_;refine vZ 9 ?_ ?_;refine vZ 10 ?_ ?_;refine vZ 11 ?_ ?_;refine vZ 12 ?_ ?_;refine vZ 13 ?_ ?_;refine ai (i:=14) rfl (by kernel_rfl) (λK hK=> ?_);go_simp;go_at_call 35;refine(HWI.out w4 B34).mono ?_;rintro e5 w5' ⟨rfl,hb5⟩;go_wp2_with fail;refine hK.out _ _ (HKZ.out _ (B34.trans (hb5.mono B34.size))) (λhHeld=> ?_);clear hK K;refine sm ?_;refine aj (by kernel_rfl) ?_ _;have hb25:=B34.trans (hb5.mono B34.size);have R5:=R2.below hb25;have hl5:=hl2.below hb25;have BX5:=BX2.call hb25;have hp5:=hp2.call hb25;have C5:=C2.call hb25;have hKE:=nr (Ch:=λb=>b=pb\/b=db\/b=w.heap.size+1+1) Hl.out hba hO (KeptC.of hb25);have HO:=aa hO;have HBA:=aa hba;have HB25:=aa hb25;clear hO hba hb25 B34 hb5 hHeld HKZ HWI hPy hvy hfy q0 q1 q2 R2 BX2 hp2 C2 hbox hl2 hp hR;rcases q6 ib with hib|hib
  ·subst hib
   have HE:Hid (cd n k t e=t):=by show _=_;unfold cd;rw[if_pos HIB.out]
   refine wpIn_cond_true rfl (wpIn_exit ?_);show _/\_;refine⟨hl5,?_⟩;exact⟨hl5.put (by omega) _,by rw[HE.out];exact R5.round (hl5.round _) (by omega) (by omega) (by omega) (by omega) (λb hb=>(hS b hb).2.2.2),hKE⟩
  ·subst hib
   refine wpIn_cond_false rfl (wpIn_skip ?_);refine BO (λK hK=> ?_);have r0:=R5.vc.1 0 _ rfl;have r1:=R5.vc.2.2 0
   gi_wp2
   refine hK.out _ _ ?_;clear hK K r0 r1;have hpz5:=R5.vc.2.1;obtain⟨wq,ewq⟩:∃q',q'=aO w5' (w.heap.size+1+1) 0 [Bb true]:=⟨_,rfl⟩;have ewq0:=aa ewq;have PQ:=aZ R5.vc 0 _ ewq;simp only[aO] at ewq;rw[<-ewq];clear ewq;have STq:=PQ.keep R5.st (by omega);have PRq:=R5.pr.far (PQ.far pb (by omega)) (λb hb _=>PQ.far b (hS b hb).2.2.1) PQ.size;have DRq:=R5.dr.far (PQ.far db (by omega)) PQ.size;have Bq:KeptC (λb=>b=w.heap.size+1+1) w5' wq:=⟨PQ.size,λb hb _=>PQ.far b hb⟩;have Cq:CodeAt wq s c:=hCK _ _ (Bq.mono λb hb=>.inr (.inr hb)) C5;have VSq:=PQ.keep R5.vs (by omega);have VNq:=PQ.keep R5.vn (by omega);have BXq:=PQ.keep BX5 (by omega);have hpq:PicAt wq e.pic vs fs:=(hp5.same (λb hb _=>PQ.far b λe=>hb.1 (.inr (.inr e))) PQ.size).at;have hlz5:=(q8.1 hl5.lp).1;have hDz5:=(q8.1 hl5.dfr).1;have zq:=PQ.size;have z5:=HB25.out.size;have v0:=VSq.1 0 _ rfl;have v1:=VNq.1 0 _ rfl;have x0:=BXq.1 0 _ rfl;have x1:=BXq.1 1 _ rfl;have x2:=BXq.1 2 _ rfl;have x3:=BXq.1 3 _ rfl;by_cases hkq:(k:Int) < (q:Int)
   ·have HED:Hid (cd n k t e=(t.1.set q (aw (ac false) y e.pic),t.2.1.set q (n),true)):=by
     show _=_;unfold cd cF;rw[HIB.out,if_neg (by decide),HEY.out,hq];rw[if_pos (by omega),show decide ((q:Int)<=(k:Int))=false by simpa using hkq,Bool.and_false];rfl
    have HCL:=aa (Bm (S:=S) V F s c cap sb pb pc db dc q n t.1 t.2.1 e.pic vs vc fs fc (aw (ac false) y e.pic) wq STq PRq DRq hpd hsp.1 (λb hb=>⟨(hS b hb).1,(hS b hb).2.1⟩) (λb hb=>hS2 b (by omega)) hqL (by have:=R5.ln;have:=R5.xs.len;omega) (by have:=R5.ln;omega) (λwx vx vxc fx fxc hb k1 k2 k3=>by
     have hx:=HY0.out;rw[<-hx] at k1 k2 k3 |-;exact tv h0 hcky hok.1 (Cq.below hb (lR _)) k1 k2 k3 (hpq.below hb (lR _)) hv hf))
    have g1:(k:Int) < (q:Int):=by omega
    exact kE
   ·by_cases hn4:n < 4
    ·have HED:Hid (cd n k t e=(t.1.set q (aw (ac false) y e.pic),t.2.1.set q (n+1),true)):=by
      show _=_;unfold cd cF;rw[HIB.out,if_neg (by decide),HEY.out,hq];rw[if_neg (by omega),show decide ((4:Int)<=n)=false by simpa using hn4,Bool.false_and];rfl
     have HCL:=aa (tM (S:=S) V F s c cap sb pb pc db dc q n t.1 t.2.1 e.pic vs vc fs fc (aw (ac false) y e.pic) wq STq PRq DRq hpd hsp.1 (λb hb=>⟨(hS b hb).1,(hS b hb).2.1⟩) (λb hb=>hS2 b (by omega)) hqL (by have:=R5.ln;have:=R5.xs.len;omega) (by have:=R5.ln;omega) hn4 hnw (λwx vx vxc fx fxc hb k1 k2 k3=>by
      have hx:=HY0.out;rw[<-hx] at k1 k2 k3 |-;exact tv h0 hcky hok.1 (Cq.below hb (lR _)) k1 k2 k3 (hpq.below hb (lR _)) hv hf))
     have g1:¬(k:Int) < (q:Int):=by omega
     exact kE
    ·have HED:Hid (cd n k t e=(t.1.set q (aw (ac true) y e.pic),t.2.1.set q (n+1),true)):=by
      show _=_;unfold cd cF;rw[HIB.out,if_neg (by decide),HEY.out,hq];rw[if_neg (by omega),show decide ((4:Int)<=n)=true by simp;omega,show decide ((q:Int)<=(k:Int))=true by simp;omega,Bool.true_and];rfl
     have HCL:=aa (uu (S:=S) V F s c cap sb pb pc db dc q n t.1 t.2.1 e.pic vs vc fs fc (aw (ac true) y e.pic) wq STq PRq DRq hpd hsp.1 (λb hb=>⟨(hS b hb).1,(hS b hb).2.1⟩) (λb hb=>hS2 b (by omega)) hqL (by have:=R5.ln;have:=R5.xs.len;omega) (by have:=R5.ln;omega) hn4 hnw (λwx vx vxc fx fxc hb k1 k2 k3=>by
      have hx:=HY0.out;rw[<-hx] at k1 k2 k3 |-;exact Bt h0 hcky hok.1 (Cq.below hb (lR _)) k1 k2 k3 (hpq.below hb (lR _)) hv hf))
     have g1:¬(k:Int) < (q:Int):=by omega
     exact kE
end
section
open Go.RowKit
attribute [local go_sem ↓] Go.wp_at_zero Go.wp_at_succ
def yg (V F:Int)(c:List Ins)(e:Ending)(w':World):Prop:=(ag V F c≠0/\e=Rt (Tu #[U nO 0 0,I Y 0,I Y (ag V F c)]))\/(ag V F c=0/\∃(m pb pc:Nat),SolvedAt V F c m/\m<=200000000000000/\e=Rt (Tu #[U (sO ⟨pb,0,nO⟩) (c.length+1) pc,I Y ((m+1:Nat):Int),I Y 0])/\XsAt w' (sO ⟨pb,0,nO⟩) (aK V F c m))
structure SolAt (w:World) (V F:Int) (s:oA) (c:List Ins) (cap sb pb pc db dc m:Nat) (W:World):Prop where
 st:Cells W sb [I Y V,I Y F,U s c.length cap,U (sO ⟨pb,0,nO⟩) (c.length+1) pc,U (sO ⟨db,0,nO⟩) (c.length+1) dc]
 pr:PRow (λb=>b≠pb/\b≠db) W pb (aK V F c m)
 dr:∃D,DRow W db D/\Due V F c ((m+1:Nat):Int) 0 (aK V F c m) D
 all:∀k,k < m->(cL c ((k+1:Nat):Int) (aK V F c k)).2=true
 lo:Below w.heap.size w W
theorem SolAt.next {w W W':World}{V F:Int}{s:oA}{c:List Ins}{cap sb pb pc db dc m:Nat}{D:List Int}(h0:ag V F c=0)(h:SolAt w V F s c cap sb pb pc db dc m W)(hD:Due V F c ((m+1:Nat):Int) 0 (aK V F c m) D)(hs:fa (λb=>b≠pb/\b≠db) W W' pb db (dG c ((m+1:Nat):Int) (aK V F c m,D)).1 (dG c ((m+1:Nat):Int) (aK V F c m,D)).2.1)(hsp:sb≠pb/\sb≠db)(hn:w.heap.size<=pb/\w.heap.size<=db):
  Cells W' sb [I Y V,I Y F,U s c.length cap,U (sO ⟨pb,0,nO⟩) (c.length+1) pc,U (sO ⟨db,0,nO⟩) (c.length+1) dc]/\Below w.heap.size w W'/\PRow (λb=>b≠pb/\b≠db) W' pb (aK V F c (m+1))/\((cL c ((m+1:Nat):Int) (aK V F c m)).2=true->SolAt w V F s c cap sb pb pc db dc (m+1) W'):=by
 obtain⟨s1,s2,s3,s4,s5⟩:=hs;obtain⟨d1,d2,d3⟩:=mH h0 hD;rw[d2] at s1;have c1:=h.st.same (s3 sb hsp.1 hsp.2 h.st.2.1) s4;have l1:=s5 hn.1 hn.2 h.lo.size h.lo;refine⟨c1,l1,s1,λht=>⟨c1,s1,⟨_,s2,?_⟩,λk hk=> ?_,l1⟩⟩
 ·rw[d2] at d1
  exact d1
 ·by_cases e:k=m
  ·rw[e];exact ht
  ·exact h.all k (by omega)
theorem pH (V F:Int)(s:oA)(c:List Ins)(cap:Nat)(w:World)(hc:CodeAt w s c):
  Calls pG 10 #[pv V F s c cap] w λe w'=>yg V F c e w'/\Below w.heap.size w w':=by
 have B0:Below w.heap.size w (w.alloc (Cc #[I Y V,I Y F,U s c.length cap] 24)):=by go_grown
 have P0:Cells (w.alloc (Cc #[I Y V,I Y F,U s c.length cap] 24)) w.heap.size [I Y V,I Y F,U s c.length cap]:=Cells.new w _ [_,_,_];have C0:=hc.call B0;have HC:=aa hc;clear hc;go_enter Tryz.func10,Tryz.ntmps10
 go_upto_region 1 with fail
 generalize w.alloc (Cc #[I Y V,I Y F,U s c.length cap] 24)=w0 at *;have p0:=P0.1 0 _ rfl;have p1:=P0.1 1 _ rfl;have p2:=P0.1 2 _ rfl;have HBG:=aa (uV V F s c cap w0 C0);go_wp2_with (go_at_call 29;fail);refine HBG.out.mono ?_;rintro e w1 ⟨⟨bs,bc,bf,be,rfl,PB,hbv,hbf⟩,hb1⟩;clear HBG p0 p1 p2;have B1:=B0.trans (hb1.mono B0.size);have P1:=P0.call hb1;have C1:=C0.call hb1;clear P0 C0 B0 hb1;by_cases h0:ag V F c=0;rotate_left
 ·have HE:Hid (∀w',yg V F c (Rt (Tu #[U nO 0 0,I Y 0,I Y (ag V F c)])) w'):=λw'=>.inl ⟨h0,rfl⟩
  generalize (if ag V F c=0 then aQ V F c else cQ)=bg at *;generalize ag V F c=r at *;have f1:(r !=0)=true:=by simpa using h0
  clear h0
  go_upto_region 3 with fail
  have hba:Below w1.heap.size w1 (w1.alloc (Cc #[Bb bg.none,U bs bg.vars.length bc,U bf bg.flds.length be] 28)):=by go_grown
  have B2:=B1.trans (hba.mono B1.size);clear P1 C1 B1 PB hba;generalize w1.alloc (Cc #[Bb bg.none,U bs bg.vars.length bc,U bf bg.flds.length be] 28)=w2 at *;go_wp2;refine bodyPost_ret (v:=Tu #[U nO 0 0,I Y 0,I Y r]) (by simp[results,Tryz.results10,go_sem]) rfl ?_;exact⟨HE.out _,B2⟩
 obtain⟨⟨hV1,hV8⟩,⟨hF0,hF3⟩,h60⟩:=bq h0;rw[if_pos h0] at PB hbv hbf;have HZ:Hid (ag V F c=0):=h0;rw[h0,if_pos rfl];obtain⟨bg,ebg⟩:∃b,b=aQ V F c:=⟨_,rfl⟩;have HBG:=aa ebg;rw[<-ebg] at PB hbv hbf |-;clear ebg h0;have hba:Below w1.heap.size w1 (w1.alloc (Cc #[Bb bg.none,U bs bg.vars.length bc,U bf bg.flds.length be] 28)):=by go_grown
 have G2:Cells (w1.alloc (Cc #[Bb bg.none,U bs bg.vars.length bc,U bf bg.flds.length be] 28)) w1.heap.size [Bb bg.none,U bs bg.vars.length bc,U bf bg.flds.length be]:=Cells.new w1 _ [_,_,_];have PB2:=PB.at.call hba;have P2:=P1.call hba;have C2:=C1.call hba;have B2:=B1.trans (hba.mono B1.size);clear P1 C1 B1 PB hba
 go_upto_region 4 with fail
 generalize w1.alloc (Cc #[Bb bg.none,U bs bg.vars.length bc,U bf bg.flds.length be] 28)=w2 at *;have p0:=P2.1 0 _ rfl;have p1:=P2.1 1 _ rfl;have p2:=P2.1 2 _ rfl;have g0:=G2.1 0 _ rfl;have g1:=G2.1 1 _ rfl;have g2:=G2.1 2 _ rfl;have HNS:=aa (Bo V F s c cap bg bs bc bf be w2 PB2 hbv hbf h60);go_wp2_with (go_at_call 32;fail);refine HNS.out.mono ?_;rintro e w3 ⟨pb,pc,db,dc,rfl,ST3,PR3,DR3,hpn,hne,hb3⟩;clear HNS p0 p1 p2 g0 g1 g2;have z2:=B2.size;have B3:=B2.trans (hb3.mono B2.size);obtain⟨sb,esb⟩:∃sb,sb=w2.heap.size+1+1+1+1:=⟨_,rfl⟩;rw[<-esb] at ST3 hne |-;have hsb:w.heap.size<=sb:=by omega
 clear esb;have HN:Hid (w.heap.size<=pb/\w.heap.size<=db):=⟨by omega,by omega⟩;have HNE:Hid (pb≠db/\sb≠pb/\sb≠db):=⟨hne.1,Ne.symm hne.2.1,Ne.symm hne.2.2⟩;have HSC:Hid (c≠[]->∀a,s=sO a->a.block≠pb/\a.block≠db):=λhcn a ha=>by
  rcases HC.out with h|⟨b,off,e,hb,-⟩
  ·exact absurd h hcn
  ·rw[e] at ha;cases ha
   have:=HN.out;exact⟨by simp only;omega,by simp only;omega⟩
 have S3:SolAt w V F s c cap sb pb pc db dc 0 w3:=by
  refine⟨ST3,?_,⟨_,DR3,?_⟩,λk hk=>absurd hk (by omega),B3⟩
  ·have e:aK V F c 0=bg::List.replicate c.length nonePic:=by rw[HBG.out];rfl
   rw[e];exact PR3.mono λb hb _=>⟨by have:=hpn.1;omega,by have:=hpn.2;omega⟩
  ·exact vq HZ.out
 clear ST3 PR3 DR3 hb3 B3 G2 PB2 P2 C2 B2 hbv hbf HBG hpn hne;go_wp2;obtain⟨M,hM⟩:∃M:Nat,M=200000000000003:=⟨_,rfl⟩;have HM:=aa hM;clear hM;have HMB:Hid (∀m:Nat,m<=200000000000000->m+2 < M):=λm h=>by rw[HM.out];exact Nat.lt_of_le_of_lt (Nat.add_le_add_right h 2) (by decide)
 clear HM;go_loopw [8] (λi wr=>∃m:Nat,i=I Y ((m+1:Nat):Int)/\Hid (SolAt w V F s c cap sb pb pc db dc m wr)) (λi _=>M - (intOf i).toNat)
 case atStart=>exact⟨0,rfl,S3⟩
 case round=>
  clear S3;obtain⟨m,rfl,HS⟩:=hrel;obtain⟨D,hDR,hDue⟩:=HS.out.dr;have hfew:=gq HZ.out HS.out.all;have hnw:IntKind.i64.wrap (((m+1:Nat):Int)+1)=((m+1:Nat):Int)+1:=by rw[IntKind.wrap_i64];omega
  have hxs:=cV HZ.out m;have HRD:Hid (Calls pG 33 #[Pp (sO ⟨sb,0,nO⟩),I Y ((m+1:Nat):Int)] wr λe w'=>e=Rt (Bb (dG c ((m+1:Nat):Int) (aK V F c m,D)).2.2)/\fa (λb=>b≠pb/\b≠db) wr w' pb db (dG c ((m+1:Nat):Int) (aK V F c m,D)).1 (dG c ((m+1:Nat):Int) (aK V F c m,D)).2.1):=by
   have hC:CodeAt wr s c:=HC.out.below HS.out.lo (lR _);have hpz:pb < wr.heap.size:=HS.out.pr.choose_spec.1.2.1;have hdz:db < wr.heap.size:=hDR.choose_spec.1.2.1;have hst:Cells wr sb [I Y V,I Y F,U s c.length cap,U (sO ⟨pb,0,nO⟩) (aK V F c m).length pc,U (sO ⟨db,0,nO⟩) D.length dc]:=by rw[hxs.len,hDue.len];exact HS.out.st
   exact vW V F s c cap sb pb pc db dc ((m+1:Nat):Int) (aK V F c m) D wr HZ.out hst HS.out.pr hDR hC HNE.out.1 HNE.out.2 (λb hb=>hb) (λb hb=>⟨by omega,by omega⟩) HSC.out hxs hDue.len hnw
  have HDD:=aa (mH HZ.out hDue);have HMM:Hid (m<=200000000000000):=by show _<=_;omega
  have HMX:=aa (HMB.out m HMM.out);have hmb:(m:Int)<=200000000000000:=by have:=HMM.out;omega
  go_wp2_with (go_at_call 33;fail);refine HRD.out.mono ?_;rintro e w5 ⟨rfl,SS⟩;obtain⟨N1,N2,N3,N4⟩:=HS.out.next HZ.out hDue SS HNE.out.2 HN.out;rw[HDD.out.2.2];clear HRD SS hDue hDR hfew hxs;rcases q6 (cL c ((m+1:Nat):Int) (aK V F c m)).2 with ht|ht
  ·have HNX:=aa (N4 ht)
   rw[ht];clear ht N1 N2 N3 N4;go_wp2;go_roundw
   case rel=>exact⟨m+1,by go_num,HNX.out⟩
   case measure=>have:=HMX.out;simp[intOf];omega
  ·have HSV:Hid (SolvedAt V F c m):=⟨HS.out.all,ht⟩
   rw[ht];clear ht N4;have q3:=N1.1 3 _ rfl;have HPR:Hid (XsAt w5 (sO ⟨pb,0,nO⟩) (aK V F c m)):=by
    show XsAt _ _ _;rw[<-(iE HZ.out HSV.out).1];exact N3.xs
   clear N3 N1 HS;go_wp2;refine bodyPost_ret (v:=Tu #[U (sO ⟨pb,0,nO⟩) (c.length+1) pc,I Y ((m+1:Nat):Int),I Y 0]) (by simp[results,Tryz.results10,go_sem]) rfl ?_;exact⟨.inr ⟨HZ.out,m,pb,pc,HSV.out,HMM.out,rfl,HPR.out⟩,N2⟩
theorem wT (b:Nat)(w:World)(hc:CodeAt w (sO ⟨b,0,nO⟩) c7):Calls pG 10 #[pv 1 0 (sO ⟨b,0,nO⟩) c7 2] w λe w'=>(∃pb pc:Nat,e=Rt (Tu #[U (sO ⟨pb,0,nO⟩) 3 pc,I Y 2,I Y 0])/\Hid (XsAt w' (sO ⟨pb,0,nO⟩) (aK 1 0 c7 1))/\w'.cell? ⟨pb,6,nO⟩=sO (Bb false))/\Below w.heap.size w w':=by
 refine(pH 1 0 (sO ⟨b,0,nO⟩) c7 2 w hc).mono ?_;rintro e w' ⟨h,hb⟩;refine⟨?_,hb⟩;rcases h with⟨h,_⟩|⟨_,m,pb,pc,hs,_,rfl,hx⟩
 ·exact absurd ku h
 ·obtain rfl:=hs.one hU
  refine⟨pb,pc,rfl,hx,?_⟩;obtain⟨b2,o2,e2,_,vs,vc,fs,fc,⟨c0,_⟩,_⟩:=hx 2 (by decide+kernel);cases e2;have e3:((aK 1 0 c7 1)[2]'(by decide+kernel)).none=false:=by decide+kernel
  rw[e3] at c0;simpa using c0
theorem yd (b pb pc:Nat)(w:World)(hc:CodeAt w (sO ⟨b,0,nO⟩) c7)(hx:XsAt w (sO ⟨pb,0,nO⟩) (aK 1 0 c7 1)):Calls pG 11 #[pv 1 0 (sO ⟨b,0,nO⟩) c7 2,U (sO ⟨pb,0,nO⟩) 3 pc] w λe w'=>e=Rt (Tu #[Bb true,I Y 0])/\Below w.heap.size w w':=by
 have h:=rA 1 0 (sO ⟨b,0,nO⟩) c7 2 (sO ⟨pb,0,nO⟩) (aK 1 0 c7 1) pc w hc hx (by decide+kernel);rw[(Aq ku hU).1,(Aq ku hU).2,show (aK 1 0 c7 1).length=3 by decide+kernel] at h;exact h
theorem eJ (w:World):Calls pG 15 #[] w λe w'=>e=Rt (Bb true)/\Below w.heap.size w w':=by
 go_enter Tryz.func15,Tryz.ntmps15;go_wp2_with (go_at_call 30;fail);refine(rd _).mono ?_;rintro e w1 ⟨b1,rfl,C1,hb1⟩;go_wp2_with (go_at_call 10;fail);refine(wT _ _ C1).mono ?_;rintro e w2 ⟨⟨pb,pc,rfl,X2,k2⟩,hb2⟩;have B2:=hb1.trans (hb2.mono hb1.size);have zp:pb < w2.heap.size:=World.block_lt_of_cell? w2 _ k2;clear C1 hb1 hb2;go_wp2_with (go_at_call 30;fail);refine(rd _).mono ?_;rintro e w3 ⟨b3,rfl,C3,hb3⟩;have X3:=aa (X2.out.below hb3 (lR _));have k3:w3.cell? ⟨pb,6,nO⟩=sO (Bb false):=by rw[hb3.cell (by simp only;exact zp)];exact k2
 have B3:=B2.trans (hb3.mono B2.size);have zq:=hb3.size;clear X2 k2 B2 hb3;go_wp2_with (go_at_call 11;fail);refine(yd _ _ _ _ C3 X3.out).mono ?_;rintro e w4 ⟨rfl,hb4⟩;have k4:w4.cell? ⟨pb,6,nO⟩=sO (Bb false):=by rw[hb4.cell (by simp only;omega)];exact k3
 have B4:=B3.trans (hb4.mono B3.size);clear X3 C3 k3 B3 hb4;go_wp2;refine bodyPost_ret (v:=Bb true) (by kernel_rfl) rfl ⟨rfl,B4⟩
end
section
open Go.RowKit
theorem Ee (w:World)(g:Gs)(ss:oA)(gc:Nat)(h:Gs)(st:oA)(hc:Nat)(hs:IntsAt w ss g.s)(hgl:g.s.length<=9223372036854775807)(ht:IntsAt w st h.s)(hhl:h.s.length<=9223372036854775807):
  Calls pG 27 #[I Y 9,gv g ss gc,gv h st hc] w λe w'=>e=Rt (if (ae g||ae h)=true then Tu #[gv noneG nO 0,Bb false] else Tu #[gv ⟨false,⟨true,0,0⟩,(g.n&&h.n)||(!(au g.sp h.sp).n||((g.t&&h.t)||((g.f&&h.f)||g.s.any λx=>h.s.contains x))),!cq g h,[]⟩ nO 0,Bb false])/\Below w.heap.size w w':=by
 have c1:g.n=true\/g.n=false:=by cases g.n<;>simp
 have c2:h.n=true\/h.n=false:=by cases h.n<;>simp
 by_cases hS:bp g < 0\/bp g≠bp h
 ·rcases c1 with e1|e1
  ·rcases c2 with e2|e2
   ·exact wX w g ss gc h st hc hs hgl ht hhl e1 e2 hS
   ·exact Aw w g ss gc h st hc hs hgl ht hhl e1 e2 hS
  ·exact yr w g ss gc h st hc hs hgl ht hhl e1 hS
 ·have h1:¬bp g < 0:=λh=>hS (.inl h)
  have h2:bp g=bp h:=Classical.byContradiction λh=>hS (.inr h);rcases c1 with e1|e1
  ·rcases c2 with e2|e2
   ·exact yD w g ss gc h st hc hs hgl ht hhl e1 e2 h1 h2
   ·exact ye w g ss gc h st hc hs hgl ht hhl e1 e2 h1 h2
  ·exact yl w g ss gc h st hc hs hgl ht hhl e1 h1 h2
theorem ko {p:Prop}(h:p:=by
 rintro e w' ⟨rfl,hb⟩;cases hn:(ae g||ae h)
 ·exact⟨none,0,by rw[if_neg (by simp),sF (by omega) hn],.inl ⟨by rw[sF (by omega) hn],rfl,rfl⟩,hb⟩
 ·exact⟨none,0,by rw[if_pos rfl,eT (by omega) hn],.inl ⟨by rw[eT (by omega) hn];rfl,rfl,rfl⟩,hb⟩):p:=h
theorem Cm {V F:Int}{c:List Ins}(g:Gs)(ss:oA)(gc:Nat)(h:Gs)(st:oA)(hc:Nat)(k:Int)(w:World)(hs:IntsAt w ss g.s)(hgl:g.s.length<=9223372036854775807)(ht:IntsAt w st h.s)(hhl:h.s.length<=9223372036854775807)(hck:aP V F c [g,h]=0)(hk:¬(k < 4\/10 < k)):
  Calls pG 27 #[I Y k,gv g ss gc,gv h st hc] w λe w'=>∃vs vc,e=Rt (Tu #[gv (bY k g h).1 vs vc,Bb (bY k g h).2])/\(((bY k g h).1.s=[]/\vs=nO/\vc=0)\/(vs=ss/\vc=gc/\(bY k g h).1.s=g.s))/\Below w.heap.size w w':=by
 obtain⟨-,hg,hh⟩:=kH hck;have ok1:=ckSp_ok.mp (fR hg);have ok2:=ckSp_ok.mp (fR hh);have h7:k=4\/k=5\/k=6\/k=7\/k=8\/k=9\/k=10:=by omega
 rcases h7 with rfl|rfl|rfl|rfl|rfl|rfl|rfl
 ·refine(Ep w g ss gc h st hc).mono ?_
  rintro e w' ⟨rfl,hb⟩;cases hn:ae g
  ·exact⟨ss,gc,by rw[if_neg (by simp),sB],.inr ⟨rfl,rfl,by rw[sB]⟩,hb⟩
  ·exact⟨nO,0,by rw[if_pos rfl,sB,kd hn hg],.inl ⟨by rw[sB,kd hn hg];rfl,rfl,rfl⟩,hb⟩
 ·refine(Eh w g ss gc h st hc ok1 ok2).mono ?_
  exact ko
 ·refine(Ej w g ss gc h st hc ok1 ok2).mono ?_
  exact ko
 ·refine(Et w g ss gc h st hc ok1 ok2).mono ?_
  exact ko
 ·refine(Eb w g ss gc h st hc).mono ?_
  rintro e w' ⟨rfl,hb⟩;cases hn:(ae g||ae h)
  ·exact⟨nO,0,by rw[if_neg (by simp),AH hn],.inl ⟨by rw[AH hn],rfl,rfl⟩,hb⟩
  ·exact⟨nO,0,by rw[if_pos rfl,eT (by omega) hn],.inl ⟨by rw[eT (by omega) hn];rfl,rfl,rfl⟩,hb⟩
 ·refine(Ee w g ss gc h st hc hs hgl ht hhl).mono ?_
  rintro e w' ⟨rfl,hb⟩;cases hn:(ae g||ae h)
  ·exact⟨nO,0,by rw[if_neg (by simp),Be hn],.inl ⟨by rw[Be hn],rfl,rfl⟩,hb⟩
  ·exact⟨nO,0,by rw[if_pos rfl,eT (by omega) hn],.inl ⟨by rw[eT (by omega) hn];rfl,rfl,rfl⟩,hb⟩
 ·refine(DL w g ss gc h st hc).mono ?_
  rintro e w' ⟨rfl,hb⟩;cases hn:ae g
  ·exact⟨nO,0,by rw[if_neg (by simp),nZ],.inl ⟨by rw[nZ],rfl,rfl⟩,hb⟩
  ·exact⟨nO,0,by rw[if_pos rfl,nZ,kd hn hg,no_none.1,no_none.2];rfl,.inl ⟨by rw[nZ],rfl,rfl⟩,hb⟩
end
section
open Go.RowKit
attribute [local go_sem ↓] Go.wp_at_zero Go.wp_at_succ
theorem pj {p:Prop}(h:p:=by
 have a0:=AP.1 0 _ rfl;have e0:=EP.1 0 _ rfl;have a1:=AP.1 1 _ rfl;have e1:=EP.1 1 _ rfl;have a2:=AP.1 2 _ rfl;have e2:=EP.1 2 _ rfl;have a3:=AP.1 3 _ rfl;have e3:=EP.1 3 _ rfl;have a4:=AP.1 4 _ rfl;have e4:=EP.1 4 _ rfl;have a5:=AP.1 5 _ rfl;have e5:=EP.1 5 _ rfl;have a6:=AP.1 6 _ rfl;have e6:=EP.1 6 _ rfl;go_wp2_with (go_at_call 27;fail);refine(HDO.out wp BP).mono ?_;rintro e wd ⟨ss,cp,rfl,HJ0,hbd⟩;have HJ:=aa HJ0;clear HJ0 HDO a0 e0 a1 e1 a2 e2 a3 e3 a4 e4 a5 e5 a6 e6 i0 q19 q18 q16 q15 q17 q13 q12 q11 q1 q14 q2 q3;have TQ:=TP.call hbd;have IQ:=IP.call hbd;have YQ:=YP.call hbd;have OQ:=OP.call hbd;have BQ:=BP.trans (hbd.mono BP.size);have YWQ:=YW.trans (hbd.mono YW.size);clear TP IP YP OP BP YW hbd PP XP AP EP;have TP:=TQ;have IP:=IQ;have YP:=YQ;have OP:=OQ;have BP:=BQ;have YW:=YWQ;clear TQ IQ YQ OQ BQ YWQ;have z0:=TP.1 0 _ rfl;have fz0:=TP.2.2 0;have z1:=TP.1 1 _ rfl;have fz1:=TP.2.2 1;have z2:=TP.1 2 _ rfl;have fz2:=TP.2.2 2;have z3:=TP.1 3 _ rfl;have fz3:=TP.2.2 3;have z4:=TP.1 4 _ rfl;have fz4:=TP.2.2 4;have z5:=TP.1 5 _ rfl;have fz5:=TP.2.2 5;have z6:=TP.1 6 _ rfl;have fz6:=TP.2.2 6
 go_upto_region 84 with fail
 clear z0 fz0 z1 fz1 z2 fz2 z3 fz3 z4 fz4 z5 fz5 z6 fz6;obtain⟨wx,ewx⟩:∃q,q=aO wd (w11.heap.size) 0 [.bool gg.n,.bool gg.sp.n,.int .i64 gg.sp.lo,.int .i64 gg.sp.hi,.bool gg.t,.bool gg.f,.slice ss gg.s.length cp]:=⟨_,rfl⟩;have PU:=aZ TP 0 _ ewx;simp only[aO] at ewx;rw[<-ewx];clear ewx;have TX:=PU.cells;have IX:=PU.keep IP;have YX:=PU.keep YP;have OX:=PU.keep OP;have BX:=PU.low (by omega) BP;have YWX:=PU.low (by omega) YW;have HGI:Hid (IntsIn (λb=>(T b/\b < w.heap.size)\/w3.heap.size<=b) wx ss gg.s):=(PU.ints HJ.out.1 (λq hq=>by omega)).mono λb hb _=>.inl hb;have HCP:Hid (gg.s.length<=cp/\cp<=maxLen):=HJ.out.2;clear PU HJ HGW;rcases Bool.eq_false_or_eq_true (ae gg) with hn0|hn0
 ·have hng:=aa hn0
  clear hn0;have HIS:Hid (∀wz,Calls Tryz.prog 28 #[.agg #[.bool gg.n,.bool gg.sp.n,.int .i64 gg.sp.lo,.int .i64 gg.sp.hi,.bool gg.t,.bool gg.f,.slice ss gg.s.length cp]] wz λe w'=>e=.returned (.bool true)/\Below wz.heap.size wz w'):=λwz=>by have h:=aW gg ss cp wz;rw[hng.out] at h;exact h
  have t0:=TX.1 0 _ rfl;have t1:=TX.1 1 _ rfl;have t2:=TX.1 2 _ rfl;have t3:=TX.1 3 _ rfl;have t4:=TX.1 4 _ rfl;have t5:=TX.1 5 _ rfl;have t6:=TX.1 6 _ rfl;go_wp2_with (go_at_call 28;fail);refine((HIS.out wx).mono ?_);rintro e wy ⟨rfl,hby⟩;clear t0 t1 t2 t3 t4 t5 t6;have TY:=TX.call hby
  have IY:=IX.call hby
  have YY:=YX.call hby
  have OY:=OX.call hby
  have BY:=BX.trans (hby.mono BX.size);have YWY:=YWX.trans (hby.mono YWX.size);have HGY:=aa (IntsIn.call HGI.out hby);clear TX IX YX OX BX YWX HIS HGI;clear TY IY YY OY YWY HGY;go_wp2;refine bodyPost_ret (v:=.tuple #[.slice none 0 0,.bool wr,.bool false]) (by simp[results,Tryz.results7,go_sem]) rfl ⟨?_,BY⟩;rw[HST.out,if_pos hng.out];exact⟨none,0,rfl,EdsOn.nil⟩
 ·have hng:=aa hn0
  clear hn0;have HIS:Hid (∀wz,Calls Tryz.prog 28 #[.agg #[.bool gg.n,.bool gg.sp.n,.int .i64 gg.sp.lo,.int .i64 gg.sp.hi,.bool gg.t,.bool gg.f,.slice ss gg.s.length cp]] wz λe w'=>e=.returned (.bool false)/\Below wz.heap.size wz w'):=λwz=>by have h:=aW gg ss cp wz;rw[hng.out] at h;exact h
  have t0:=TX.1 0 _ rfl;have t1:=TX.1 1 _ rfl;have t2:=TX.1 2 _ rfl;have t3:=TX.1 3 _ rfl;have t4:=TX.1 4 _ rfl;have t5:=TX.1 5 _ rfl;have t6:=TX.1 6 _ rfl;go_wp2_with (go_at_call 28;fail);refine((HIS.out wx).mono ?_);rintro e wy ⟨rfl,hby⟩;clear t0 t1 t2 t3 t4 t5 t6;have TY:=TX.call hby
  have IY:=IX.call hby
  have YY:=YX.call hby
  have OY:=OX.call hby
  have BY:=BX.trans (hby.mono BX.size);have YWY:=YWX.trans (hby.mono YWX.size);have HGY:=aa (IntsIn.call HGI.out hby);clear TX IX YX OX BX YWX HIS HGI;have GP:=GOW.same (w':=wy) (λb _ hlt=>YWY.block b hlt) YWY.size;have GC:=l8 (T:=T) (y:=⟨gg,ss,cp⟩) GOW (by omega) (by omega) HGY.out HCP.out.1 HCP.out.2;have hktv:kt < v.l.length:=by have h:=hktx;rw[EPV.out] at h;simpa[aG,roG] using h
  obtain⟨vb,evb,eb1,hvb,zvb⟩:=GOW.vars.form (by omega);have GP2:=(GP.mono (T':=λb=>T b\/w.heap.size<=b) λb hb _=>.inr hb);have GS:=GP2.setV evb hktv GC;have GU:=GP.vars.gu evb (k:=kt) hktv;obtain⟨⟨u0,u1,u2,u3,u4,u5,u6⟩,uz⟩:=GU;have TH:=GP.vars.thaw evb;have f0:=TH (kt * 7);have f1:=TH (kt * 7+1);have f2:=TH (kt * 7+2);have f3:=TH (kt * 7+3);have f4:=TH (kt * 7+4);have f5:=TH (kt * 7+5);have f6:=TH (kt * 7+6);have y1:=YY.1 1 _ rfl;rw[evb] at y1;have i1:=IY.1 1 _ rfl;rw[HKT.out] at i1;have t0:=TY.1 0 _ rfl;have t1:=TY.1 1 _ rfl;have t2:=TY.1 2 _ rfl;have t3:=TY.1 3 _ rfl;have t4:=TY.1 4 _ rfl;have t5:=TY.1 5 _ rfl;have t6:=TY.1 6 _ rfl;have q0:(0:Int)<=(kt:Int):=by omega
  have q1:(kt:Int) < (v.l.length:Int):=by omega
  have HEV:=aa evb;have OS:Cells (bH wy vb kt ⟨gg,ss,cp⟩) w4.heap.size [.int .i64 ((m:Int)+1),.bool false,.slice v.rs v.l.length v.rc,.slice gs L.length gc]:=OY.same (cD (by omega)) (by rw[cw];exact Nat.le_refl _);have BS:Below w.heap.size w (bH wy vb kt ⟨gg,ss,cp⟩):=cI BY (by omega);have HF:Hid (bE (λb=>T b\/w.heap.size<=b) (bH wy vb kt ⟨gg,ss,cp⟩) (.returned (.tuple #[.slice (some ⟨w4.heap.size,0,none⟩) 1 1,.bool wr,.bool false])) (ah i (m:Int) x)):=by
   show bE _ _ _ _;rw[HST.out,if_neg (by rw[hng.out];decide)];refine⟨some ⟨w4.heap.size,0,none⟩,1,rfl,?_⟩;refine fN (S:=(λb=>T b\/w.heap.size<=b)) (v:=⟨v.rs,v.rc,v.l.set kt ⟨gg,ss,cp⟩⟩) (L:=L) (by simp only[List.length_set];exact OS) (.inr (by omega)) GS (λb hb=>hb) (λb hb=>.inr (by omega)) ?_;rw[cW,<-EPV.out,HKT.out]
  clear GP GC GP2 GS TH TY IY YY OY OS BY HGY GOW YWY EPV evb;obtain⟨wv,ewv⟩:∃q,q=bH wy vb kt ⟨gg,ss,cp⟩:=⟨_,rfl⟩;have HF2:=aa (And.intro HF.out BS);rw[<-ewv] at HF2
  go_upto_region 87 with fail
  clear u0 u1 u2 u3 u4 u5 u6 uz f0 f1 f2 f3 f4 f5 f6 t0 t1 t2 t3 t4 t5 t6 y1 i1 HF BS;simp only[bH] at ewv;rw[<-ewv];clear ewv;go_wp2;refine bodyPost_ret (v:=.tuple #[.slice (some ⟨w4.heap.size,0,none⟩) 1 1,.bool wr,.bool false]) (by simp[results,Tryz.results7,go_sem]) rfl HF2.out):p:=h
theorem oE {p:Prop}(h:p:=by
 rw[<-hgw] at h;refine h.mono ?_;rintro e w' ⟨ss,cp,h1,h2,h3⟩;refine⟨ss,cp,h1,?_,h3⟩;rcases h2 with⟨e1,rfl,rfl⟩|⟨rfl,rfl,e1⟩
 ·exact⟨.inl e1,by rw[e1];exact Nat.zero_le _,Nat.zero_le _⟩
 ·have e2:gg.s=x.vars[ka].s:=e1
  rw[e2];exact⟨hga.call h3,GAI.2⟩):p:=h
theorem nT {p:Prop}(h:p:=by
 show _=_;unfold ah;rw[e,if_neg (by rw[HK.out.kx.none];decide),if_neg (by omega),if_neg (by omega),if_neg (by omega),if_neg (by omega),if_neg (by omega),if_neg (by omega),if_neg (show¬i.k=11 by omega)]):p:=h
theorem yB {T:Nat->Prop}{V F:Int}{s:oA}{c:List Ins}{cap m:Nat}{i:Ins}{x:Pic}{vs:oA}{vc:Nat}{fs:oA}{fc:Nat}{w:World}{w3 w4 w7 w11 wp:World}{v:Ro}{gs:oA}{gc:Nat}{L:List Ro}(hx:PicOn T w x vs fs)(K:SCtx V F c x vc fc i (m:Int))(hk:4<=i.k/\i.k<=10){ka:Nat}{sska:oA}{gcka:Nat}(hkax:ka < x.vars.length)(eka:i.a=(ka:Int)){kb:Nat}{sskb:oA}{gckb:Nat}(hkbx:kb < x.vars.length)(ekb:i.b=(kb:Int))(SP:Hid (SPre T V F s c cap (m:Int) i x vs vc fs fc w wp (w.heap.size+1+1) w3.heap.size w4.heap.size w7.heap.size (w7.heap.size+1) w11.heap.size w3 v gs gc L x.vars[ka] sska gcka x.vars[kb] sskb gckb)):SwT (λe w'=>bE (λb=>T b\/w.heap.size<=b) w' e (ah i (m:Int) x)/\Below w.heap.size w w') m w w3 w4 w7 w11 wp:=by
 have HKAV:=aa eka;have HKBV:=aa ekb;have HKK:=aa hk;clear hk;have HK:=aa K;have HX:=aa hx;have h60:=K.lens.2.1;have n0:(0:Int)<=(m:Int):=K.a0;have n1:(m:Int) < (c.length:Int):=K.a1;have hm:m < c.length:=by omega
 have w61:(m:Int)<=60:=by omega
 clear K hx eka ekb;refine eh rfl λz0 z2 z4 u=> ?_;simp only[q5,q5.loop,List.map];obtain⟨BP,PP,XP,IP,YP,OP,AP,EP,TP,GAI,GBI,GOW,YW,-,EPV0,-,o2,o3,o4,o5,o6⟩:=SP.out;have EPV:=aa EPV0;clear EPV0;have i0:=IP.1 0 _ rfl;have hk1:=HKK.out.1;have hk2:=HKK.out.2;have q19:(i.k==19)=false:=by simp;omega
 have q18:(i.k==18)=false:=by simp;omega
 have q16:(i.k==16)=false:=by simp;omega
 have q15:(i.k==15)=false:=by simp;omega
 have q17:(i.k==17)=false:=by simp;omega
 have q13:(i.k==13)=false:=by simp;omega
 have q12:(i.k==12)=false:=by simp;omega
 have q11:(i.k==11)=false:=by simp;omega
 have q1:(i.k==1)=false:=by simp;omega
 have q14:(i.k==14)=false:=by simp;omega
 have q2:(i.k==2)=false:=by simp;omega
 have q3:(i.k==3)=false:=by simp;omega
 clear hk1 hk2;obtain⟨kt,ekt,hktx⟩:=HK.out.varTo (by have h:=HKK.out;unfold nTo btw;simp;omega);have HKT:=aa ekt;clear ekt;have ega:gAt x i.a=x.vars[ka]:=by rw[HKAV.out,de hkax]
 have egb:gAt x i.b=x.vars[kb]:=by rw[HKBV.out,de hkbx]
 obtain⟨⟨gg,wr⟩,hgw⟩:∃q,q=bY i.k x.vars[ka] x.vars[kb]:=⟨_,rfl⟩;have HGW:=aa hgw;have HST:Hid (ah i (m:Int) x=if ae gg then([],wr,false) else([⟨(m:Int)+1,aN x i.tgt gg⟩],wr,false)):=by
  have hr:=HKK.out;have e:aM i (m:Int) x=(gg,wr):=by
   unfold aM;rw[if_neg (by omega),if_neg (by omega),if_neg (by omega),if_neg (by omega),if_neg (by omega),if_neg (by omega),ega,egb];exact hgw.symm
  exact nT
 have HDO:Hid (∀wx,Below w.heap.size w wx->Calls pG 27 #[I Y i.k,Ag #[Bb x.vars[ka].n,Bb x.vars[ka].sp.n,I Y x.vars[ka].sp.lo,I Y x.vars[ka].sp.hi,Bb x.vars[ka].t,Bb x.vars[ka].f,U sska x.vars[ka].s.length gcka],Ag #[Bb x.vars[kb].n,Bb x.vars[kb].sp.n,I Y x.vars[kb].sp.lo,I Y x.vars[kb].sp.hi,Bb x.vars[kb].t,Bb x.vars[kb].f,U sskb x.vars[kb].s.length gckb]] wx λe w'=>∃ss cp,e=Rt (Tu #[Ag #[Bb gg.n,Bb gg.sp.n,I Y gg.sp.lo,I Y gg.sp.hi,Bb gg.t,Bb gg.f,U ss gg.s.length cp],Bb wr])/\(IntsIn (λb=>T b/\b < w.heap.size) w' ss gg.s/\gg.s.length<=cp/\cp<=maxLen)/\Below wx.heap.size wx w'):=λwx hb'=>by
  have hr:=HKK.out;have hcka:=HK.out.kx.gv _ (gM hkax);have hgb:IntsAt wx sskb (x.vars[kb]:Gs).s/\(x.vars[kb]:Gs).s.length<=9223372036854775807:=⟨(GBI.1.same (w':=wx) (λb hb hlt=>hb'.block b hlt) hb'.size).at,by have:=GBI.2.1;have:=GBI.2.2;unfold maxLen at *;omega⟩
  have hga:IntsIn (λb=>T b/\b < w.heap.size) wx sska x.vars[ka].s:=(GAI.1.mono (S':=λb=>T b/\b < w.heap.size) λb hb hlt=>⟨hb,hlt⟩).same (λb hb hlt=>hb'.block b hlt) hb'.size;have h:=Cm (V:=V) (F:=F) (c:=c) x.vars[ka] sska gcka x.vars[kb] sskb gckb i.k wx hga.at (by have:=GAI.2.1;have:=GAI.2.2;unfold maxLen at *;omega) hgb.1 hgb.2 (HK.out.duo hcka (HK.out.kx.gv _ (gM hkbx))) (by omega)
  exact oE
 clear hgw ega egb;exact pj
theorem Au {T:Nat->Prop}{V F:Int}{s:oA}{c:List Ins}{cap m:Nat}{i:Ins}{x:Pic}{vs:oA}{vc:Nat}{fs:oA}{fc:Nat}{w:World}{w3 w4 w7 w11 wp:World}{v:Ro}{gs:oA}{gc:Nat}{L:List Ro}(hx:PicOn T w x vs fs)(K:SCtx V F c x vc fc i (m:Int))(hk:4<=i.k/\i.k<=10)(hnB:nB i.k=false){ka:Nat}{sska:oA}{gcka:Nat}(hkax:ka < x.vars.length)(eka:i.a=(ka:Int))(SP:Hid (SPre T V F s c cap (m:Int) i x vs vc fs fc w wp (w.heap.size+1+1) w3.heap.size w4.heap.size w7.heap.size (w7.heap.size+1) w11.heap.size w3 v gs gc L x.vars[ka] sska gcka noneG nO 0)):SwT (λe w'=>bE (λb=>T b\/w.heap.size<=b) w' e (ah i (m:Int) x)/\Below w.heap.size w w') m w w3 w4 w7 w11 wp:=by
 have HKAV:=aa eka;have HKK:=aa hk;have hnBO:=aa hnB;clear hk hnB;have HK:=aa K;have HX:=aa hx;have h60:=K.lens.2.1;have n0:(0:Int)<=(m:Int):=K.a0;have n1:(m:Int) < (c.length:Int):=K.a1;have hm:m < c.length:=by omega
 have w61:(m:Int)<=60:=by omega
 clear K hx eka;refine eh rfl λz0 z2 z4 u=> ?_;simp only[q5,q5.loop,List.map];obtain⟨BP,PP,XP,IP,YP,OP,AP,EP,TP,GAI,GBI,GOW,YW,-,EPV0,-,o2,o3,o4,o5,o6⟩:=SP.out;have EPV:=aa EPV0;clear EPV0;have i0:=IP.1 0 _ rfl;have hk1:=HKK.out.1;have hk2:=HKK.out.2;have q19:(i.k==19)=false:=by simp;omega
 have q18:(i.k==18)=false:=by simp;omega
 have q16:(i.k==16)=false:=by simp;omega
 have q15:(i.k==15)=false:=by simp;omega
 have q17:(i.k==17)=false:=by simp;omega
 have q13:(i.k==13)=false:=by simp;omega
 have q12:(i.k==12)=false:=by simp;omega
 have q11:(i.k==11)=false:=by simp;omega
 have q1:(i.k==1)=false:=by simp;omega
 have q14:(i.k==14)=false:=by simp;omega
 have q2:(i.k==2)=false:=by simp;omega
 have q3:(i.k==3)=false:=by simp;omega
 clear hk1 hk2;obtain⟨kt,ekt,hktx⟩:=HK.out.varTo (by have h:=HKK.out;unfold nTo btw;simp;omega);have HKT:=aa ekt;clear ekt;have ega:gAt x i.a=x.vars[ka]:=by rw[HKAV.out,de hkax]
 obtain⟨⟨gg,wr⟩,hgw⟩:∃q,q=bY i.k x.vars[ka] noneG:=⟨_,rfl⟩;have HGW:=aa hgw;have EDO:Hid (∀h,bY i.k x.vars[ka] h=bY i.k x.vars[ka] noneG):=λh=>by
  have hb:=hnBO.out;have hr:=HKK.out;have:i.k=4\/i.k=10:=by unfold nB btw at hb;simp at hb;omega
  rcases this with e|e<;>rw[e]<;>simp[bY]
 have HST:Hid (ah i (m:Int) x=if ae gg then([],wr,false) else([⟨(m:Int)+1,aN x i.tgt gg⟩],wr,false)):=by
  have hr:=HKK.out;have e:aM i (m:Int) x=(gg,wr):=by
   unfold aM;rw[if_neg (by omega),if_neg (by omega),if_neg (by omega),if_neg (by omega),if_neg (by omega),if_neg (by omega),ega,EDO.out];exact hgw.symm
  exact nT
 have HDO:Hid (∀wx,Below w.heap.size w wx->Calls pG 27 #[I Y i.k,Ag #[Bb x.vars[ka].n,Bb x.vars[ka].sp.n,I Y x.vars[ka].sp.lo,I Y x.vars[ka].sp.hi,Bb x.vars[ka].t,Bb x.vars[ka].f,U sska x.vars[ka].s.length gcka],Ag #[Bb false,Bb true,I Y 0,I Y 0,Bb false,Bb false,U nO 0 0]] wx λe w'=>∃ss cp,e=Rt (Tu #[Ag #[Bb gg.n,Bb gg.sp.n,I Y gg.sp.lo,I Y gg.sp.hi,Bb gg.t,Bb gg.f,U ss gg.s.length cp],Bb wr])/\(IntsIn (λb=>T b/\b < w.heap.size) w' ss gg.s/\gg.s.length<=cp/\cp<=maxLen)/\Below wx.heap.size wx w'):=λwx hb'=>by
  have hr:=HKK.out;have hcka:=HK.out.kx.gv _ (gM hkax);have hgb:IntsAt wx nO (noneG:Gs).s/\(noneG:Gs).s.length<=9223372036854775807:=⟨.inl rfl,z7 _⟩;have hga:IntsIn (λb=>T b/\b < w.heap.size) wx sska x.vars[ka].s:=(GAI.1.mono (S':=λb=>T b/\b < w.heap.size) λb hb hlt=>⟨hb,hlt⟩).same (λb hb hlt=>hb'.block b hlt) hb'.size;have h:=Cm (V:=V) (F:=F) (c:=c) x.vars[ka] sska gcka noneG nO 0 i.k wx hga.at (by have:=GAI.2.1;have:=GAI.2.2;unfold maxLen at *;omega) hgb.1 hgb.2 (HK.out.duo hcka (rfl)) (by omega)
  exact oE
 clear hgw ega EDO;exact pj
end
end Go.Proofs.YtmapdpcfanecdabGreat
